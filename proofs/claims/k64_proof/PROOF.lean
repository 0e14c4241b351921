import PyProof.Rows.All
import Wide.All
import OpenK.AllK
import Wide.FinOn
import Lean
import PyProof.EqAt
import PyProof.EqKinds
import PyProof.TupleCall
import PyProof.Rows.SortRunsK
import PyProof.Rows.Walk
import KE.KSortTup
import PyProof.ListRange
import PyProof.Rows.SetFrom
import PySem.Challenge.RW_restdraw_k64_whole_untied_ones_exchanged
set_option Elab.async false
set_option linter.all false
set_option maxRecDepth 100000
local macro_rules | `(tactic| omega)=>`(tactic| lia)
noncomputable section
open List renaming getElem?_eq_getElem->ae,getD_eq_getElem?_getD->aj,length_map->ak,getElem?_eq_some_iff->ao,getElem?_append_left->bb,getElem?_append_right->bf,getElem?_map->bg,append_assoc->bp,length_append->bu,mem_singleton->bz,mem_append->cf,mem_append_right->cm,nodup_append->cu,range->cw,mem_append_left->dc,length_take->de,mem_cons_of_mem->dh,mem_of_getElem?->di,getElem?_concat_length->dq,map_append->du,mem_cons->eK,dropLast_concat_getLast->eN,pairwise_append->eO,mem_iff_getElem->eV,mem_cons_self->eW,getElem?_set_ne->eZ,size_toArray->fe,getLast?_eq_some_getLast->fj,length_singleton->fk,nodup_cons->fu,map_cons->gh,idxOf_lt_length_of_mem->gj,take_append_drop->gk,replicate->gy,length_range->iH,take_length->iJ,length_drop->iP,length_cons->iQ,mem_map->iR,append_nil->iU,mem_filter->iX,getElem_mem->ie,take_succ->iq,length->jd,cons_append->ji,getLast?_append->jj,mem_range->jr,nil_append->kb,getLastD_eq_getLast?->kh,getElem?_set_self->ki,pairwise_map->km,perm_append_comm->kr,take_of_length_le->ky,length_filter_le->ni,getElem?_zip_eq_some->nj,getLast?_eq_getElem?->og,drop_eq_nil_of_le->oq,getElem?_take_of_lt->ow,flatMap_append->oz,mem_of_mem_tail->pe,length_eq_zero_iff->qb,pairwise_singleton->qc,pairwise_iff_getElem->qh,getLast?_cons_cons->qi,map_congr_left->qk,extract_eq_take_drop->qm,append_of_mem->rm,not_mem_nil->si,nodup_range->tw,filter_append->tz,perm_ext_iff_of_nodup->ug,getElem?_eq_none->uh,map_map->ui,find?_cons->uo,filter_cons->ve,mem_of_getLast?->vf,foldl_cons->vk,length_flatMap->vw,length_pos_iff->vy,replicate_succ->wd,range'_succ->we,filter_cons_of_pos->wj,filter_cons_of_neg->wk,all_eq_true->wo,take_append_of_le_length->wu,take_sublist->wz,flatMap_singleton->xg,map_take->xj,length_replicate->xt,flatten_cons->xx,idxOf_append->yc,getElem?_inj->ye,flatMap_cons->yg,length_nil->yh,take_left'->yj,reverse_append->ym,nodup_nil->yo,zipIdx_cons->yp,getElem_map->yq,mem_reverse->yr,map_drop->zj,of_mem_zip->zk,forIn_cons->zm,getElem?_drop->zw,getElem?_take->zx,getElem_inj->AA,range'->AC,mem_flatMap->AD,eraseIdx_append_of_length_le->AE,drop_drop->AL,getElem_take->AM,take_take->AN,filter_eq_nil_iff->AQ,pairwise_lt_range->AR,pairwise_reverse->AV,mem_iff_getElem?->AW,lookup_cons->AY,drop_append->Aa,map_snd_zip->Ac,length_zip->Af,any_cons->Ag,sum_cons->Ah,cons_ne_nil->Am,mem_of_mem_drop->An,mem_of_mem_take->Ao,drop_append_of_le_length->Ap,length_set->As,zipIdx_nil->Av,filterMap_cons->BA,length_reverse->BB,mergeSort_perm->BC,take_zero->BG,forIn_nil->BQ,range_succ->BR,nodup_iff_pairwise_ne->BS,pairwise_cons->BV,zip_cons_cons->BW,getElem_idxOf->BX,find?_eq_none->BY,Nodup->Ba,filter_nil->Bb,drop_eq_getElem_cons->Bc,getElem_drop->Bo,ext_getElem?->Bp,reverse_cons->Bq,ext_getElem->CF,perm_middle->CG,map_fst_zip->CJ,map_nil->CQ,length_eq_one_iff->CZ,find?_cons_of_pos->Cc,find?_cons_of_neg->Cd,drop_left'->Ci,pairwise_flatMap->Cq,reverse_reverse->Cy,idxOf_cons_self->DB,getLast?_concat->DC,getElem?_range->DH,filter_eq_self->DI,map_eq_nil_iff->DJ,mem_filterMap->DQ,mem_replicate->DX,map_singleton->DY,foldl_append->Dr,mem_of_head?->Dy,take_append->EG,any_eq_true->EI,flatMap_def->EJ,sum_append->EV,zip_append->EX,foldl->El,drop_take->Et,drop_zero->Eu,tail_cons->Ex,all_cons->Fb,take->Fv,all_map->GC,drop->Gj
open PySem renaming wpAny_bind->ai,Value->ar,Addr->av,Shared->ay,wpAny_pure->bj,wpAny->dr,Program->fb,boot_len->fc,Around->fq,mainGlobals->gn,World->iI,Heap->iO,Expr->iS,wpAny_field->iY,wpAny_newObj_type->jh,wpAny_callSpecial?_slot->ka,wpAny_seqItems->kg,wpAny_setField_rec->kl,wpAny_holding->mj,wpAny_call_entry->mo,mem_of_lookup->oh,wpAny_comprehension_free->ox,Stmt->qa,wpAny_truthy_bool->qj,wpAny_newFunctionEnv->sd,wpAny_dictEntries->sk,FuncData->ua,NameKind->ub,wpAny_passesOwn->um,Fin->uq,wpAny_mono->vi,wpAny_onRaise->vt,Scope->wc,IsZip->wq,wpAny_pyIter_tuple->wy,wpAny_rule->xb,wpAny_standAt->xm,IsPair->xu,Model->yt,wpAny_attempt->zf,Builtin->zo,wpAny_loadPart'->zq,tupleKind_room_in1->zu,wpAny_typeOf->AH,call_meets->AX,wpAny_forIn_list->AZ,wpAny_pyIter_zip->Ae,wpAny_updateSeq_pair->Ak,wpAny_letGo->Al,wpAny_execs_nil->Ar,wpAny_dictEpoch->Ay,sizeLine->BH,wpAny_Call_Name_kw->BM,wpAny_letOwnedTupleGo_zip->Be,wpAny_assign_Name->Bi,wpAny_pyIter_list->Bj,sizeLine_eq->Bk,noFill_tuple_add->CA,DictEntry->CB,wpAny_isInstance->CI,IsPart->CM,wpAny_specialOf->Cg,size_of_entries->Ck,wpAny_isTrue_Compare1->Co,exec_Assign_Name_used->Cp,PyData->Cu,wpAny_newTuple->Cw,seq_tuple_add->DL,Comprehension->DM,wpAny_newList->DN,BindsTo->Dc,codeAny_mono->De,concat_meets->Df,wpAny_sequenceKey->Dg,seqIndex_neg->Dh,slot_list_getitem->Di,callType_new->Dl,wpAny_pyIter_enum->Dm,arm_eval_DictComp->Do,atKey_none_of_get->Du,wpAny_eqBool_int->EA,wpAny_execs_cons->EB,seqIndex_of->EK,Draws->EL,wpAny_tests_nil->ER,codeAny_builtin->EW,Keyword->EY,Paired->Ea,wpAny_Name->Ec,typeIs_int->Ek,fitsIndex_both->Em,call->Eo,wpAny_setField->Ep,isSubtype_stop->Ew,PassesOwn->Fk,Within->Fw,CmpOp->GO,Params->GY,Code->Gi
open PySem.Heap renaming get?_push_of_some->au,lt_size->cg,get?_push_size->cj,size_push->ip,SameBut->jb,get?_update_self->qz,get?_update_ne->yx,get?_update_other->CO,get?_push_cases->Cv
open PySem.W renaming Frag->az,nsIn->jv,kia_one->ml,fnOf->uw,keepIn->AF,codeIn->BN,methodObj->Bg,cellsFrom_some->CL,instObj->Ce,OpenLaw->Cf,lookIn->Ct,kitx_list->DZ,kitx_dict->Da,plainGet->EC,findIn->Ef,kitOne->Eg,WalkO->Fd,mg_of->Fe
open Nat renaming le_refl->be,lt_of_lt_of_le->cv,ne_of_lt->eA,le_of_lt->fv,zero_le->iG,lt_or_ge->iV,ne_of_gt->jc,lt_of_le_of_lt->jl,le_trans->ju,min_eq_left->kq,lt_irrefl->rj,sub_add_cancel->uf,add_assoc->xp,lt_trichotomy->ya,lt_succ_of_lt->yd,add_comm->AI,le_succ->Ai,strongRecOn->Az,lt_succ_self->CC,zero_add->CT,add_zero->CV,sub_self->CW,mul_le_mul_left->DK,add_sub_cancel->DW,sub_zero->Dw,le_of_eq->Fz,div_one->GU
open PyProof.Rows renaming Keyed->bh,wpS_bind->ck,pendingOf->cx,arrOf->cy,wpS_pure->df,SortSt->eR,callWith_type1->ir,boot_tuple->je,slot_tuple_getitem->jt,wpS_forRange->jx,SortKind->oy,boot_sorted->pd,wpS_modify->qe,wpS_mono->uy,failedOf->uz,boot_isinstance->xk,wpS_get->zr,reverseSlice'_eq->Ab,get?_update_seq->Aw,AllBare->Bh,listUpdate_at->Bt,subscriptTail_builtinR->CN,boot_list->Ca,boot_int->Cr,boot_all->Cs,entry_tuple_getitem->DF,args_tuple_getitem->DR,IntsAre->Dj,listItems_at->Ds,callWith_builtin1->ED,seqEpoch_at->EM,IsTup->Eb,boot_range->Ee,slicePart_none->Eh,Subscript_->Ei,Call_->Fn,args_cons->GB,boot_bool->GD,args_nil->GF,boot_max->GH,boot_abs->GJ,boot_min->GK,wpS_lift->GT,lt_int->GW
open Option.some renaming inj->bq,injEq->Ge
open Option renaming map_eq_some_iff->cq,toList_some->rh,map_some->xi,isSome_iff_exists->yy,getD_some->CK,map_eq_none_iff->Cb,isSome_map->Dk,getD_none->EE,none->GQ,map->Gc
open Bool renaming false_ne_true->dw,false_eq_true->eP,and_eq_true->iK,eq_iff_iff->iL,not_true->ze,or_eq_true->Cj,not_eq_true'->Dq,false_and->Ed,not_false->Es
open Classical renaming byContradiction->eX,choose_spec->rg,choose->wg
open List.Nodup renaming length_le_of_subset->eY
open PySem.Builtin.SmallTypes renaming nextOf->gv,ownedTupleIsFree->iA,ownedTupleHandOut->om
open Sum renaming inl->gw,inr->DD
open Array renaming length_toList->iB,toList_append->iC,size_push->iz,size_extract->ko,getElem?_toList->ou,mem_toList_iff->uu,toList_extract->va,toList_push->vd,size_append->yf,toList_reverse->yk,toList_setIfInBounds->BU,getElem_mem->Bm,size_setIfInBounds->Bs,toList_modify->DG,size_reverse->DV,isEmpty_iff->Dv,toList->Fy,getD->Gb
open PySem.PyData renaming eqvAll->iW,int->iu,eqv->ja,canLayAll0->lj,canLay0->mh,depthAll->ph,depth->ql
open Int renaming toNat_natCast->iw,eq_ofNat_of_zero_le->mf,zero_add->xh,fdiv_eq_ediv_of_nonneg->BL,emod_lt_of_pos->BZ,emod_nonneg->Cm
open ForInStep renaming yield->jg,done->yi
open PySem.F renaming slot_list_append->jo,type_list_append->jq,slot_list_index->md,type_list_index->me,slot_zip_next->tf,slot_tuple_iterator_next->ue,args_tuple_add_2->yz,plainAttrs_tuple->zg,slot_tuple_index->zh,type_tuple_index->zi,entry_tuple_add->AB,slot_tuple_add->AG,args_zip_next_1->AO,entry_zip_next->Ad,slot_dict_itemiterator_iter->Aq,args_tuple_iterator_next_1->Au,entry_tuple_iterator_next->BE,slot_dict_update->Bu,slot_list_insert->Bv,type_list_insert->Bw,slot_list_remove->Bx,type_list_remove->By,slot_dict_items->Dx,slot_int_rmul->EO,entry_zip_new->ES,called_zip->GA
open PySem.Heap.SameBut renaming update->jw,refl->AJ
open PySem.Value renaming ref->jz,int->uk,none->zt,bool->BI,type->BJ,str->Dz,isStrOf->FM,isInt->GM,float->GN
open PySem.SeqAt renaming shaped->kj,EqAt->Ej
open Std.Legacy.Range renaming forIn_eq_forIn_range'->sh,size->AU
open Ne renaming symm->sj
open True renaming intro->so
open Prod renaming snd->tm,ext->ux,fst->CD
open PySem.Obj renaming mapSeq->ud,data_mapDictKeys->yn,isFreed_of_dict->BD,data_mapFields->DU,data_mapDict->EH
open PySem.Builtin.Slice renaming slicePlaces->uj,sliceAdjust->yu,sliceApplied->BO,slicePartIndex->EN,sliceFields->FJ
open List.Perm renaming trans->ur,append_right->xc,append_left->xw,refl->AK,eq_of_pairwise->Bz,swap->DA
open PySem.Paired renaming length->vh,snoc->GR
open PySem.Builtin.Tuple renaming tupleExact->vj,tupleItemsOf->BP,tupleIsExact->Er,tupleHashOf->FK
open False renaming elim->wx
open PySem.Str renaming ofString->xa
open Or renaming inl->yw,inr->EF
open PySem.Builtin.List renaming listTooLong->zd,listExtendWith->BF
open Sum.inl renaming inj->zy
open PySem.Shared renaming heap->Aj
open PySem.Builtin.Dict renaming entriesForEmpty->Ax,updateFrom->CH,mergeDict->CY,quietEq->Cz,readDirectly->FL,selfAndRest->Fh,addKeywords->Fi,showsAll->GE,merge->Gd
open PySem.Calls renaming Name_function_global->BK,callWith_builtin->CP
open List.Pairwise renaming nil->Bl,imp_of_mem->Ff,map->Gf,imp->Gg
open Iff renaming rfl->Bn
open PySem.NameKind renaming free->Br
open PyProof.Rows.SortSt renaming mk'->CU
open PySem.SeqAt.EqAt renaming int_str->DO,str_int->DP
open PySem.PassesOwn renaming never->ET
open PySem.Heap.DictOf renaming new->EU
open PySem.EqNone renaming eq_none_none->Ey,eq_none_bool->Ez,eq_bool_none->FA,ne_none_none->FD,ne_none_bool->FE,ne_bool_none->FF,eq_none_int->FN,eq_none_str->FO,eq_int_none->FP,eq_str_none->FR,ne_none_int->FU,ne_none_str->FV,ne_int_none->FW,ne_str_none->FY
open PySem.EqMixed renaming eq_bool_str->FB,eq_str_bool->FC,ne_bool_str->FG,ne_str_bool->FH,eq_int_str->FQ,eq_str_int->FS,ne_int_str->FX,ne_str_int->FZ
open PySem.W.Looks renaming of_pure->Fg
open List.cons renaming inj->Fj
open PySem.Builtin.Range renaming rangeSize->Fm
open And renaming intro->Fo
open PySem.IsRange renaming new->GP
open PySem.MeetsSeq.EqGives renaming int->GS
open PySem.Builtin.Int renaming intBits->GV
open PySem.Heap.IsSliceOf renaming new->GX
open PySem.W.WShape renaming has->GZ
open PUnit renaming unit->Ga
open PySem.W.WData renaming int->Gh
def yS0:0<=BH:=by decide
def yS1:1<=BH:=by decide
def yS2:2<=BH:=by decide
def yS3:3<=BH:=by decide
namespace L2
open PySem PySem.Spec PyProof.Rows
abbrev Key:=Sum Int Str
def mS:Key->ar->Bool
 | .inl k,v=>GM k v
 | .inr x,v=>FM x v
def kWI(w:iI):Key->Int
 | .inl k=>hashInt k
 | .inr x=>hashStr w x
def qX:∀{k:Key}{v:ar},mS k v=true->(∃ i t,k=gw i/\v=uk i t)\/(∃ x t,k=DD x/\v=Dz x t)
 | .inl i,v,h=>by
  obtain⟨t,e⟩:=Value.isInt_shape (k:=i) (v:=v) h;exact .inl ⟨i,t,rfl,e⟩
 | .inr x,v,h=>by
  obtain⟨t,e⟩:=Value.isStrOf_shape (x:=x) (v:=v) h;exact .inr ⟨x,t,rfl,e⟩
def kJK(i:Int)(t:Tok):mS (.inl i) (.int i t)=true:=by simp[mS,GM]
def kJJ(x:Str)(t:Tok):mS (.inr x) (.str x t)=true:=by simp[mS,FM]
def kTG(a b:Int):decide ((gw a:Key)=gw b)=(a == b):=by
 by_cases e:a=b
 ·subst e;simp
 ·have h:¬ (gw a:Key)=gw b:=λ q=>e (zy q)
  rw[decide_eq_false h];exact(beq_eq_false_iff_ne.mpr e).symm
def kTD(a b:Str):decide ((DD a:Key)=DD b)=decide (a=b):=by
 by_cases e:a=b
 ·subst e;simp
 ·have h:¬ (DD a:Key)=DD b:=λ q=>e (Sum.inr.inj q)
  rw[decide_eq_false h,decide_eq_false e]
def kTF(a:Int)(b:Str):decide ((gw a:Key)=DD b)=false:=decide_eq_false (λ q=>nomatch q)
def kTE(a:Str)(b:Int):decide ((DD a:Key)=gw b)=false:=decide_eq_false (λ q=>nomatch q)
def qG(prog:fb)(w:iI):PySem.KeyKind prog w Key where
 is:=mS
 hash:=kWI w
 inj:=λ v a b g d=>by
  rcases qX g with⟨i,t,rfl,rfl⟩ | ⟨x,t,rfl,rfl⟩
  ·rcases qX d with⟨j,u,rfl,e⟩ | ⟨y,u,rfl,e⟩
   ·injection e with e1 _;rw[e1]
   ·exact nomatch e
  ·rcases qX d with⟨j,u,rfl,e⟩ | ⟨y,u,rfl,e⟩
   ·exact nomatch e
   ·injection e with e1 _;rw[e1]
 byValue:=λ k v h=>by
  rcases qX h with⟨i,t,rfl,rfl⟩ | ⟨x,t,rfl,rfl⟩<;>rfl
 pyHash:=λ c h=>by
  rcases qX c with⟨i,t,rfl,rfl⟩ | ⟨x,t,rfl,rfl⟩
  ·exact wpAny_pyHash_int h
  ·exact wpAny_pyHash_str h
 eqBool:=λ f c h=>by
  rcases qX f with⟨i,t,rfl,rfl⟩ | ⟨x,t,rfl,rfl⟩
  ·rcases qX c with⟨j,u,rfl,rfl⟩ | ⟨y,u,rfl,rfl⟩
   ·rw[kTG]at h;exact EA h
   ·rw[kTF]at h;exact DO i t y u _ _ _ _ h
  ·rcases qX c with⟨j,u,rfl,rfl⟩ | ⟨y,u,rfl,rfl⟩
   ·rw[kTE]at h;exact DP x t j u _ _ _ _ h
   ·rw[kTD]at h;exact wpAny_eqBool_str h
 «strs»:=λ k x t v h=>by
  rcases qX h with⟨i,u,rfl,e⟩ | ⟨y,u,rfl,e⟩
  ·exact nomatch e
  ·injection e with e1 _
   subst e1;cases v<;>rfl
def kEB(prog:fb)(w:iI)(k:Key)(v:ar):(qG prog w).is k v=mS k v:=rfl
def kBN(prog:fb)(w:iI)(i:Int)(t:Tok):(qG prog w).is (.inl i) (.int i t)=true:=kJK i t
def kBM(prog:fb)(w:iI)(x:Str)(t:Tok):(qG prog w).is (.inr x) (.str x t)=true:=kJJ x t
inductive V where
 | non | bl (b:Bool) | int (i:Int) | str (x:Str) | byt (b:Array UInt8) | flt (b:UInt64) | ref (a:av) | ty (n:String)
 deriving DecidableEq
def RelV:V->ar->Prop
 | .non,u=>u=zt
 | .bl b,u=>u=BI b
 | .int i,u=>∃ t,u=uk i t
 | .str x,u=>∃ t,u=Dz x t
 | .byt b,u=>∃ t,u=Value.bytes b t
 | .flt b,u=>∃ t,u=GN b t
 | .ref a,u=>u=jz a
 | .ty n,u=>u=BJ n
abbrev Vals:List V->List ar->Prop:=Ea RelV
theorem Vals.length{xs:List V}{a:List ar}(r:Vals xs a):xs.length=a.length:=vh r
theorem Vals.get:∀{xs:List V}{a:List ar}{i:Nat}{x:V},Vals xs a->xs[i]?=some x->∃ u,a[i]?=some u/\RelV x u
 | _,_,_,_,.nil,e=>by simp at e
 | _,_,0,_,.cons r _,e=>by simp at e;subst e;exact⟨_,rfl,r⟩
 | _,_,i+1,x,.cons _ t,e=>by
  obtain⟨u,h1,b⟩:=Vals.get (i:=i) (x:=x) t (by simpa using e);exact⟨u,by simpa using h1,b⟩
theorem Vals.set{x:V}{u:ar}(r:RelV x u):∀{xs:List V}{a:List ar}(i:Nat),Vals xs a->Vals (xs.set i x) (a.set i u)
 | _,_,_,.nil=>.nil
 | _,_,0,.cons _ t=>.cons r t
 | _,_,i+1,.cons q t=>.cons q (Vals.set r i t)
theorem Vals.append:∀{xs ys:List V}{b a:List ar},Vals xs b->Vals ys a->Vals (xs++ys) (b++a)
 | _,_,_,_,.nil,s=>s
 | _,_,_,_,.cons r t,s=>.cons r (Vals.append t s)
theorem Vals.take:∀{xs:List V}{a:List ar}(n:Nat),Vals xs a->Vals (xs.take n) (a.take n)
 | _,_,0,_=>.nil
 | _,_,_+1,.nil=>.nil
 | _,_,n+1,.cons r t=>.cons r (Vals.take n t)
theorem Vals.drop:∀{xs:List V}{a:List ar}(n:Nat),Vals xs a->Vals (xs.drop n) (a.drop n)
 | _,_,0,r=>r
 | _,_,_+1,.nil=>.nil
 | _,_,n+1,.cons _ t=>Vals.drop n t
def RelO:Option V->Option ar->Prop
 | some v,some u=>RelV v u
 | none,none=>True
 | _,_=>False
def KV{a:Type}:List (a×V)->List (a×ar)->Prop:=Ea λ(p:a×V) (q:a×ar)=>p.1=q.1/\RelV p.2 q.2
def kV:Key->V
 | .inl i=>.int i
 | .inr x=>.str x
inductive HO where
 | lst (xs:List V)
 | tup (xs:List V)
 | dK (kvs:List (Key×V)) | dT (kvs:List (List Key×V))
 | set (S:Int->Bool) (n:Nat)
 | ins (C dx:av) (fs:List (Str×V))
 | own (x:av)
 | xd (fs:List (Str×V))
 | met (f x:av)
 | rng (lo hi:Int)
 | frz (o:Obj) (u:HO)
 | tbl (ps:Array ar)
 | ext (φ:iO->Prop)
abbrev Hp:=av->Option HO
def upd(H:Hp)(a:av)(o:HO):Hp:=λ b=>if b=a then some o else H b
def kA{H:Hp}{a:av}{o:HO}:upd H a o a=some o:=by unfold upd;rw[if_pos rfl]
def kM{H:Hp}{a b:av}{o:HO}(h:b≠a):upd H a o b=H b:=by unfold upd;rw[if_neg h]
def wR{H:Hp}{a b:av}{o u:HO}(h:H a=some o)(h':H b=some u)(d:o≠u):a≠b:=by
 intro e;subst e;rw[h]at h';exact d (bq h')
def kO{H:Hp}{a b:av}{o:HO}(h:H a=some o)(h':H b=none):a≠b:=by
 intro e;subst e;rw[h]at h';cases h'
section
def IsTupN(h:iO)(a:av)(b:Array ar):Prop:=∃ o,h.get? a=some o/\o.cls=.type "tuple"/\∃ n,o.data=.seq b n/\o.dict=none
def IsTupN.isTup{h:iO}{a:av}{b:Array ar}:IsTupN h a b->Eb h a b:=λ⟨o,e,c,n,d,_⟩=>⟨o,e,c,n,d⟩
theorem IsTupN.lt{h:iO}{a:av}{b:Array ar}(x:IsTupN h a b):a<h.objs.size:=x.isTup.lt
def IsTupN.new(h:iO)(a:Array ar):IsTupN (h.push {cls:=.type "tuple",data:=.seq a}) h.objs.size a:=⟨_,cj _ rfl,rfl,_,rfl,rfl⟩
variable (P:fb) (w:iI)
def ObjOk(H:Hp)(h:iO)(a:av):HO->Prop
 | .lst c=>c.length<=sizeLine/\∃(b:List ar)(n:Nat),Vals c b/\h.get? a=some {cls:=.type "list",data:=.seq b.toArray n}
 | .tup c=>c.length<=sizeLine/\∃ b:List ar,Vals c b/\IsTupN h a b.toArray
 | .dK kvs=>kvs.length<=sizeLine/\(a == sysModules)=false/\∃ i,KV kvs i/\h.DictOf (qG P w) a i
 | .dT kvs=>kvs.length<=sizeLine/\(a == sysModules)=false/\∃ c:List (List Key×av×ar),
   Ea (λ(p:List Key×V) (q:List Key×av×ar)=>p.1=q.1/\H q.2.1=some (.tup (p.1.map kV))/\RelV p.2 q.2.2) kvs c /\
   ∃ o g l,h.get? a=some o/\o.ExactDict/\o.data=.dict g l/\g.toList=c.map (entryOfKey (tupleKind (qG P w)))/\(c.map (·.1)).Nodup
 | .set S n=>h.SetOf (intKind P w) a S n
 | .ins C dx fs=>H dx=some (.own a)/\fs.length<=1000/\dx≠a/\h.get? a=some (Ce C dx) /\
   ∃ d,h.Ns1 dx d/\(∀ f,RelO (fs.lookup f) (d f))/\Fw d (fs.map (·.1))
 | .own _=>∃ o,h.get? a=some o
 | .xd fs=>∃ d,h.Ns1 a d/\∀ f,RelO (fs.lookup f) (d f)
 | .rng lo hi=>∃ t u v,h.get? a=some {cls:=.type "range",data:=.fields #[.int lo t,.int hi u,.int 1 v]}
 | .frz o u=>h.get? a=some o/\ObjOk H h a u
 | .tbl ps=>h.get? a=some {cls:=.none,data:=.fields ps}
 | .met f x=>h.get? a=some (Bg (.ref f) (.ref x))
 | .ext φ=>φ h/\(∃ o,h.get? a=some o)/\∀ h1 j:iO,φ h1->(∀ o,h1.get? a=some o->j.get? a=some o)->φ j
def HOk(H:Hp)(h:iO):Prop:=∀ a o,H a=some o->ObjOk P w H h a o
end
section
variable {P:fb} {w:iI} {H H':Hp} {h h':iO} {a:av} {o:HO}
theorem ObjOk.lt(x:ObjOk P w H h a o):a<h.objs.size:=by
 cases o with
 | lst xs=>obtain⟨_,_,_,_,e⟩:=x;exact cg e
 | tup xs=>obtain⟨_,_,_,p⟩:=x;exact p.lt
 | dK kvs=>obtain⟨_,_,_,_,o,_,_,e,_⟩:=x;exact cg e
 | dT kvs=>obtain⟨_,_,_,_,o,_,_,e,_⟩:=x;exact cg e
 | set S n=>obtain⟨o,_,_,_,e,_⟩:=x;exact cg e
 | ins C dx fs=>obtain⟨_,_,_,e,_⟩:=x;exact cg e
 | own y=>obtain⟨_,e⟩:=x;exact cg e
 | xd fs=>obtain⟨_,⟨_,_,_,e,_⟩,_⟩:=x;exact cg e
 | rng lo hi=>obtain⟨_,_,_,e⟩:=x;exact cg e
 | frz ob u=>obtain⟨e,_⟩:=x;exact cg e
 | tbl ps=>exact cg (show h.get? a=some _ from x)
 | met f y=>exact cg (show h.get? a=some _ from x)
 | ext φ=>obtain⟨_,⟨_,e⟩,_⟩:=x;exact cg e
theorem Paired.mapP{α β:Type}{F G:α->β->Prop}:∀{l₁:List α}{l₂:List β},Ea F l₁ l₂->(∀ a b,F a b->G a b)->Ea G l₁ l₂
 | _,_,.nil,_=>.nil
 | _,_,.cons r t,f=>.cons (f _ _ r) (Paired.mapP t f)
def ObjOk.stay(x:ObjOk P w H h a o)(k:∀ b u,(b=a\/H b=some (.own a))->h.get? b=some u->h'.get? b=some u)
  (I:∀ b,H b=some (.own a)->H' b=some (.own a)) (A:∀ b xs,H b=some (.tup xs)->H' b=some (.tup xs)):ObjOk P w H' h' a o:=by
 induction o with
 | lst xs=>obtain⟨z,l,n,r,e⟩:=x;exact⟨z,l,n,r,k _ _ (.inl rfl) e⟩
 | tup xs=>obtain⟨z,l,r,g,e,c⟩:=x;exact⟨z,l,r,g,k _ _ (.inl rfl) e,c⟩
 | dK kvs=>obtain⟨z,y,D,r,g,i,j,e,c⟩:=x;exact⟨z,y,D,r,g,i,j,k _ _ (.inl rfl) e,c⟩
 | dT kvs =>
  obtain⟨z,y,xs,r,g,i,j,e,c⟩:=x;exact⟨z,y,xs,Paired.mapP r λ p q z=>⟨z.1,A _ _ z.2.1,z.2.2⟩,g,i,j,k _ _ (.inl rfl) e,c⟩
 | set S n=>obtain⟨g,i,j,t,e,c⟩:=x;exact⟨g,i,j,t,k _ _ (.inl rfl) e,c⟩
 | ins C dx fs =>
  obtain⟨d,z,G,e,m,⟨s,i,j,B,c⟩,r⟩:=x;exact⟨I _ d,z,G,k _ _ (.inl rfl) e,m,⟨s,i,j,k _ _ (.inr d) B,c⟩,r⟩
 | own y=>obtain⟨g,e⟩:=x;exact⟨g,k _ _ (.inl rfl) e⟩
 | xd fs=>obtain⟨m,⟨s,i,j,e,c⟩,r⟩:=x;exact⟨m,⟨s,i,j,k _ _ (.inl rfl) e,c⟩,r⟩
 | rng lo hi=>obtain⟨t,u,v,e⟩:=x;exact⟨t,u,v,k _ _ (.inl rfl) e⟩
 | frz g u ih=>obtain⟨e,q⟩:=x;exact⟨k _ _ (.inl rfl) e,ih q⟩
 | tbl ps =>
  have e:h.get? a=some {cls:=.none,data:=.fields ps}:=x;show h'.get? a=some {cls:=.none,data:=.fields ps};exact k a _ (.inl rfl) e
 | met f y =>
  have e:h.get? a=some (Bg (.ref f) (.ref y)):=x;show h'.get? a=some (Bg (.ref f) (.ref y));exact k a _ (.inl rfl) e
 | ext φ=>obtain⟨p,⟨o,e⟩,st⟩:=x;exact⟨st _ _ p λ o q=>k _ _ (.inl rfl) q,⟨o,k _ _ (.inl rfl) e⟩,st⟩
theorem HOk.lt(x:HOk P w H h)(e:H a=some o):a<h.objs.size:=(x a o e).lt
def HOk.fresh(x:HOk P w H h)(e:h.objs.size<=a):H a=none:=by
 cases q:H a with
 | none=>rfl
 | some u=>exact absurd (cv (x.lt q) e) (rj _)
def HOk.kept(x:HOk P w H h)(k:∀ b u,h.get? b=some u->h'.get? b=some u):HOk P w H h':=λ a o e =>
 (x a o e).stay (λ b u _ q=>k b u q) (λ _ q=>q) λ _ _ q=>q
def HOk.laid(x:HOk P w H h)(k:∀ b u,h.get? b=some u->h'.get? b=some u)(hp:h.objs.size<=a)(new:ObjOk P w (upd H a o) h' a o):HOk P w (upd H a o) h':=λ b u e=>by
 have d:=x.fresh hp;by_cases f:b=a
 ·subst f;rw[kA]at e;cases e;exact new
 ·rw[kM f]at e
  exact(x b u e).stay (λ c v _ q=>k c v q) (λ c q=>by rw[kM (kO q d)];exact q) λ c g q=>by rw[kM (kO q d)];exact q
end
def Rd(H:Hp)(a:av)(u:HO):Prop:=H a=some u\/∃ o,H a=some (.frz o u)
def Rd.ok{P:fb}{w:iI}{H:Hp}{h:iO}{a:av}{u:HO}(r:Rd H a u)(x:HOk P w H h):ObjOk P w H h a u:=by
 rcases r with r | ⟨o,r⟩
 ·exact x a u r
 ·obtain⟨_,q⟩:=x a _ r
  exact q
def Mut:Option HO->Prop
 | some (.lst _)=>True
 | some (.dK _)=>True
 | some (.dT _)=>True
 | some (.set _ _)=>True
 | some (.ins _ _ _)=>True
 | some (.ext _)=>True
 | _=>False
section
variable {P:fb} {w:iI} {H:Hp} {h h':iO} {x e:av} {o':HO}
def HOk.write(ok:HOk P w H h)(i:Mut (H x))(n:e=x\/H e=some (.own x))(k:∀ b u,b≠e->h.get? b=some u->h'.get? b=some u)(m:∃ u,h'.get? e=some u)
  (new:ObjOk P w (upd H x o') h' x o'):HOk P w (upd H x o') h':=λ b u q=>by
 have d:∀ c y,H c=some (.own y)->c≠x:=λ c y r z=>by subst z;rw[r]at i;exact i
 have f:∀ c g,H c=some (.tup g)->c≠x:=λ c g r z=>by subst z;rw[r]at i;exact i
 by_cases l:b=x
 ·subst l;rw[kA]at q;cases q;exact new
 ·rw[kM l]at q
  by_cases a:b=e
  ·have o:H b=some (.own x):=by
    rcases n with z | z
    ·exact absurd (a.trans z) l
    ·rw[a];exact z
   rw[q]at o;cases o;obtain⟨v,p⟩:=m;exact⟨v,by rw[a];exact p⟩
  ·refine(ok b u q).stay (λ c v j r=>k c v ?_ r) (λ c r=>by rw[kM (d c b r)];exact r) λ c g r=>by rw[kM (f c g r)];exact r
   rcases j with rfl | j
   ·exact a
   ·rintro rfl
    rcases n with z | z
    ·exact d c b j z
    ·rw[j]at z;cases z;exact l rfl
end
structure Un(fs ex:List av)(H H':Hp)(h h':iO):Prop where
 keep:∀ b o,h.get? b=some o->H b=none->b∉fs->b∉ex->h'.get? b=some o
 slot:∀ b o,h.get? b=some o->H b=none->b∈fs->b∉ex->∃ sl,h'.get? b=some {o with slots:=sl}
 free:∀ b o,h.get? b=some o->H b=none->b∉ex->H' b=none
 there:∀ b o,h.get? b=some o->b∉ex->∃ o',h'.get? b=some o'
 tups:∀ b xs,H b=some (.tup xs)->H' b=some (.tup xs)
 frzs:∀ b o u,H b=some (.frz o u)->H' b=some (.frz o u)
 tbls:∀ b ps,H b=some (.tbl ps)->∃ more,H' b=some (.tbl (ps++more))
section
variable {fs fs' ex ex':List av} {H H1 H2:Hp} {h h1 h2 h':iO} {a x e:av} {o:HO}
def Un.any(u:Un fs ex H H1 h h1){b:av}{ob:Obj}(q:h.get? b=some ob)(n:H b=none)(c:b∉ex):∃ sl,h1.get? b=some {ob with slots:=sl}:=by
 by_cases a:b∈fs
 ·exact u.slot b ob q n a c
 ·exact⟨ob.slots,u.keep b ob q n a c⟩
def Un.kept(k:∀ b u,h.get? b=some u->h'.get? b=some u):Un fs ex H H h h' :=
 ⟨λ b a q _ _ _=>k b a q,λ b a q _ _ _=>⟨a.slots,k b a q⟩,λ _ _ _ n _=>n,λ b a q _=>⟨a,k b a q⟩,λ _ _ q=>q,λ _ _ _ q=>q,λ _ ps q=>⟨#[],by rw[q];simp⟩⟩
def Un.refl:Un fs ex H H h h:=Un.kept λ _ _ q=>q
def Un.laid(k:∀ b u,h.get? b=some u->h'.get? b=some u)(hp:h.objs.size<=a)(c:H a=none):Un fs ex H (upd H a o) h h' where
 keep:=λ b u q _ _ _=>k b u q
 slot:=λ b u q _ _ _=>⟨u.slots,k b u q⟩
 free:=λ b u q n _=>by rw[kM (eA (cv (cg q) hp))];exact n
 there:=λ b u q _=>⟨u,k b u q⟩
 tups:=λ b d q=>by rw[kM (kO q c)];exact q
 frzs:=λ b u d q=>by rw[kM (kO q c)];exact q
 tbls:=λ b ps q=>⟨#[],by rw[kM (kO q c),q];simp⟩
def Un.write(c:Mut (H x))(l:e=x\/H e=some (.own x))(k:∀ b u,b≠e->h.get? b=some u->h'.get? b=some u)(d:∃ u,h'.get? e=some u):Un fs ex H (upd H x o) h h':=by
 have g:∀ b,H b=none->b≠x:=λ b n z=>by subst z;rw[n]at c;exact c
 have i:∀ b,H b=none->b≠e:=λ b n z=>by
  subst z;rcases l with r | r
  ·exact g b n r
  ·rw[n]at r;cases r
 have f:∀ b u,H b=some u->¬ Mut (some u)->b≠x:=λ b u q m z=>by subst z;rw[q]at c;exact m c
 refine⟨λ b u q n _ _=>k b u (i b n) q,λ b u q n _ _=>⟨u.slots,k b u (i b n) q⟩,λ b u q n _=>by rw[kM (g b n)];exact n,λ b u q _=>?_,
  λ b j q=>by rw[kM (f b _ q λ z=>z)];exact q,λ b u j q=>by rw[kM (f b _ q λ z=>z)];exact q,λ b ps q=>⟨#[],by rw[kM (f b _ q λ z=>z),q];simp⟩⟩
 by_cases a:b=e
 ·subst a;exact d
 ·exact⟨u,k b u a q⟩
end
def trk(h:iO)(H:Hp):List av:=(cw h.objs.size).filter λ a=>(H a).isSome
def sZ(h:iO)(H:Hp):iO:=PySem.W.hideAll h (trk h H)
def kJQ(h:iO)(H:Hp):(sZ h H).objs.size=h.objs.size:=PySem.W.hideAll_size _ _
def kNN{h:iO}{H:Hp}{b:av}{o:Obj}(e:h.get? b=some o)(n:H b=none):(sZ h H).get? b=some o :=
 PySem.W.hideAll_get _ e λ a=>by
  have q:(H b).isSome=true:=(iX.mp a).2;rw[n]at q;simp at q
def kPU{h:iO}{H:Hp}{b:av}{o:Obj}(e:(sZ h H).get? b=some o):h.get? b=some o/\H b=none:=by
 have a:h.get? b=some o:=PySem.W.of_hideAll (trk h H) e;refine⟨a,?_⟩
 cases q:H b with
 | none=>rfl
 | some x =>
  have c:b∈trk h H:=iX.mpr ⟨jr.mpr (cg a),by simp[q]⟩;have z:(sZ h H).get? b=none:=PySem.W.hideAll_none (trk h H) c;rw[z]at e;cases e
structure Mod(K:az)(mg:Str->Option ar)(base:iO):Prop where
 kin:K.In base
 glob:base.Ns gn mg
 blt:∃ mb,base.Ns builtinsNs mb/\∀ x:Str,x≠"__name__"->mb x=bootBuiltins x
 nolimit:base.NoLimit
structure Cx where
 prog:fb
 w:iI
 K:az
 mg:Str->Option ar
 base:iO
 A:fq
 N:List Str
 s₀:ay
 H₀:Hp
 env:Env
 outer:List Env
 stack:List Env
 ex:List av
 fn:Str->Bool
 calm:Bool
 pn:List (av×Obj)
 xe:ar->ay->Prop
def frs(l:List Env):List av:=l.filterMap (·.frame)
abbrev Cx.fs(X:Cx):List av:=frs X.outer
def Vis(a:wc)(x:Str):Prop:=a.names.lookup x=some .local\/a.names.lookup x=some .cell\/a.names.lookup x=some .free
def Loc(a:wc)(x:Str):Prop:=a.names.lookup x=some .local\/a.names.lookup x=some .cell
def kWO(env:Env)(h:iO)(m:Str->Option ar)(x:Str)(u:ar):Prop :=
 (env.kindOf x=some .local/\m x=some u)\/((env.kindOf x=some .cell\/env.kindOf x=some .free)/\∃ c,env.cells.lookup x=some c/\h.IsCell c (some u))
structure Cx.Ok(X:Cx):Prop where
 mod:Mod X.K X.mg X.base
 kind:X.env.scope.kind=.function
 glob:X.env.globals=gn
 blt:X.env.builtins=builtinsNs
 above:X.s₀.heap.objs.size<=X.env.locals
 inj:∀ x y c,X.env.cells.lookup x=some c->X.env.cells.lookup y=some c->x=y
 has:∀ x,(X.env.kindOf x=some .cell\/X.env.kindOf x=some .free)->∃ c,X.env.cells.lookup x=some c
 cab:∀ x c,X.fn x=true->X.env.cells.lookup x=some c->X.s₀.heap.objs.size<=c
 hd:X.calm=true->X.A.handled=none
 frames:X.A.frames=some X.stack
 stk:X.stack=X.outer\/(X.stack=X.env::X.outer/\X.env.frame=some X.env.locals)
 exf:∀ b∈X.ex,b≠X.env.locals/\∀ x c,X.env.cells.lookup x=some c->c≠b
 bs:∀ b o,X.base.get? b=some o->X.s₀.heap.get? b=some o/\X.H₀ b=none
 bsz:X.base.objs.size<=X.s₀.heap.objs.size
 noex:∀ b o,X.base.get? b=some o->b∉X.ex
 exfs:∀ b∈X.ex,b∉X.fs
 funs:X.s₀.heap.FunFrames X.base X.outer
 frf:∀ b∈X.fs,X.H₀ b=none
structure Inv(X:Cx)(pins:List (av×Obj))(σ:List (Option V))(H:Hp)(s:ay):Prop where
 ok:X.Ok
 os:s.os=X.s₀.os
 bare:Bh s.gens
 base:Un X.fs X.ex X.H₀ H X.s₀.heap s.heap
 loc:∃ m,s.heap.Ns X.env.locals m/\∀(i:Nat)(x:Str)(v:V),X.N[i]?=some x->σ[i]?=some (some v)->Vis X.env.scope x->∃ u,RelV v u/\kWO X.env s.heap m x u
 cell:∀ x c,X.env.cells.lookup x=some c->∃ v,s.heap.IsCell c v
 free:H X.env.locals=none
 freeC:∀ x c,X.env.cells.lookup x=some c->H c=none
 pin:∀ p∈X.pn++pins,s.heap.get? p.1=some p.2/\H p.1=none/\p.1≠X.env.locals/\p.1∉X.fs/\∀ v,p.2.data≠.cell v
 hok:HOk X.prog X.w H s.heap
 len:σ.length=X.N.length
section
variable {X:Cx} {pins:List (av×Obj)} {σ:List (Option V)} {H H':Hp} {s:ay} {h':iO}
def Cx.Ok.nofr(ok:X.Ok){b:av}{o:Obj}(e:X.base.get? b=some o):b∉X.fs:=λ a=>by
 have:=(ok.funs.mem a).1;rw[e]at this;cases this
theorem Inv.bs(I:Inv X pins σ H s):∀ b o,X.base.get? b=some o->s.heap.get? b=some o/\H b=none:=λ b o e =>
 ⟨I.base.keep b o (I.ok.bs b o e).1 (I.ok.bs b o e).2 (I.ok.nofr e) (I.ok.noex b o e),I.base.free b o (I.ok.bs b o e).1 (I.ok.bs b o e).2 (I.ok.noex b o e)⟩
def Inv.bk(I:Inv X pins σ H s):∀ b o,X.base.get? b=some o->s.heap.get? b=some o:=λ b o e=>(I.bs b o e).1
theorem Inv.mod(I:Inv X pins σ H s):Mod X.K X.mg X.base:=I.ok.mod
def Inv.kIn(I:Inv X pins σ H s):X.K.In s.heap:=I.ok.mod.kin.keeps I.bk
theorem Inv.lt(I:Inv X pins σ H s):X.env.locals<s.heap.objs.size:=let ⟨_,hn,_⟩:=I.loc;hn.lt
def Inv.sz(I:Inv X pins σ H s):X.s₀.heap.objs.size<=s.heap.objs.size:=ju I.ok.above (fv I.lt)
def Inv.nofs(I:Inv X pins σ H s){a:av}(h:s.heap.objs.size<=a):a∉X.fs:=λ b=>by
 obtain⟨_,o,c,_⟩:=I.ok.funs.mem b;exact absurd (cv (cg c) (ju I.sz h)) (rj _)
def Inv.cne(I:Inv X pins σ H s):∀ x c,X.env.cells.lookup x=some c->c≠X.env.locals:=λ x c e z=>by
 obtain⟨v,o,f,d⟩:=I.cell x c e;obtain⟨m,⟨h,g,i,a,b,_⟩,_⟩:=I.loc;rw[z,a]at f;cases f;rw[b]at d;cases d
theorem Inv.funs(I:Inv X pins σ H s):s.heap.FunFrames X.base X.outer:=by
 have all:∀(l:List Env),(∀ b∈frs l,b∈X.fs)->X.s₀.heap.FunFrames X.base l->s.heap.FunFrames X.base l:=by
  intro l
  induction l with
  | nil=>intro _ _;trivial
  | cons env r ih =>
   intro f h;obtain⟨i,⟨L,o,c,j,n,g⟩,m⟩:=h;have a:L∈X.fs:=f L (by unfold frs;rw[BA,c];exact eW);obtain⟨p,e⟩:=I.base.slot L o n (I.ok.frf L a) a λ z=>I.ok.exfs L z a;exact⟨i,⟨L,_,c,j,e,g⟩,ih (λ b d=>f b (by unfold frs;rw[BA,c];exact dh _ d)) m⟩
 exact all X.outer (λ _ d=>d) I.ok.funs
theorem Inv.stack(I:Inv X pins σ H s):s.heap.FunFrames X.base X.stack:=by
 rcases I.ok.stk with e | ⟨e,b⟩
 ·rw[e];exact I.funs
 ·rw[e]
  obtain⟨m,a,_⟩:=I.loc;refine .cons (by rw[I.ok.kind];decide) b a ?_ I.funs;exact Heap.get?_none_of_le (ju I.ok.bsz I.ok.above)
def Inv.stkSub(I:Inv X pins σ H s):∀ b∈frs X.stack,b∈X.env.locals::X.fs:=λ b a=>by
 rcases I.ok.stk with e | ⟨e,c⟩
 ·rw[e]at a;exact dh _ a
 ·rw[e]at a
  unfold frs at a;rw[BA,c]at a;exact a
def Inv.stkFree(I:Inv X pins σ H s):∀ b∈frs X.stack,H b=none:=λ b a=>by
 rcases eK.mp (I.stkSub b a) with e | a
 ·rw[e];exact I.free
 ·obtain⟨_,o,c,_⟩:=I.ok.funs.mem a
  exact I.base.free b o c (I.ok.frf b a) λ z=>I.ok.exfs b z a
def Inv.step{g':Array GenState}{t':Nat}{d':Drawn}{ch:List av}(I:Inv X pins σ H s)
  (f:∀ b∈ch,(b∈X.ex\/X.s₀.heap.objs.size<=b)/\b≠X.env.locals/\(∀ x c,X.env.cells.lookup x=some c->c≠b)/\∀ p∈X.pn++pins,p.1≠b)
  (keep:∀ b o,b≠X.env.locals->b∉X.fs->b∉ch->s.heap.get? b=some o->H b=none->h'.get? b=some o)
  (j:∀ b o,b≠X.env.locals->b∈X.fs->b∉ch->s.heap.get? b=some o->H b=none->∃ sl,h'.get? b=some {o with slots:=sl}) (free:∀ b o,b∉ch->s.heap.get? b=some o->H b=none->H' b=none)
  (there:∀ b o,b∉ch->s.heap.get? b=some o->∃ o',h'.get? b=some o')
  (D:∀ b xs,H b=some (.tup xs)->H' b=some (.tup xs)) (B:∀ b o u,H b=some (.frz o u)->H' b=some (.frz o u)) (C:∀ b ps,H b=some (.tbl ps)->∃ more,H' b=some (.tbl (ps++more)))
  (ns:∀ m,s.heap.Ns X.env.locals m->h'.Ns X.env.locals m) (O:HOk X.prog X.w H' h') (hg:Bh g') :
  Inv X pins σ H' {s with heap:=h',gens:=g',drawn:=d',toks:=t'}:=by
 have M:∀ b o,X.s₀.heap.get? b=some o->b≠X.env.locals:=λ b o e=>eA (cv (cg e) I.ok.above)
 have y:∀ b o,X.s₀.heap.get? b=some o->b∉X.ex->b∉ch:=λ b o e a G=>by
  rcases(f b G).1 with z | z
  ·exact a z
  ·exact absurd (cv (cg e) z) (rj _)
 have g:∀ x c,X.env.cells.lookup x=some c->∀ v,s.heap.IsCell c v->h'.IsCell c v:=λ x c e v ⟨o,J,Q⟩=>by
  have h:c∉ch:=λ z=>(f c z).2.2.1 x c e rfl;by_cases S:c∈X.fs
  ·obtain⟨sl,q⟩:=j c o (I.cne x c e) S h J (I.freeC x c e)
   exact⟨_,q,Q⟩
  ·exact⟨o,keep c o (I.cne x c e) S h J (I.freeC x c e),Q⟩
 refine⟨I.ok,I.os,hg,⟨λ b o e n G a=>?_,λ b o e n G a=>?_,λ b o e n a=>?_,λ b o e a=>?_,λ b xs e=>D b xs (I.base.tups b xs e),λ b o xs e=>B b o xs (I.base.frzs b o xs e),λ b ps e=>?_⟩,?_,λ x c e=>?_,?_,λ x c e=>?_,λ p hp=>?_,O,I.len⟩
 ·exact keep b o (M b o e) G (y b o e a) (I.base.keep b o e n G a) (I.base.free b o e n a)
 ·obtain⟨sl,A⟩:=I.base.slot b o e n G a
  obtain⟨N,L⟩:=j b _ (M b o e) G (y b o e a) A (I.base.free b o e n a);exact⟨N,L⟩
 ·obtain⟨o',A⟩:=I.base.there b o e a
  exact free b o' (y b o e a) A (I.base.free b o e n a)
 ·obtain⟨o',A⟩:=I.base.there b o e a
  exact there b o' (y b o e a) A
 ·obtain⟨m1,A⟩:=I.base.tbls b ps e
  obtain⟨Y,L⟩:=C b _ A;exact⟨m1++Y,by rw[L,Array.append_assoc]⟩
 ·obtain⟨m,Z,hl⟩:=I.loc
  refine⟨m,ns m Z,λ i x v A L e3=>?_⟩;obtain⟨u,r,l⟩:=hl i x v A L e3;refine⟨u,r,?_⟩;rcases l with l | ⟨k,c,e,z⟩
  ·exact .inl l
  ·exact .inr ⟨k,c,e,g x c e _ z⟩
 ·obtain⟨v,z⟩:=I.cell x c e
  exact⟨v,g x c e v z⟩
 ·obtain⟨m,⟨o,_,_,J,_⟩,_⟩:=I.loc
  exact free _ o (λ z=>(f _ z).2.1 rfl) J I.free
 ·obtain⟨v,o,J,Q⟩:=I.cell x c e
  exact free c o (λ z=>(f c z).2.2.1 x c e rfl) J (I.freeC x c e)
 ·obtain⟨e,n,U,T,d⟩:=I.pin p hp
  have h:p.1∉ch:=λ z=>(f p.1 z).2.2.2 p hp rfl;exact⟨keep p.1 p.2 U T h e n,free p.1 p.2 h e n,U,T,d⟩
def Inv.un{t':Nat}(I:Inv X pins σ H s)(u:Un X.fs [] H H' s.heap h')(c:HOk X.prog X.w H' h'):Inv X pins σ H' {s with heap:=h',toks:=t'}:=by
 obtain⟨m,⟨o,p,y,h,r⟩,_⟩:=id I.loc;obtain⟨x,j⟩:=u.any h I.free (by simp)
 exact I.step (g':=s.gens) (d':=s.drawn) (ch:=[]) (λ _ z=>nomatch z) (λ b o _ d _ e n=>u.keep b o e n d (by simp)) (λ b o _ d _ e n=>u.slot b o e n d (by simp)) (λ b o _ e n=>u.free b o e n (by simp)) (λ b o _ e=>u.there b o e (by simp)) u.tups u.frzs u.tbls (λ q i=>by
  obtain⟨v,g,f,a,l⟩:=i;rw[h]at a;cases a;exact⟨_,g,f,j,l⟩) c I.bare
def Inv.call{g':Array GenState}{t':Nat}{d':Drawn}{ch:List av}(I:Inv X pins σ H s)(u:Un (frs X.stack) ch H H' s.heap h')(g:HOk X.prog X.w H' h')(y:Bh g')
  (d:∀ b∈ch,(b∈X.ex\/X.s₀.heap.objs.size<=b)/\b≠X.env.locals/\(∀ x c,X.env.cells.lookup x=some c->c≠b)/\∀ p∈X.pn++pins,p.1≠b) :
  Inv X pins σ H' {s with heap:=h',gens:=g',drawn:=d',toks:=t'}:=by
 obtain⟨m,⟨o,B,J,l,r⟩,_⟩:=id I.loc;obtain⟨G,h⟩:=u.any l I.free λ z=>(d _ z).2.1 rfl
 exact I.step (ch:=ch) d (λ b o h A a e n=>u.keep b o e n (λ z=>(eK.mp (I.stkSub b z)).elim h A) a) (λ b o _ _ a e n=>u.any e n a) (λ b o a e n=>u.free b o e n a) (λ b o a e=>u.there b o e a) u.tups u.frzs u.tbls (λ C q=>by
  obtain⟨D,j,i,f,v⟩:=q;rw[l]at f;cases f;exact⟨_,j,i,h,v⟩) g y
def Inv.turned{t':Nat}{it:av}(I:Inv X pins σ H s)(k:∀ b o,b≠it->s.heap.get? b=some o->h'.get? b=some o)(h:H it=none)(f:it≠X.env.locals)
  (h1:it∈X.ex\/X.s₀.heap.objs.size<=it) (i:∀ x c,X.env.cells.lookup x=some c->c≠it) (j:∀ p∈X.pn++pins,p.1≠it):Inv X pins σ H {s with heap:=h',toks:=t'}:=by
 have d:∀ b u,H b=some u->b≠it:=λ b u e z=>by rw[z,h]at e;cases e
 refine I.step (g':=s.gens) (d':=s.drawn) (ch:=[it]) (λ b A=>?_) (λ b o _ _ a e _=>k b o (λ z=>a (by simp[z])) e) (λ b o _ _ a e _=>⟨o.slots,k b o (λ z=>a (by simp[z])) e⟩) (λ _ _ _ _ n=>n)
  (λ b o a e=>⟨o,k b o (λ z=>a (by simp[z])) e⟩) (λ _ _ e=>e) (λ _ _ _ e=>e) (λ b ps e=>⟨#[],by rw[e];simp⟩) (λ m l=>?_) (λ b u e=>?_) I.bare
 ·have e:b=it:=by simpa using A
  subst e;exact⟨h1,f,i,j⟩
 ·obtain⟨o,g,B,y,r⟩:=l
  exact⟨o,g,B,k _ o (sj f) y,r⟩
 ·refine(I.hok b u e).stay (λ c v a q=>k c v ?_ q) (λ _ q=>q) λ _ _ q=>q
  rcases a with z | z
  ·rw[z];exact d b u e
  ·exact d c _ z
def Inv.tok(I:Inv X pins σ H s)(t:Nat):Inv X pins σ H {s with toks:=t}:=I.un (h':=s.heap) (t':=t) Un.refl I.hok
theorem Inv.kept{t':Nat}(I:Inv X pins σ H s)(k:∀ b u,s.heap.get? b=some u->h'.get? b=some u):Inv X pins σ H {s with heap:=h',toks:=t'}:=I.un (Un.kept k) (I.hok.kept k)
theorem Inv.laid{a:av}{o:HO}{t':Nat}(I:Inv X pins σ H s)(k:∀ b u,s.heap.get? b=some u->h'.get? b=some u)(hp:s.heap.objs.size<=a)(new:ObjOk X.prog X.w (upd H a o) h' a o) :
  Inv X pins σ (upd H a o) {s with heap:=h',toks:=t'}:=I.un (Un.laid k hp (I.hok.fresh hp)) (I.hok.laid k hp new)
theorem Inv.write{x e:av}{o:HO}{t':Nat}(I:Inv X pins σ H s)(c:Mut (H x))(d:e=x\/H e=some (.own x))(k:∀ b u,b≠e->s.heap.get? b=some u->h'.get? b=some u)(a:∃ u,h'.get? e=some u)
  (new:ObjOk X.prog X.w (upd H x o) h' x o):Inv X pins σ (upd H x o) {s with heap:=h',toks:=t'}:=I.un (Un.write c d k a) (I.hok.write c d k a new)
def Inv.pins_of{a:List (av×Obj)}(I:Inv X pins σ H s)(h:∀ p∈a,s.heap.get? p.1=some p.2/\H p.1=none/\p.1≠X.env.locals/\p.1∉X.fs/\∀ v,p.2.data≠.cell v):Inv X a σ H s :=
 ⟨I.ok,I.os,I.bare,I.base,I.loc,I.cell,I.free,I.freeC,λ p hp=>(cf.mp hp).elim (λ z=>I.pin p (dc _ z)) (h p),I.hok,I.len⟩
def kBK{N:List Str}(c:N.Nodup){i j:Nat}{x:Str}(a:N[i]?=some x)(b:N[j]?=some x):i=j:=by
 obtain⟨h1,f⟩:=ao.mp a;obtain⟨g,d⟩:=ao.mp b;exact(AA c).mp (f.trans d.symm)
def cU{M:yt}{A:fq}{E:ar->ay->Prop}{i:Nat}{x:Str}{v:V}{u:ar}{Q:Unit->ay->Prop}(I:Inv X pins σ H s)(hN:X.N.Nodup)(hi:X.N[i]?=some x)(C:Loc X.env.scope x)(r:RelV v u)
  (h:∀ s',Inv X pins (σ.set i (some v)) H s'->(∃ a,jb a s.heap s'.heap/\(a=X.env.locals\/X.env.cells.lookup x=some a))->Q () s') (hf:X.fn x=true\/X.env.scope.names.lookup x=some .local:=by first | exact .inl rfl | exact .inr rfl | assumption):dr M A (storeName X.env x u) Q E s:=by
 obtain⟨m,hn,hl⟩:=id I.loc;have Z:(X.env.scope.kind == .class || (X.env.scope.kind == .module && X.env.locals != X.env.globals))=false:=by rw[I.ok.kind];rfl
 have J:i<σ.length:=by rw[I.len];exact(ao.mp hi).1
 have cne:=I.cne
 have g:∀{a:av}{U:iO},(∃ o,s.heap.get? a=some o/\H a=none)->jb a s.heap U->HOk X.prog X.w H U:=λ{a U} ha f b ob e=>by
  obtain⟨_,_,D⟩:=ha;refine(I.hok b ob e).stay (λ c w' B q=>(f.2 c ?_).trans q) (λ _ q=>q) λ _ _ q=>q;rintro rfl;rcases B with rfl | B
  ·rw[D]at e;cases e
  ·rw[D]at B;cases B
 rcases C with L | L
 ·refine wpAny_storeName_local L hn (λ U a3 f=>?_) Z
  obtain⟨oL,_,_,a4,_⟩:=id hn;refine h _ ⟨I.ok,I.os,I.bare,⟨λ b o e n S C=>?_,λ b o e n S C=>?_,I.base.free,λ b o e C=>?_,I.base.tups,I.base.frzs,I.base.tbls⟩,⟨_,a3,λ j y v' l G e3=>?_⟩,λ y c e=>?_,I.free,I.freeC,λ p hp=>?_,g ⟨oL,a4,I.free⟩ f,by simpa using I.len⟩ ⟨_,f,.inl rfl⟩
  ·exact(f.2 b (eA (cv (cg e) I.ok.above))).trans (I.base.keep b o e n S C)
  ·obtain⟨sl,l⟩:=I.base.slot b o e n S C
   exact⟨sl,(f.2 b (eA (cv (cg e) I.ok.above))).trans l⟩
  ·obtain⟨o',l⟩:=I.base.there b o e C
   exact⟨o',(f.2 b (eA (cv (cg e) I.ok.above))).trans l⟩
  ·by_cases O:j=i
   ·subst O
    rw[hi]at l;cases l;rw[ki J]at G;cases G
    exact⟨u,r,.inl ⟨L,by simp⟩⟩
   ·rw[eZ (sj O)]at G
    obtain⟨u',r',q⟩:=hl j y v' l G e3;refine⟨u',r',?_⟩;rcases q with⟨k,e⟩ | ⟨k,c,e,z⟩
    ·refine .inl ⟨k,?_⟩
     have:y≠x:=λ e=>O (kBK hN l (e ▸ hi));simp[this,e]
    ·exact .inr ⟨k,c,e,z.sameBut f (cne y c e)⟩
  ·obtain⟨w',z⟩:=I.cell y c e
   exact⟨w',z.sameBut f (cne y c e)⟩
  ·obtain⟨e,n,ne,nf,d⟩:=I.pin p hp
   exact⟨(f.2 p.1 ne).trans e,n,ne,nf,d⟩
 ·have T:X.fn x=true:=by
   rcases hf with z | z
   ·exact z
   ·rw[z]at L;cases L
  obtain⟨c,B⟩:=I.ok.has x (.inl L);obtain⟨w',z⟩:=I.cell x c B;refine wpAny_storeName_cell I.ok.kind L B z (λ U a0 f=>?_);obtain⟨oc,a2,a1⟩:=id z;refine h {s with heap:=U} ⟨I.ok,I.os,I.bare,⟨λ b o e n S C=>?_,λ b o e n S C=>?_,I.base.free,λ b o e C=>?_,I.base.tups,I.base.frzs,I.base.tbls⟩,⟨m,hn.sameBut f (sj (cne x c B)),λ j y v' l G e3=>?_⟩,λ y c' e=>?_,I.free,I.freeC,λ p hp=>?_,g ⟨oc,a2,I.freeC x c B⟩ f,by simpa using I.len⟩ ⟨c,f,.inr B⟩
  ·exact(f.2 b (eA (cv (cg e) (I.ok.cab x c T B)))).trans (I.base.keep b o e n S C)
  ·obtain⟨sl,l⟩:=I.base.slot b o e n S C
   exact⟨sl,(f.2 b (eA (cv (cg e) (I.ok.cab x c T B)))).trans l⟩
  ·obtain⟨o',l⟩:=I.base.there b o e C
   exact⟨o',(f.2 b (eA (cv (cg e) (I.ok.cab x c T B)))).trans l⟩
  ·by_cases O:j=i
   ·subst O
    rw[hi]at l;cases l;rw[ki J]at G;cases G
    exact⟨u,r,.inr ⟨.inl L,c,B,a0⟩⟩
   ·rw[eZ (sj O)]at G
    obtain⟨u',r',q⟩:=hl j y v' l G e3;refine⟨u',r',?_⟩;rcases q with q | ⟨k,c',e,z'⟩
    ·exact .inl q
    ·refine .inr ⟨k,c',e,z'.sameBut f ?_⟩
     rintro rfl;exact O (kBK hN l (I.ok.inj _ _ _ e B ▸ hi))
  ·by_cases Y:c'=c
   ·subst Y;exact⟨_,a0⟩
   ·obtain⟨w2,z2⟩:=I.cell y c' e
    exact⟨w2,z2.sameBut f Y⟩
  ·obtain⟨e,n,ne,nf,d⟩:=I.pin p hp
   refine⟨(f.2 p.1 ?_).trans e,n,ne,nf,d⟩;intro q;rw[q,a2]at e;have q':oc=p.2:=bq e;exact d w' (by rw[<-q'];exact a1)
def kAD{M:yt}{A:fq}{E:ar->ay->Prop}{i:Nat}{x:Str}{v:V}{u:ar}{Q:Unit->ay->Prop}(I:Inv X pins σ H s)(a:X.N.Nodup)(hi:X.N[i]?=some x)(d:Loc X.env.scope x)(r:RelV v u)
  (h:∀ s',Inv X pins (σ.set i (some v)) H s'->Q () s') (c:X.fn x=true\/X.env.scope.names.lookup x=some .local:=by first | exact .inl rfl | exact .inr rfl | assumption):dr M A (storeName X.env x u) Q E s :=
 cU I a hi d r (λ s' b _=>h s' b) c
def Inv.call'{a:ay}{ch:List av}(I:Inv X pins σ H s)(m:a.os=s.os)(u:Un (frs X.stack) ch H H' s.heap a.heap)(d:HOk X.prog X.w H' a.heap)(j:Bh a.gens)
  (f:∀ b∈ch,(b∈X.ex\/X.s₀.heap.objs.size<=b)/\b≠X.env.locals/\(∀ x c,X.env.cells.lookup x=some c->c≠b)/\∀ p∈X.pn++pins,p.1≠b):Inv X pins σ H' a:=by
 obtain⟨n,h,g,i,l⟩:=a;have e:l=s.os:=m;subst e;exact I.call (g':=h) (t':=i) (d':=g) u d j f
end
abbrev XK:=ar->Option av->Hp->Prop
abbrev St:=List (Option V)
abbrev VK:=V->Hp->Prop
abbrev TE:=St->Hp->VK->Prop
abbrev TT:=St->Hp->(Bool->Hp->Prop)->Prop
abbrev TA:=St->Hp->(List V->Hp->Prop)->Prop
structure Ends where
 nx:St->Hp->Prop
 rt:VK
 bk:St->Hp->Prop:=λ _ _=>False
 ct:St->Hp->Prop:=λ _ _=>False
abbrev TS:=Ends->St->Hp->Prop
def EP(X:Cx)(a:List (av×Obj))(c:St)(Q:VK)(u:ar)(d:ay):Prop:=∃ v b,Inv X a c b d/\RelV v u/\Q v b
def TP(X:Cx)(a:List (av×Obj))(f:St)(Q:Bool->Hp->Prop)(b:Bool)(d:ay):Prop:=∃ c,Inv X a f c d/\Q b c
def AP(X:Cx)(a:List (av×Obj))(f:St)(Q:List V->Hp->Prop)(d:List ar)(g:ay):Prop:=∃ b c,Inv X a f c g/\Vals b d/\Q b c
def SP(X:Cx)(b:List (av×Obj))(D:Ends)(f:Flow)(d:ay):Prop :=
 match f with
 | .next=>∃ a c,Inv X b a c d/\D.nx a c
 | .brk=>∃ a c,Inv X b a c d/\D.bk a c
 | .cont=>∃ a c,Inv X b a c d/\D.ct a c
 | .ret u=>∃ v a c,Inv X b a c d/\RelV v u/\D.rt v c
def PE(X:Cx)(e:iS)(t:TE):Prop :=
 ∀(pins:List (av×Obj))(s:ay)(σ:St)(H:Hp)(Q:VK),Inv X pins σ H s->t σ H Q->dr (model X.prog X.w) X.A (eval e X.env) (EP X pins σ Q) X.xe s
def PT(X:Cx)(e:iS)(t:TT):Prop :=
 ∀(pins:List (av×Obj))(s:ay)(σ:St)(H:Hp)(Q:Bool->Hp->Prop),Inv X pins σ H s->t σ H Q->dr (model X.prog X.w) X.A (isTrue e X.env (eval e X.env)) (TP X pins σ Q) X.xe s
def PW(X:Cx)(e:iS)(t:TT):Prop :=
 ∀(vR:Sem ar)(pins:List (av×Obj))(s:ay)(σ:St)(H:Hp)(Q:Bool->Hp->Prop),Inv X pins σ H s->t σ H Q->dr (model X.prog X.w) X.A (isTrue e X.env vR) (TP X pins σ Q) X.xe s
def PW.pt{X:Cx}{e:iS}{t:TT}(h:PW X e t):PT X e t:=h _
def PA(X:Cx)(b:List iS)(t:TA):Prop :=
 ∀(a:Pos)(pins:List (av×Obj))(s:ay)(σ:St)(H:Hp)(Q:List V->Hp->Prop),Inv X pins σ H s->t σ H Q->dr (model X.prog X.w) X.A (spliced (backTo a (starEach b X.env))) (AP X pins σ Q) X.xe s
def PS(X:Cx)(st:qa)(t:TS):Prop :=
 ∀(pins:List (av×Obj))(s:ay)(σ:St)(H:Hp)(D:Ends),Inv X pins σ H s->t D σ H->dr (model X.prog X.w) X.A (exec st X.env) (SP X pins D) X.xe s
def PSs(X:Cx)(st:List qa)(t:TS):Prop :=
 ∀(pins:List (av×Obj))(s:ay)(σ:St)(H:Hp)(D:Ends),Inv X pins σ H s->t D σ H->dr (model X.prog X.w) X.A (execs st X.env) (SP X pins D) X.xe s
def thn{α:Type}{t:Sem α}{Q b:α->ay->Prop}{M:yt}{A:fq}{E:ar->ay->Prop}{s:ay}(h:dr M A t Q E s)(c:∀ a s,Q a s->b a s):dr M A t b E s:=vi h c λ _ _ x=>x
section
variable {X:Cx}
inductive kRX(i:Nat)(σ:St)(H:Hp)(Q:VK):Prop
 | mk:∀ v,(σ[i]?=some (some v))->(Q v H)->kRX i σ H Q
def tC(v:V):TE:=λ _ H Q=>Q v H
def kSO{i:Nat}{x:Str}{j:Pos}(q:X.N[i]?=some x)(A:Vis X.env.scope x)(n:(x == ("__debug__" : Str))=false:=by decide)(g:(x == ("__classdict__" : Str))=false:=by decide):PE X (.Name x j) (kRX i):=by
 intro f s C H Q I h;obtain⟨v,e,h⟩:=h;obtain⟨m,y,B⟩:=I.loc;obtain⟨u,r,l⟩:=B i x v q e A;have d:EP X f C Q u s:=⟨v,H,I,r,h⟩;rcases l with⟨b,p⟩ | ⟨b,c,o,a⟩
 ·exact Ec (wpAny_loadName_local I.ok.kind b y p d) n
 ·rcases b with b | b
  ·exact Ec (wpAny_loadName_cell I.ok.kind b o a d) n
  ·exact Ec (wpAny_loadName_free I.ok.kind b o a d g) n
def kI {i j pos}:PE X (.Constant (.int i) j pos) (tC (.int i)):=λ _ _ _ H _ I h=>wpAny_Constant_int ⟨.int i,H,I.tok _,⟨_,rfl⟩,h⟩
def aP {b j pos}:PE X (.Constant (.bool b) j pos) (tC (.bl b)):=λ _ _ _ H _ I h=>Constant_bool ⟨.bl b,H,I,rfl,h⟩
def wJ {j pos}:PE X (.Constant .none j pos) (tC .non):=λ _ _ _ H _ I h=>Constant_none ⟨.non,H,I,rfl,h⟩
def Gl(X:Cx)(x:Str):Prop:=X.env.kindOf x=some .globalImplicit
def kQA{E:ar->ay->Prop}{a:List (av×Obj)}{s:ay}{f:St}{H:Hp}{x:Str}{u:ar}{b:Pos}{Q:ar->ay->Prop}(I:Inv X a f H s)(d:Gl X x)(g:X.mg x=some u)(h:Q u s)
  (c:(x == ("__debug__" : Str))=false:=by decide):dr (model X.prog X.w) X.A (eval (.Name x b) X.env) Q E s :=
 BK I.ok.kind d (Calls.loadGlobal_global (by rw[I.ok.glob];exact I.mod.glob.keeps I.bk) g h) c
def wK{E:ar->ay->Prop}{a:List (av×Obj)}{s:ay}{g:St}{H:Hp}{x:Str}{u:ar}{b:Pos}{Q:ar->ay->Prop}(I:Inv X a g H s)(d:Gl X x)(l:X.mg x=none)(j:bootBuiltins x=some u)(h:Q u s)
  (f:x≠"__name__":=by decide) (c:(x == ("__debug__" : Str))=false:=by decide):dr (model X.prog X.w) X.A (eval (.Name x b) X.env) Q E s:=by
 obtain⟨m,h1,i⟩:=I.mod.blt;exact BK I.ok.kind d (Calls.loadGlobal_builtin (by rw[I.ok.glob];exact I.mod.glob.keeps I.bk) l (by rw[I.ok.blt];exact h1.keeps I.bk) ((i x f).trans j) h) c
def sL{x:Str}{v:V}{u:ar}{a:Pos}(c:Gl X x)(g:X.mg x=none)(f:bootBuiltins x=some u)(r:RelV v u)(d:x≠"__name__":=by decide)(b:(x == ("__debug__" : Str))=false:=by decide):PE X (.Name x a) (tC v) :=
 λ _ _ _ H _ I h=>wK I c g f ⟨v,H,I,r,h⟩ d b
variable {a b:iS} {ta tb:TE} {pos:Pos}
def PC(X:Cx)(f:GO)(a b:iS)(t:TE):Prop :=
 ∀(pins:List (av×Obj))(s:ay)(σ:St)(H:Hp)(Q:VK),Inv X pins σ H s->t σ H Q ->
  dr (model X.prog X.w) X.A (eval a X.env) (λ v c=>dr (model X.prog X.w) X.A (eval b X.env) (λ u d=>dr (model X.prog X.w) X.A (compareOp f v u) (EP X pins σ Q) X.xe d) X.xe c) X.xe s
inductive tBY(Q:Bool->Hp->Prop)(x:V)(H1:Hp):Prop
 | mk:∀ c,(x=.bl c)->(Q c H1)->tBY Q x H1
def tB(t:TE):TT:=λ b H Q=>t b H λ x a=>tBY Q x a
def kSK{g:GO}{t:TE}(h:PC X g a b t)(h1:behindInMarks g b=false:=by first | exact nobehind _ (by decide) (by decide) | rfl):PT X (.Compare a [g] [b] pos) (tB t):=by
 intro f s p H Q I l;refine Co (thn (h f s p H _ I l) λ v r h1=>thn h1 λ u y o=>thn o λ c A ⟨x,j,n,m,i⟩=>?_) h1;obtain⟨d,rfl,q⟩:=i;cases m
 exact qj ⟨j,n,q⟩
def aZ{e:iS}{t:TE}(h:PE X e t)(f:∀ vR,isTrue e X.env vR=(do let v <-vR;standAt e.pos;holding [v] (truthy v)):=by intro _;rfl):PT X e (tB t):=by
 intro a s g H Q I i;refine isTrue_plain (thn (h a s g H _ I i) λ v m ⟨x,c,l,j,b⟩=>?_) (f _);obtain⟨d,rfl,q⟩:=b;cases j
 exact qj ⟨c,l,q⟩
variable {tA tB':TT} {rest:List iS}
def kWF(t u:TT):TT:=λ b H Q=>t b H λ c a=>if c=true then u b a Q else Q false a
def tOr(t u:TT):TT:=λ b H Q=>t b H λ c a=>if c=true then Q true a else u b a Q
def kWB(t:TT):TT:=λ b H Q=>t b H λ c a=>Q (!c) a
def fY(d:PT X a tA):PW X (.BoolOp .And [a] pos) tA:=by
 intro g b s f H Q I h;refine isTrue_and (thn (d b s f H Q I h) λ c i e=>?_)
 cases c with
 | true=>exact isTrue_and_nil e
 | false=>exact e
def kDL(d:PT X a tA):PW X (.BoolOp .Or [a] pos) tA:=by
 intro g b s f H Q I h;refine isTrue_or (thn (d b s f H Q I h) λ c i e=>?_)
 cases c with
 | false=>exact isTrue_or_nil e
 | true=>exact e
def mB(n:PT X a tA)(o:PW X (.BoolOp .And (b::rest) pos) tB'):PW X (.BoolOp .And (a::b::rest) pos) (kWF tA tB'):=by
 intro l d s i H Q I h;refine isTrue_and (thn (n d s i H _ I h) λ c m ⟨g,j,f⟩=>?_)
 cases c with
 | true=>exact o l d m i g Q j f
 | false=>exact⟨g,j,f⟩
def kMF(n:PT X a tA)(o:PW X (.BoolOp .Or (b::rest) pos) tB'):PW X (.BoolOp .Or (a::b::rest) pos) (tOr tA tB'):=by
 intro l d s i H Q I h;refine isTrue_or (thn (n d s i H _ I h) λ c m ⟨g,j,f⟩=>?_)
 cases c with
 | true=>exact⟨g,j,f⟩
 | false=>exact o l d m i g Q j f
def bA(f:PT X a tA):PT X (.UnaryOp .Not a pos) (kWB tA):=by
 intro b s g H Q I h;exact isTrue_not (f b s g H (λ c d=>Q (!c) d) I h)
inductive kLA(tb:TE)(σ:St)(Q:VK)(x:V)(H1:Hp):Prop
 | mk:∀ c,(x=.bl c)->(if c=true then tb σ H1 Q else Q (.bl false) H1)->kLA tb σ Q x H1
def kUI(b d:TE):TE:=λ a H Q=>b a H λ x c=>kLA d a Q x c
inductive kKW(Q:VK)(x:V)(H1:Hp):Prop
 | mk:∀ c,(x=.bl c)->(Q (.bl (!c)) H1)->kKW Q x H1
def kUC(a:TE):TE:=λ c H Q=>a c H λ x b=>kKW Q x b
def kDQ {op} {t:TE} (h:PE X a t):PE X (.BoolOp op [a] pos) t:=λ b s c H Q I d=>BoolOp_one (h b s c H Q I d)
def mE(m:PE X a ta)(n:PE X (.BoolOp .And (b::rest) pos) tb):PE X (.BoolOp .And (a::b::rest) pos) (kUI ta tb):=by
 intro d s i H Q I h;refine BoolOp_and (thn (m d s i H _ I h) λ v l ⟨x,g,j,o,f⟩=>?_);obtain⟨c,rfl,f⟩:=f;cases o
 refine qj ?_
 cases c with
 | true=>exact n d l i g Q j f
 | false=>exact⟨.bl false,g,j,rfl,f⟩
def kSP(g:PE X a ta):PE X (.UnaryOp .Not a pos) (kUC ta):=by
 intro b s i H Q I h;refine UnaryOp_ (thn (g b s i H _ I h) λ v m ⟨x,f,l,j,d⟩=>?_);obtain⟨c,rfl,d⟩:=d;cases j
 exact not_of (qj ⟨.bl (!c),f,l,rfl,d⟩)
def tIf(t:TT)(d f:TE):TE:=λ a H Q=>t a H λ c b=>if c=true then d a b Q else f a b Q
def kAZ{c:iS}(o:PT X c tA)(n:PE X a ta)(p:PE X b tb):PE X (.IfExp c a b pos) (tIf tA ta tb):=by
 intro f s g H Q I h;refine wpAny_IfExp (thn (o f s g H _ I h) λ d j ⟨l,m,i⟩=>?_)
 cases d with
 | true=>exact n f j g l Q m i
 | false=>exact p f j g l Q m i
end
def SqL(K:az)(H:Hp)(a:av)(xs:List V):Prop :=
 Rd H a (.lst xs) \/
  ∃(o:Obj)(b:Array ar)(n:Nat),K.lookup a=some o/\o.cls=.type "list"/\o.dict=none/\o.data=.seq b n/\b.size<=sizeLine/\Vals xs b.toList
def SqT(K:az)(H:Hp)(a:av)(xs:List V):Prop :=
 Rd H a (.tup xs) \/
  ∃(o:Obj)(b:Array ar)(n:Nat),K.lookup a=some o/\o.cls=.type "tuple"/\o.data=.seq b n/\b.size<=sizeLine/\Vals xs b.toList
def kWM:ar->Option V
 | .none=>some .non
 | .bool b=>some (.bl b)
 | .int i _=>some (.int i)
 | .str x _=>some (.str x)
 | .bytes b _=>some (.byt b)
 | .float b _=>some (.flt b)
 | .ref a=>some (.ref a)
 | .type n=>some (.ty n)
 | _=>none
def RelV.abs{x:V}{u:ar}(r:RelV x u):kWM u=some x:=by
 cases x with
 | non=>cases r;rfl
 | bl _=>cases r;rfl
 | int _=>obtain⟨t,rfl⟩:=r;rfl
 | str _=>obtain⟨t,rfl⟩:=r;rfl
 | byt _=>obtain⟨t,rfl⟩:=r;rfl
 | flt _=>obtain⟨t,rfl⟩:=r;rfl
 | ref _=>cases r;rfl
 | ty _=>cases r;rfl
def RelV.inj{x y:V}{u:ar}(r:RelV x u)(q:RelV y u):x=y:=bq (r.abs.symm.trans q.abs)
theorem Vals.inj:∀{xs ys:List V}{a:List ar},Vals xs a->Vals ys a->xs=ys
 | _,_,_,.nil,.nil=>rfl
 | _,_,_,.cons r t,.cons r' t'=>by rw[r.inj r',Vals.inj t t']
section
variable {X:Cx} {pins:List (av×Obj)} {σ:St} {H:Hp} {s:ay} {a:av} {xs ys:List V}
def SqL.of{K:az}(h:H a=some (.lst xs)):SqL K H a xs:=.inl (.inl h)
def SqT.of{K:az}(h:H a=some (.tup xs)):SqT K H a xs:=.inl (.inl h)
def Inv.list(I:Inv X pins σ H s)(h:SqL X.K H a xs):∃ its:List ar,Vals xs its/\PlainL s.heap a its.toArray/\xs.length<=sizeLine:=by
 rcases h with h | ⟨o,its,n,c,d,b,f,g,r⟩
 ·obtain⟨z,its,n,r,e⟩:=h.ok I.hok
  exact⟨its,r,⟨_,n,e,rfl,rfl,rfl⟩,z⟩
 ·refine⟨its.toList,r,⟨o,n,I.kIn a o c,d,b,by simpa using f⟩,?_⟩
  have e:=r.length;simp only[iB]at e;omega
def Inv.tuple(I:Inv X pins σ H s)(h:SqT X.K H a xs):∃ its:List ar,Vals xs its/\Eb s.heap a its.toArray/\xs.length<=sizeLine:=by
 rcases h with h | ⟨o,its,n,b,c,d,f,r⟩
 ·obtain⟨z,its,r,p⟩:=h.ok I.hok
  exact⟨its,r,p.isTup,z⟩
 ·refine⟨its.toList,r,⟨o,I.kIn a o b,c,n,by simpa using d⟩,?_⟩
  have e:=r.length;simp only[iB]at e;omega
def Inv.list_inj(I:Inv X pins σ H s)(h:SqL X.K H a xs)(h':SqL X.K H a ys):xs=ys:=by
 obtain⟨c,r,⟨o,n,e,_,_,d⟩,_⟩:=I.list h;obtain⟨b,i,⟨j,l,g,_,_,f⟩,_⟩:=I.list h';rw[e]at g;cases g;rw[d]at f;injection f with d1 _
 have:c=b:=by simpa using congrArg Fy d1
 subst this;exact r.inj i
def Inv.tuple_inj(I:Inv X pins σ H s)(h:SqT X.K H a xs)(h':SqT X.K H a ys):xs=ys:=by
 obtain⟨c,r,⟨o,e,_,n,d⟩,_⟩:=I.tuple h;obtain⟨b,i,⟨j,g,_,l,f⟩,_⟩:=I.tuple h';rw[e]at g;cases g;rw[d]at f;injection f with d1 _
 have:c=b:=by simpa using congrArg Fy d1
 subst this;exact r.inj i
end
abbrev Cx.wish(X:Cx)(E:ar->ay->Prop):Cx:={X with xe:=E}
abbrev Cx.nox(X:Cx):Cx:=X.wish λ _ _=>False
theorem Cx.Ok.wish{X:Cx}(ok:X.Ok)(E:ar->ay->Prop):(X.wish E).Ok :=
 ⟨ok.mod,ok.kind,ok.glob,ok.blt,ok.above,ok.inj,ok.has,ok.cab,ok.hd,ok.frames,ok.stk,ok.exf,ok.bs,ok.bsz,ok.noex,ok.exfs,ok.funs,ok.frf⟩
def Cx.Ok.unwish{X:Cx}{E:ar->ay->Prop}(ok:(X.wish E).Ok):X.Ok :=
 ⟨ok.mod,ok.kind,ok.glob,ok.blt,ok.above,ok.inj,ok.has,ok.cab,ok.hd,ok.frames,ok.stk,ok.exf,ok.bs,ok.bsz,ok.noex,ok.exfs,ok.funs,ok.frf⟩
section
variable {X:Cx} {pins:List (av×Obj)} {σ:St} {H:Hp} {s:ay} {E:ar->ay->Prop}
theorem Inv.wish(I:Inv X pins σ H s)(E:ar->ay->Prop):Inv (X.wish E) pins σ H s:=⟨I.ok.wish E,I.os,I.bare,I.base,I.loc,I.cell,I.free,I.freeC,I.pin,I.hok,I.len⟩
theorem Inv.unwish(I:Inv (X.wish E) pins σ H s):Inv X pins σ H s:=⟨I.ok.unwish,I.os,I.bare,I.base,I.loc,I.cell,I.free,I.freeC,I.pin,I.hok,I.len⟩
theorem SP.unwish{D:Ends}{f:Flow}{c:ay}(h:SP (X.wish E) pins D f c):SP X pins D f c:=by
 cases f with
 | next=>obtain⟨a,b,I,q⟩:=h;exact⟨a,b,I.unwish,q⟩
 | brk=>obtain⟨a,b,I,q⟩:=h;exact⟨a,b,I.unwish,q⟩
 | cont=>obtain⟨a,b,I,q⟩:=h;exact⟨a,b,I.unwish,q⟩
 | ret u=>obtain⟨v,a,b,I,r,q⟩:=h;exact⟨v,a,b,I.unwish,r,q⟩
theorem PSs.nox{st:List qa}{t:TS}(h:PSs X.nox st t):PSs X st t:=λ a s b H D I c =>
 vi (h a s b H D (I.wish _) c) (λ _ _ q=>q.unwish) λ _ _ z=>wx z
end
section
variable {X:Cx} {st:qa} {rest:List qa} {t u:TS} {e:iS} {te:TE} {pos:Pos}
def kUD:TS:=λ D a H=>D.nx a H
def kVY(t u:TS):TS:=λ D a H=>t {D with nx:=u D} a H
def qQ:PSs X [] kUD:=λ _ _ a H _ I h=>Ar ⟨a,H,I,h⟩
def kH(h1:PS X st t)(i:PSs X rest u):PSs X (st::rest) (kVY t u):=by
 intro a s g H D I h;refine EB (thn (h1 a s g H {D with nx:=u D} I h) λ f c q=>?_)
 cases f with
 | next =>
  obtain⟨b,j,d,q⟩:=q;exact i a c b j D d q
 | ret v=>exact q
 | brk=>exact q
 | cont=>exact q
def kJ(h1:PS X st t):PSs X [st] t:=by
 intro a s b H D I h;refine EB (thn (h1 a s b H D I h) λ f c q=>?_)
 cases f with
 | next=>exact Ar q
 | ret v=>exact q
 | brk=>exact q
 | cont=>exact q
def Inv.quiet{a:List (av×Obj)}{b:St}{H:Hp}{s:ay}(I:Inv X a b H s):interactive X.env=false:=by simp[interactive,I.ok.kind]
def kUF(b:TE):TS:=λ D a H=>b a H λ _ c=>D.nx a c
def qK(f:PE X e te)(g:swapsWith e none pos.line X.env=pure false:=by rfl):PS X (.Expr e pos) (kUF te):=by
 intro a s b H D I h;exact wpAny_Expr_any (thn (f a s b H _ I h) λ v j ⟨x,d,i,l,c⟩=>⟨b,d,i,c⟩) I.quiet g
def kWA(a:TE):TS:=λ D b H=>a b H D.rt
def kU(f:PE X e te):PS X (.Return (some e) pos) (kWA te):=by
 intro a s b H D I h;exact wpAny_Return_some (thn (f a s b H _ I h) λ v j ⟨x,d,i,g,c⟩=>⟨x,b,d,i,g,c⟩)
def kWD(c:TT)(t u:TS):TS:=λ D a H=>c a H λ b d=>if b=true then t D a d else u D a d
def xL{c:iS}{a b:List qa}{m:TT}(p:PT X c m)(o:PSs X a t)(q:PSs X b u):PS X (.If c a b pos) (kWD m t u):=by
 intro f s g H D I h;refine wpAny_If (thn (p f s g H _ I h) λ d j ⟨l,n,i⟩=>?_)
 cases d with
 | true=>exact o f j g l D n i
 | false=>exact q f j g l D n i
end
abbrev TG:=V->St->Hp->(St->Hp->Prop)->Prop
abbrev TGs:=List V->St->Hp->(St->Hp->Prop)->Prop
def PG(X:Cx)(a:iS)(t:TG):Prop :=
 ∀(pins:List (av×Obj))(s:ay)(σ:St)(H:Hp)(v:V)(u:ar)(Q:St->Hp->Prop),Inv X pins σ H s->RelV v u->t v σ H Q ->
  dr (model X.prog X.w) X.A (assign a X.env u) (λ _ d=>∃ b c,Inv X pins b c d/\Q b c) X.xe s
def PGs(X:Cx)(ts:List iS)(t:TGs):Prop :=
 ∀(pins:List (av×Obj))(s:ay)(σ:St)(H:Hp)(vs:List V)(us:List ar)(Q:St->Hp->Prop),Inv X pins σ H s->Vals vs us->t vs σ H Q ->
  dr (model X.prog X.w) X.A (assignInOrder ((assignEach ts X.env).map (·.2)) us) (λ _ c=>∃ a b,Inv X pins a b c/\Q a b) X.xe s
abbrev kTW:=V->V->V->Hp->(Hp->Prop)->Prop
def kVR(X:Cx)(t:kTW):Prop :=
 ∀(pins:List (av×Obj))(s:ay)(σ:St)(H:Hp)(o i v:V)(ov iv u:ar)(Q:Hp->Prop),Inv X pins σ H s->RelV o ov->RelV i iv->RelV v u->t o i v H Q ->
  dr (model X.prog X.w) X.A (setItem ov iv u) (λ _ b=>∃ a,Inv X pins σ a b/\Q a) X.xe s
section
variable {X:Cx} {pos:Pos}
def mV(i:Nat):TG:=λ v a H Q=>Q (a.set i (some v)) H
def zV{i:Nat}{x:Str}(b:X.N.Nodup)(hi:X.N[i]?=some x)(f:Loc X.env.scope x)(d:X.fn x=true\/X.env.scope.names.lookup x=some .local:=by first | exact .inl rfl | exact .inr rfl | assumption):PG X (.Name x pos) (mV i):=by
 intro a s g H v u Q I r h;exact Bi (kAD I b hi f r (λ j c=>⟨_,H,c,h⟩) d)
inductive kVJ(vs:List V)(σ:St)(H:Hp)(Q:St->Hp->Prop):Prop
 | mk:(vs=[])->(Q σ H)->kVJ vs σ H Q
inductive kRL(t:TG)(u:TGs)(vs:List V)(σ:St)(H:Hp)(Q:St->Hp->Prop):Prop
 | mk:∀ v r,(vs=v::r)->(t v σ H λ σ' H'=>u r σ' H' Q)->kRL t u vs σ H Q
def qR:PGs X [] kVJ:=by
 intro a s b H d c Q I r h;obtain⟨e,h⟩:=h;subst e;cases r
 exact assignInOrder_nil ⟨b,H,I,h⟩
def kQ{e:iS}{b:List iS}{t:TG}{u:TGs}(h1:PG X e t)(j:PGs X b u)
  (l:(assignEach (e::b) X.env).map (·.2)=assign e X.env::(assignEach b X.env).map (·.2):=by rfl):PGs X (e::b) (kRL t u):=by
 intro a s n H p q Q I r h;obtain⟨v,o,m,h⟩:=h;subst m
 cases r with
 | cons r rr =>
  rw[l];refine assignInOrder_cons (thn (h1 a s n H _ _ _ I r h) λ _ g ⟨c,f,i,d⟩=>?_);exact j a g c f _ _ Q i rr d
inductive nX(K:az)(n:Nat)(t:TGs)(v:V)(σ:St)(H:Hp)(Q:St->Hp->Prop):Prop
 | mk:∀ a xs,(v=.ref a)->(SqT K H a xs)->(xs.length=n)->(t xs σ H Q)->nX K n t v σ H Q
def jF{d:List iS}{k:Nat}{t:TGs}{n:Nat}(l:X.calm=true)(h:PGs X d t)
  (q:(assignEach d X.env).length=n:=by rfl) (f:(assignEach d X.env).findIdx? (·.1)=none:=by rfl):PG X (.Tuple d k pos) (nX X.K n t):=by
 intro c s j H v u Q I r g;obtain⟨a,B,A,D,y,g⟩:=g;subst A;cases r
 obtain⟨C,i,m,J⟩:=I.tuple D;refine assign_Tuple_tuple (I.ok.hd l) m (by simp[q,<-y,i.length]) f λ p G=>?_;have x:Inv X c j H {s with heap:=p}:=I.kept (t':=s.toks) λ b o e=>G b o (eA (cg e)) e
 exact h c _ j H B _ Q x (by simpa using i) g
def kWJ(to c:TE)(t:kTW):TG:=λ v a H Q=>to a H λ o b=>c a b λ i d=>t o i v d λ f=>Q a f
def kDO{o i:iS}{to c:TE}{t:kTW}(J:PE X o to)(hi:PE X i c)(A:kVR X t)
  (m:∀ v,assign (.Subscript o i pos) X.env v=(do
   let ov <-holding [v] (eval o X.env)
   let iv <-holding [v,ov] (eval i X.env)
   standAt pos
   holding [v,ov,iv] (setItem ov iv v)
   release [v,ov,iv] []):=by intro _;rfl):PG X (.Subscript o i pos) (kWJ to c t):=by
 intro a s b H v u Q I r h;rw[m];refine ai (mj (thn (J a s b H _ I h) λ ov l ⟨x,f,p,j,d⟩=>?_));refine ai (mj (thn (hi a l b f _ p d) λ iv B ⟨y,C,G,n,g⟩=>?_));refine ai (xm (ai (mj (thn (A a B b C x y v ov iv u _ G j n r g) λ _ M ⟨L,q,D⟩=>?_))));exact wpAny_release ⟨b,L,q,D⟩
def kKZ(b:TE)(g:TG):TS:=λ D a H=>b a H λ x c=>g x a c D.nx
def yB{b e:iS}{c:TE}{g:TG}(n:PE X e c)(r:PG X b g)(p:swapsWithSole [b] e pos.line X.env=pure false:=by rfl)(j:swappedStores [b] e X.env=pure none:=by rfl)
  (h1:(assignEach [b] X.env).map (·.2)=[assign b X.env]:=by rfl):PS X (.Assign [b] e pos) (kKZ c g):=by
 intro a s d H D I h;refine wpAny_Assign_stores (thn (n a s d H _ I h) λ v m ⟨x,i,o,l,f⟩=>?_) p j;rw[h1];exact thn (r a m d i x v _ o l f) λ _ u q=>q
def kSL{i:Nat}{x:Str}{e:iS}{c:TE}{a:Pos}(j:X.N.Nodup)(hi:X.N[i]?=some x)(r:Loc X.env.scope x)(l:PE X e c)(n:swapsWith e (some (.Name x a)) pos.line X.env=pure false:=by rfl)(o:X.fn x=true\/X.env.scope.names.lookup x=some .local:=by first | exact .inl rfl | exact .inr rfl | assumption) :
  PS X (.Assign [.Name x a] e pos) (kKZ c (mV i)):=by
 intro b s p H D I h;refine wpAny_Assign_Name (thn (l b s p H _ I h) λ v u ⟨y,f,m,g,d⟩=>?_) n;exact kAD m j hi r g (λ A q=>⟨_,f,q,d⟩) o
def kKT(c:TT)(i:TS):TS:=λ D a H=>∃ W:Nat->St->Hp->Prop,(∃ m,W m a H)/\∀ m a H,W m a H ->
 c a H λ b f=>if b=true then ∃ N:St->Hp->Prop,(∀ d g,N d g->∃ h,h<m/\W h d g)/\i {D with nx:=N,ct:=N,bk:=D.nx} a f else D.nx a f
def kMI{c:iS}{i:List qa}{G:TT}{C:TS}(hp:Fk (model X.prog X.w) X.A X.env X.xe)(O:PT X c G)(hb:PSs X i C):PS X (.While c i [] pos) (kKT G C):=by
 intro d s σ H D I h;obtain⟨W,⟨Z,U⟩,turn⟩:=h;refine wpAny_While (codeAny_whileLoop (λ n s'=>∃ j M,Inv X d j M s'/\W n j M) ?_ Z ⟨σ,H,I,U⟩);rintro n S ⟨g,y,T,Q⟩;refine um hp (thn (O d S g y _ T (turn n g y Q)) λ b Y ⟨J,L,m⟩=>?_)
 cases b with
 | true =>
  obtain⟨N,B,m⟩:=m;rw[if_pos rfl];refine um hp (thn (hb d Y g J _ L m) λ f s3 o=>?_)
  cases f with
  | next =>
   obtain⟨a,l,x,q⟩:=o;obtain⟨p,r,u⟩:=B a l q;exact⟨p,r,a,l,x,u⟩
  | cont =>
   obtain⟨a,l,x,q⟩:=o;obtain⟨p,r,u⟩:=B a l q;exact⟨p,r,a,l,x,u⟩
  | brk=>exact o
  | ret v=>exact o
 | false =>
  rw[if_neg dw];exact Ar ⟨g,J,L,m⟩
end
structure It where
 go:Nat->Hp->Prop
 yld:Nat->Hp->V->Hp->Prop
 stop:Nat->Hp->Prop
def yX(X:Cx)(a:List (av×Obj))(H:Hp)(b:av):Prop :=
 H b=none/\b≠X.env.locals/\b∉X.fs/\(b∈X.ex\/X.s₀.heap.objs.size<=b)/\(∀ x c,X.env.cells.lookup x=some c->c≠b)/\∀ p∈X.pn++a,p.1≠b
def Inv.fpOk{X:Cx}{a:List (av×Obj)}{g:St}{H H':Hp}{s:ay}{b:av}(I:Inv X a g H s)(d:s.heap.objs.size<=b)(f:H' b=none):yX X a H' b:=by
 refine⟨f,jc (cv I.lt d),I.nofs d,.inr (ju I.sz d),λ x c e z=>?_,λ p hp z=>?_⟩
 ·obtain⟨v,q⟩:=I.cell x c e
  exact absurd (cv q.lt (by rw[z];exact d)) (rj _)
 ·exact absurd (cv (cg (I.pin p hp).1) (by rw[z];exact d)) (rj _)
structure Turn(P:fb)(w:iI)(K:az)(tg:iS)(J:It)(fp:List av)(it:av)(tn:Nat->iO->Prop):Prop where
 mem:it∈fp
 obj:∀ i h,tn i h->∀ b∈fp,∃ o,h.get? b=some o/\∀ v,o.data≠.cell v
 keep:∀ i h h',tn i h->(∀ b∈fp,∀ o,h.get? b=some o->h'.get? b=some o)->tn i h'
 item:∀(X:Cx),X.prog=P->X.w=w->X.K=K->X.calm=true->∀(i:Nat)(pins:List (av×Obj))(s:ay)(σ:St)(H:Hp)(E:ar->ay->Prop),Inv X pins σ H s->(∀ b∈fp,yX X pins H b)->tn i s.heap->J.go i H ->
  dr (model P w) X.A (pyNext (.ref it)) (λ r s1=>∃ u,r=some u /\
   dr (model P w) X.A (letOwnedTupleGo tg (.ref it) u) (λ _ s2=>∃ x H',Inv X pins σ H' s2/\RelV x u/\J.yld i H x H'/\tn (i+1) s2.heap/\∀ b∈fp,H' b=none) E s1) E s
 done:∀(X:Cx),X.prog=P->X.w=w->X.K=K->X.calm=true->∀(i:Nat)(pins:List (av×Obj))(s:ay)(σ:St)(H:Hp)(E:ar->ay->Prop),Inv X pins σ H s->(∀ b∈fp,yX X pins H b)->tn i s.heap->J.stop i H ->
  dr (model P w) X.A (pyNext (.ref it)) (λ r s1=>r=none/\Inv X pins σ H s1) E s
 self:∀(A:fq)(i:Nat)(s:ay)(Q:ar->ay->Prop)(E:ar->ay->Prop),tn i s.heap->Q (.ref it) s->dr (model P w) A (pyIter (.ref it)) Q E s
abbrev TI:=St->Hp->(It->Hp->Prop)->Prop
def PIE(X:Cx)(a:List (av×Obj))(i:St)(j:iS)(R:It->Hp->Prop)(d:ar)(h:ay):Prop :=
 ∃(it:av)(f:List av)(g:Nat->iO->Prop)(J:It)(c:Hp),d=.ref it/\Inv X a i c h/\Turn X.prog X.w X.K j J f it g/\g 0 h.heap/\(∀ b∈f,yX X a c b)/\R J c
def PI(X:Cx)(b iter:iS)(a:TI):Prop :=
 ∀(pins:List (av×Obj))(s:ay)(σ:St)(H:Hp)(R:It->Hp->Prop),Inv X pins σ H s->a σ H R ->
  dr (model X.prog X.w) X.A (eval iter X.env) (λ v c=>dr (model X.prog X.w) X.A (pyIter v) (PIE X pins σ b R) X.xe c) X.xe s
def kNP{M : yt}{A : fq}{E : ar -> ay -> Prop}{s : ay}{c : iS}{it : av}{u : ar}{o : Obj}{n : String}{b : Array ar}{Q : Unit -> ay -> Prop}(i : s.heap.get? it = some o)(f : o.cls = .type n)(d : o.data = .fields b)
    (g : ["enumerate", "zip", "dict_itemiterator", "dict_reverseitemiterator", "odict_iterator", "itertools.zip_longest", "itertools.pairwise"].contains n = false) (a : Q () s) : dr M A (letOwnedTupleGo c (.ref it) u) Q E s := by
  unfold letOwnedTupleGo
  cases c <;> first
    | exact bj a
    | (cases u <;> first
        | exact bj a
        | (refine ai (wpAny_load i ?_)
           rw[f, d];show dr M A (if(["enumerate", "zip", "dict_itemiterator", "dict_reverseitemiterator", "odict_iterator", "itertools.zip_longest", "itertools.pairwise"].contains n && b[0]? == some (rawInt _)) = true then _ else _) Q E s;rw[if_neg (by intro h; rw[g, Ed]at h; cases h)];exact bj a))
def Itl(K:az)(a:av):It :=
 ⟨λ i H=>∃ b x,SqL K H a b/\b[i]?=some x,λ i H x c=>c=H/\∀ b,SqL K H a b->b[i]?=some x,λ i H=>∃ b,SqL K H a b/\b.length<=i⟩
def Itt(K:az)(a:av):It :=
 ⟨λ i H=>∃ b x,SqT K H a b/\b[i]?=some x,λ i H x c=>c=H/\∀ b,SqT K H a b->b[i]?=some x,λ i H=>∃ b,SqT K H a b/\b.length<=i⟩
def Itr(lo:Int)(n:Nat):It:=⟨λ i _=>i<n,λ i H x a=>a=H/\x=.int (lo+i),λ i _=>n<=i⟩
def kIF{P:fb}{w:iI}{K:az}{tg:iS}(a it:av):Turn P w K tg (Itl K a) [it] it (λ i h=>h.IsListIter it a i) where
 mem:=by simp
 obj:=λ i h st b g=>by
  have e:b=it:=by simpa using g
  subst e;obtain⟨o,e,c,d⟩:=st;exact⟨o,e,λ v z=>by rw[d]at z;cases z⟩
 keep:=λ i h l st k=>st.at λ o e=>k it (by simp) o e
 item:=by
  intro X q y D O i f s Q H E I m st J;subst q y D;obtain⟨xs,x,n,N⟩:=J;obtain⟨L,r,p,U⟩:=I.list n;obtain⟨u,hu,ru⟩:=r.get N;obtain⟨B,A,S,M,C,G⟩:=m it (by simp);refine wpAny_pyNext_list_item st p.isList (x:=u) (by simpa using hu) λ l j T=>?_;have Z:Inv X f Q H {s with heap:=l}:=I.turned (t':=s.toks) (λ b o g e=>(T.2 b g).trans e) B A M C G
  obtain⟨o,e,c,d⟩:=id j;exact⟨u,rfl,kNP (s:={s with heap:=l}) e c d (by decide) ⟨x,H,Z,ru,⟨rfl,λ ys Y=>by rw[I.list_inj Y n];exact N⟩,j,λ b g=>(m b g).1⟩⟩
 done:=by
  intro X q y D O i f s Q H E I m st J;subst q y D;obtain⟨xs,n,N⟩:=J;obtain⟨L,r,p,U⟩:=I.list n;obtain⟨B,A,S,M,C,G⟩:=m it (by simp);have hl:=r.length;exact wpAny_pyNext_list_end (I.ok.hd O) st p.isList (by simp;omega) λ l eb=>⟨rfl,I.turned (t':=s.toks) (λ b o g e=>eb b o g e) B A M C G⟩
 self:=λ _ _ _ _ _ st h=>wpAny_pyIter_listiter st h
def kCU{P:fb}{w:iI}{K:az}{tg:iS}(a it:av):Turn P w K tg (Itt K a) [it] it (λ i h=>h.IsTupleIter it a i) where
 mem:=by simp
 obj:=λ i h st b j=>by
  have e:b=it:=by simpa using j
  subst e;obtain⟨o,e,c,d⟩:=st;exact⟨o,e,λ v z=>by rw[d]at z;cases z⟩
 keep:=λ i h m st k=>st.at λ o e=>k it (by simp) o e
 item:=by
  intro X r A G O i f s Q H E I n st L;subst r A G;obtain⟨xs,x,q,N⟩:=L;obtain⟨g,y,p,U⟩:=I.tuple q;obtain⟨u,hu,ru⟩:=y.get N;obtain⟨C,B,S,M,D,J⟩:=n it (by simp);refine wpAny_pyNext_tuple_item st (show s.heap.IsTuple a g.toArray from p) (x:=u) (by simpa using hu) λ m l T=>?_;have Z:Inv X f Q H {s with heap:=m}:=I.turned (t':=s.toks) (λ b o j e=>(T.2 b j).trans e) C B M D J
  obtain⟨o,e,c,d⟩:=id l;exact⟨u,rfl,kNP (s:={s with heap:=m}) e c d (by decide) ⟨x,H,Z,ru,⟨rfl,λ ys Y=>by rw[I.tuple_inj Y q];exact N⟩,l,λ b j=>(n b j).1⟩⟩
 done:=by
  intro X r A G O i f s Q H E I n st L;subst r A G;obtain⟨xs,q,N⟩:=L;obtain⟨g,y,p,U⟩:=I.tuple q;obtain⟨C,B,S,M,D,J⟩:=n it (by simp);have hl:=y.length;exact wpAny_pyNext_tuple_end (I.ok.hd O) st (show s.heap.IsTuple a g.toArray from p) (by simp;omega) λ m eb=>⟨rfl,I.turned (t':=s.toks) (λ b o j e=>eb b o j e) C B M D J⟩
 self:=λ _ _ _ _ _ st h=>wpAny_pyIter_tupleiter st h
def kCV{P:fb}{w:iI}{K:az}{M:iS}(it:av)(lo:Int)(n:Nat):Turn P w K M (Itr lo n) [it] it (λ i h=>IsRangeIter h it (lo+(i:Nat)*1) ((n:Int)-(i:Nat)) 1) where
 mem:=by simp
 obj:=λ i h st b c=>by
  have e:b=it:=by simpa using c
  subst e
  exact⟨_,st,λ v z=>by
   have N:Data.fields _=Data.cell v:=z
   cases N⟩
 keep:=λ i h f st k=>k it (by simp) _ st
 item:=by
  intro X l m u j i a s B H E I g st y;subst l m u;obtain⟨q,p,C,A,r,x⟩:=g it (by simp);have W:=Walks.range (prog:=X.prog) (w:=X.w) (I.ok.hd j) it lo 1 n;refine W.item i s _ _ y st λ v f tk G d D=>?_;obtain⟨t,rfl⟩:=G;have J:Inv X a B H {s with heap:=f,toks:=tk}:=I.turned (λ b o c e=>D b o (by simpa using c) e) q p A r x
  refine⟨_,rfl,kNP (s:={s with heap:=f,toks:=tk}) (n:="range_iterator") d rfl rfl (by decide) ⟨.int (lo+i),H,J,⟨t,?_⟩,⟨rfl,rfl⟩,d,λ b c=>(g b c).1⟩⟩
  rw[Int.mul_one]
 done:=by
  intro X l m u j i a s B H E I g st y;subst l m u;obtain⟨q,p,C,A,r,x⟩:=g it (by simp);exact wpAny_pyNext_range_end (I.ok.hd j) st (by have:n<=i:=y;omega) λ f L=>⟨rfl,I.turned (t':=s.toks) (λ b o c e=>L b o c e) q p A r x⟩
 self:=λ _ _ _ _ _ st h=>wpAny_pyIter_rangeiter st h
section
variable {X:Cx} {tg:iS}
inductive kNK(K:az)(R:It->Hp->Prop)(x:V)(H1:Hp):Prop
 | mk:∀ a,(x=.ref a)->((∃ xs,SqL K H1 a xs))->(R (Itl K a) H1)->kNK K R x H1
def kNL(K:az)(c:TE):TI:=λ b H R=>c b H λ x a=>kNK K R x a
inductive kRJ(K:az)(R:It->Hp->Prop)(x:V)(H1:Hp):Prop
 | mk:∀ a,(x=.ref a)->((∃ xs,SqT K H1 a xs))->(R (Itt K a) H1)->kRJ K R x H1
def kVD(K:az)(c:TE):TI:=λ b H R=>c b H λ x a=>kRJ K R x a
def xU{l:iS}{g:TE}(n:PE X l g):PI X tg l (kNL X.K g):=by
 intro c s r H R I h;refine thn (n c s r H _ I h) λ v d ⟨x,j,f,m,i⟩=>?_;obtain⟨a,e,⟨D,y⟩,q⟩:=i;subst e;cases m
 obtain⟨u,B,p,C⟩:=f.list y;refine Bj p.isList ?_;refine⟨d.heap.objs.size,[d.heap.objs.size],_,_,j,rfl,f.kept (t':=d.toks) λ b o e=>au _ e,kIF a _,⟨_,cj _ rfl,rfl,rfl⟩,λ b A=>?_,q⟩;have e:b=d.heap.objs.size:=by simpa using A
 subst e;exact f.fpOk (be _) (f.hok.fresh (be _))
def bB{l:iS}{i:TE}(r:PE X l i):PI X tg l (kVD X.K i):=by
 intro c s u H R I h;refine thn (r c s u H _ I h) λ v d ⟨x,m,f,n,j⟩=>?_;obtain⟨a,e,⟨D,y⟩,q⟩:=j;subst e;cases n
 obtain⟨g,B,p,C⟩:=f.tuple y;refine wy (show d.heap.IsTuple a g.toArray from p) ?_;refine⟨d.heap.objs.size,[d.heap.objs.size],_,_,m,rfl,f.kept (t':=d.toks) λ b o e=>au _ e,kCU a _,⟨_,cj _ rfl,rfl,rfl⟩,λ b A=>?_,q⟩;have e:b=d.heap.objs.size:=by simpa using A
 subst e;exact f.fpOk (be _) (f.hok.fresh (be _))
def kAV{a:List (av×Obj)}{c:St}{H:Hp}{s:ay}{R:It->Hp->Prop}{E:ar->ay->Prop}{lo hi:Int}{t u v:Tok}{tk:Nat}(I:Inv X a c H s)(h1 : -(2 ^ 62)<=lo)(f:lo<2 ^ 62)(g : -(2 ^ 62)<=hi)(j:hi<2 ^ 62)
  (q:R (Itr lo (hi-lo).toNat) H):dr (model X.prog X.w) X.A (pyIter (.ref s.heap.objs.size)) (PIE X a c tg R) E {s with heap:=s.heap.push {cls:=.type "range",data:=.fields #[.int lo t,.int hi u,.int 1 v]},toks:=tk}:=by
 refine wpAny_pyIter_range (GP ..) (small_one h1 f g j) ?_;have d:Inv X a c H {s with heap:=s.heap.push {cls:=.type "range",data:=.fields #[.int lo t,.int hi u,.int 1 v]},toks:=tk}:=I.kept λ b o e=>au _ e
 refine⟨(s.heap.push {cls:=.type "range",data:=.fields #[.int lo t,.int hi u,.int 1 v]}).objs.size,[(s.heap.push {cls:=.type "range",data:=.fields #[.int lo t,.int hi u,.int 1 v]}).objs.size],_,_,H,rfl,
  d.kept (t':=tk) λ b o e=>au _ e,kCV _ lo (hi-lo).toNat,?_,λ b h=>?_,q⟩
 ·have l:lo+((0:Nat):Int)*1=lo:=by simp
  have i:(((hi-lo).toNat:Nat):Int)-((0:Nat):Int)=Fm lo hi 1:=by rw[rangeSize_one];split<;>omega
  show IsRangeIter _ _ (lo+((0:Nat):Int)*1) ((((hi-lo).toNat:Nat):Int)-((0:Nat):Int)) 1;rw[l,i];exact cj _ rfl
 ·have e:b=(s.heap.push {cls:=.type "range",data:=.fields #[.int lo t,.int hi u,.int 1 v]}).objs.size:=by simpa using h
  subst e;exact d.fpOk (be _) (d.hok.fresh (be _))
inductive kNJ(R:It->Hp->Prop)(vs:List V)(H1:Hp):Prop
 | mk:∀(j:Int),(vs=[.int j])->(-(2 ^ 62)<=j)->(j<2 ^ 62)->(R (Itr 0 j.toNat) H1)->kNJ R vs H1
def kVF(a:TA):TI:=λ d H R=>a d H λ c b=>kNJ R c b
inductive kNI(R:It->Hp->Prop)(vs:List V)(H1:Hp):Prop
 | mk:∀(i j:Int),(vs=[.int i,.int j])->((-(2 ^ 62)<=i/\i<2 ^ 62/\-(2 ^ 62)<=j/\j<2 ^ 62))->(R (Itr i (j-i).toNat) H1)->kNI R vs H1
def kVE(a:TA):TI:=λ d H R=>a d H λ c b=>kNI R c b
def jV{a:iS}{f:TA}{p c:Pos}(u:Gl X "range")(i:X.mg "range" = none)(m:PA X [a] f)(o:starEach [a] X.env=[(false,eval a X.env)]:=by rfl):PI X tg (.Call (.Name "range" p) [a] [] c) (kVF f):=by
 intro b s v H R I h;refine Fn (wK I u i Ee (ir (thn (m c b s v H _ I h) λ B y ⟨A,x,n,l,d⟩=>?_) o rfl));obtain⟨j,e,d,g,q⟩:=d;subst e
 cases l with
 | cons r rr =>
  cases rr
  obtain⟨t,rfl⟩:=r;exact call_range_1 (kAV n (by omega) (by omega) d g (by simpa using q))
def kIW{a b:iS}{l:TA}{p f:Pos}(B:Gl X "range")(n:X.mg "range" = none)(u:PA X [a,b] l)(x:starEach [a,b] X.env=[(false,eval a X.env),(false,eval b X.env)]:=by rfl)(c:starEach [b] X.env=[(false,eval b X.env)]:=by rfl) :
  PI X tg (.Call (.Name "range" p) [a,b] [] f) (kVE l):=by
 intro d s C H R I h;refine Fn (wK I B n Ee (ir (thn (u f d s C H _ I h) λ M G ⟨J,D,v,o,g⟩=>?_) (by rw[x,c]) (by rw[c];rfl)));obtain⟨i,j,e,⟨g,m,A,y⟩,q⟩:=g;subst e
 cases o with
 | cons r rr =>
  cases rr with
  | cons r' rr =>
   cases rr
   obtain⟨t,rfl⟩:=r;obtain⟨L,rfl⟩:=r';exact call_range_2 (kAV v g m A y q)
def kUE(j:TI)(g:TG)(l:TS):TS:=λ D a H=>j a H λ J h=>∃ W:Nat->Nat->St->Hp->Prop,(∃ m,W 0 m a h)/\∀ i m a H,W i m a H ->
 (J.stop i H/\D.nx a H)\/(J.go i H/\∃ N:St->Hp->Prop,(∀ c b,N c b->∃ f,f<m/\W (i+1) f c b)/\∀ x b,J.yld i H x b->g x a b λ d n=>l {D with nx:=N,ct:=N,bk:=D.nx} d n)
def sA(a:List av)(h:iO):List (av×Obj):=a.filterMap λ b=>(h.get? b).map λ o=>(b,o)
def vI{a:List av}{h:iO}{b:av}{o:Obj}(c:b∈a)(e:h.get? b=some o):(b,o)∈sA a h:=DQ.mpr ⟨b,c,by rw[e];rfl⟩
def kJB{a:List av}{h:iO}{p:av×Obj}(hp:p∈sA a h):p.1∈a/\h.get? p.1=some p.2:=by
 obtain⟨b,c,e⟩:=DQ.mp hp
 cases q:h.get? b with
 | none=>rw[q]at e;cases e
 | some o =>
  rw[q]at e;have d:(b,o)=p:=bq e;subst d;exact⟨c,q⟩
def Inv.pinned{a:List (av×Obj)}{f:St}{H:Hp}{s:ay}{c:List av}(I:Inv X a f H s)(l:∀ b∈c,yX X a H b)(m:∀ b∈c,∃ o,s.heap.get? b=some o/\∀ v,o.data≠.cell v):Inv X (a++sA c s.heap) f H s :=
 I.pins_of λ p hp=>(cf.mp hp).elim (λ z=>I.pin p (cm _ z)) λ z=>by
  obtain⟨g,e⟩:=kJB z;obtain⟨j,n,i,_⟩:=l p.1 g;obtain⟨o,h,d⟩:=m p.1 g;rw[e]at h;cases h;exact⟨e,j,n,i,d⟩
def Inv.unpinned{a pl:List (av×Obj)}{b:St}{H:Hp}{s:ay}(I:Inv X (a++pl) b H s):Inv X a b H s:=I.pins_of λ p hp=>I.pin p (cm _ (dc _ hp))
def kSM{iter:iS}{L:List qa}{wi:TI}{g:TG}{tb:TS}{a0:Pos}(hp:Fk (model X.prog X.w) X.A X.env X.xe)(hc:X.calm=true)(hi:PI X tg iter wi)(hg:PG X tg g)(l:PSs X L tb)
  (hs:∀ x,foldedSetIterable iter X.env x=pure x:=by intro _;rfl):PS X (.For tg iter L [] a0) (kUE wi g tb):=by
 intro c s σ H D I h;refine wpAny_For (thn (hi c s σ H _ I h) λ v s1 h1=>thn h1 λ a4 s2 h2=>?_) hs;obtain⟨it,S,tn,J,H2,e,I2,T,a1,f2,W,⟨m0,w0⟩,turn⟩:=h2
 subst e
 have y:∀{C:Hp},(∀ b∈S,C b=none)->∀ b∈S,yX X c C b:=λ hn b l=>⟨hn b l,(f2 b l).2⟩;refine codeAny_forLoop_any (λ n s'=>∃ i p C,Inv X c p C s'/\tn i s'.heap/\(∀ b∈S,C b=none)/\W i n p C) ?_ m0 ⟨0,σ,H2,I2,a1,λ b l=>(f2 b l).1,w0⟩;rintro n s3 ⟨i,q,Y,I3,Q,O,w3⟩;rcases turn i n q Y w3 with⟨stop,qn⟩ | ⟨go,N,hN,step⟩
 ·refine um hp (thn (T.done X rfl rfl rfl hc i c s3 q Y X.xe I3 (y O) Q stop) λ r s4 ⟨hr,I4⟩=>?_)
  subst hr;exact Ar ⟨q,Y,I4,qn⟩
 ·refine um hp (thn (T.item X rfl rfl rfl hc i c s3 q Y X.xe I3 (y O) Q go) λ r s4 ⟨u,hr,h4⟩=>?_)
  subst hr;refine um hp (thn h4 λ _ s5 ⟨x,H5,I5,r5,y5,M,a2⟩=>?_);have Z:=I5.pinned (y a2) (T.obj _ _ M);refine um hp (thn (hg _ s5 q H5 x u _ Z r5 (step x H5 y5)) λ _ s6 ⟨a3,H6,I6,q6⟩=>?_);refine um hp (thn (l _ s6 a3 H6 _ I6 q6) λ f s7 G=>?_)
  have again:∀{a:St}{j:Hp},Inv X (c++sA S s5.heap) a j s7->N a j->∃ m,m<n/\∃ i p C,Inv X c p C s7/\tn i s7.heap/\(∀ b∈S,C b=none)/\W i m p C:=λ{a j} B U=>by
   obtain⟨m',hm,w7⟩:=hN a j U;refine⟨m',hm,i+1,a,j,B.unpinned,T.keep _ _ _ M λ b l o e=>(B.pin (b,o) (cm _ (cm _ (vI l e)))).1,λ b l=>?_,w7⟩;obtain⟨o,e,d⟩:=T.obj _ _ M b l;exact(B.pin (b,o) (cm _ (cm _ (vI l e)))).2.1
  cases f with
  | next=>obtain⟨a,j,B,U⟩:=G;exact again B U
  | cont=>obtain⟨a,j,B,U⟩:=G;exact again B U
  | brk=>obtain⟨a,j,B,G⟩:=G;exact⟨a,j,B.unpinned,G⟩
  | ret v=>obtain⟨x7,a,j,B,r7,G⟩:=G;exact⟨x7,a,j,B.unpinned,r7,G⟩
end
def kNS{K:az}{a:av}{xs:List V}{g:TG}{d:TS}{D:Ends}{b:St}{H:Hp}(Pv:Nat->St->Hp->Prop)(h0:Pv 0 b H)(l:∀ i b H,i<=xs.length->Pv i b H->SqL K H a xs)
  (n:∀ i x b H,xs[i]?=some x->Pv i b H->g x b H λ σ2 H2=>d {D with nx:=Pv (i+1),ct:=Pv (i+1),bk:=D.nx} σ2 H2) (f:∀ b H,Pv xs.length b H->D.nx b H) :
  ∃ W:Nat->Nat->St->Hp->Prop,(∃ m,W 0 m b H)/\∀ i m b H,W i m b H ->
   ((Itl K a).stop i H/\D.nx b H)\/((Itl K a).go i H/\∃ N:St->Hp->Prop,(∀ σ' H',N σ' H'->∃ m',m'<m/\W (i+1) m' σ' H')/\∀ x H',(Itl K a).yld i H x H'->g x b H' λ σ2 H2=>d {D with nx:=N,ct:=N,bk:=D.nx} σ2 H2):=by
 refine⟨λ i m b H=>m=xs.length-i/\i<=xs.length/\Pv i b H,⟨xs.length,by simp,iG _,h0⟩,?_⟩;rintro i m b H ⟨rfl,h,p⟩;have q:=l i b H h p;by_cases c:i<xs.length
 ·refine .inr ⟨⟨xs,xs[i],q,by simp[c]⟩,Pv (i+1),λ σ' H' j=>⟨xs.length-(i+1),by omega,rfl,c,j⟩,λ x H' y=>?_⟩
  obtain⟨e,y⟩:=y;subst e;exact n i x b _ (y xs q) p
 ·have e:i=xs.length:=by omega
  subst e;exact .inl ⟨⟨xs,q,be _⟩,f b H p⟩
def yJ{lo:Int}{n:Nat}{g:TG}{c:TS}{D:Ends}{a:St}{H:Hp}(Pv:Nat->St->Hp->Prop)(h0:Pv 0 a H)
  (h:∀ i a H,i<n->Pv i a H->g (.int (lo+i)) a H λ σ2 H2=>c {D with nx:=Pv (i+1),ct:=Pv (i+1),bk:=D.nx} σ2 H2) (d:∀ a H,Pv n a H->D.nx a H) :
  ∃ W:Nat->Nat->St->Hp->Prop,(∃ m,W 0 m a H)/\∀ i m a H,W i m a H ->
   ((Itr lo n).stop i H/\D.nx a H)\/((Itr lo n).go i H/\∃ N:St->Hp->Prop,(∀ σ' H',N σ' H'->∃ m',m'<m/\W (i+1) m' σ' H')/\∀ x H',(Itr lo n).yld i H x H'->g x a H' λ σ2 H2=>c {D with nx:=N,ct:=N,bk:=D.nx} σ2 H2):=by
 refine⟨λ i m a H=>m=n-i/\i<=n/\Pv i a H,⟨n,by simp,iG _,h0⟩,?_⟩;rintro i m a H ⟨rfl,j,p⟩;by_cases b:i<n
 ·refine .inr ⟨b,Pv (i+1),λ σ' H' f=>⟨n-(i+1),by omega,rfl,b,f⟩,λ x H' y=>?_⟩
  obtain⟨e,y⟩:=y;subst e y;exact h i a _ b p
 ·have e:i=n:=by omega
  subst e;exact .inl ⟨be _,d a H p⟩
def kKK{c:TT}{f:TS}{D:Ends}{a:St}{H:Hp}(Pv:St->Hp->Prop)(d:St->Hp->Nat)(h0:Pv a H)
  (h:∀ a H,Pv a H->c a H λ b H1=>if b=true then f {D with nx:=λ σ' H'=>Pv σ' H'/\d σ' H'<d a H,ct:=λ σ' H'=>Pv σ' H'/\d σ' H'<d a H,bk:=D.nx} a H1 else D.nx a H1)
  (mono:∀ a H Q Q',(∀ b H1,Q b H1->Q' b H1)->c a H Q->c a H Q'):kKT c f D a H:=by
 refine⟨λ m a H=>m=d a H/\Pv a H,⟨_,rfl,h0⟩,?_⟩;rintro m a H ⟨rfl,p⟩;refine mono a H _ _ (λ b H1 q=>?_) (h a H p)
 cases b with
 | true=>exact⟨_,λ σ' H' ⟨g,l⟩=>⟨_,l,rfl,g⟩,q⟩
 | false=>exact q
abbrev R2:=V->V->Hp->VK->Prop
def OpR(X:Cx)(f:ar->ar->Sem ar)(r:R2):Prop :=
 ∀(pins:List (av×Obj))(s:ay)(σ:St)(H:Hp)(x y:V)(v u:ar)(Q:VK),Inv X pins σ H s->RelV x v->RelV y u->r x y H Q ->
  dr (model X.prog X.w) X.A (f v u) (EP X pins σ Q) X.xe s
def UnR(X:Cx)(f:ar->Sem ar)(r:V->Hp->VK->Prop):Prop :=
 ∀(pins:List (av×Obj))(s:ay)(σ:St)(H:Hp)(x:V)(v:ar)(Q:VK),Inv X pins σ H s->RelV x v->r x H Q ->
  dr (model X.prog X.w) X.A (f v) (EP X pins σ Q) X.xe s
def yY(X:Cx)(f:ar)(r:List V->Hp->VK->Prop):Prop :=
 ∀(pins:List (av×Obj))(s:ay)(σ:St)(H:Hp)(xs:List V)(us:List ar)(Q:VK),Inv X pins σ H s->Vals xs us->r xs H Q ->
  dr (model X.prog X.w) X.A (call f us) (EP X pins σ Q) X.xe s
def kWN(X:Cx)(r:V->Hp->(Bool->Hp->Prop)->Prop):Prop :=
 ∀(pins:List (av×Obj))(s:ay)(σ:St)(H:Hp)(x:V)(v:ar)(Q:Bool->Hp->Prop),Inv X pins σ H s->RelV x v->r x H Q ->
  dr (model X.prog X.w) X.A (truthy v) (TP X pins σ Q) X.xe s
def tOp(r:R2)(b d:TE):TE:=λ a H Q=>b a H λ x c=>d a c λ y f=>r x y f Q
def tUn(r:V->Hp->VK->Prop)(a:TE):TE:=λ c H Q=>a c H λ x b=>r x b Q
inductive rI(C:Int->Int->Prop)(g:Int->Int->V)(x:V)(y:V)(H:Hp)(Q:VK):Prop
 | mk:∀ i j,(x=.int i)->(y=.int j)->(C i j)->(Q (g i j) H)->rI C g x y H Q
inductive rI0(g:Int->Int->V)(x:V)(y:V)(H:Hp)(Q:VK):Prop
 | mk:∀ i j,(x=.int i)->(y=.int j)->(Q (g i j) H)->rI0 g x y H Q
inductive rU(g:Int->V)(x:V)(H:Hp)(Q:VK):Prop
 | mk:∀ i,(x=.int i)->(Q (g i) H)->rU g x H Q
section
variable {X:Cx} {a b c:iS} {ta tb tc:TE} {pos:Pos}
def kTU(j:PE X a ta)(p:PE X b tb){c:List (av×Obj)}{s:ay}{d:St}{H:Hp}{R:V->V->Hp->Prop}(I:Inv X c d H s)
  (h:ta d H λ x H1=>tb d H1 λ y H2=>R x y H2) {Q:ar->ay->Prop} {f:ar->ar->Sem ar}
  (o:∀ v u s2 x y H2,Inv X c d H2 s2->RelV x v->RelV y u->R x y H2->dr (model X.prog X.w) X.A (f v u) Q X.xe s2) :
  dr (model X.prog X.w) X.A (eval a X.env) (λ v s₁=>dr (model X.prog X.w) X.A (eval b X.env) (λ u s₂=>dr (model X.prog X.w) X.A (f v u) Q X.xe s₂) X.xe s₁) X.xe s:=by
 refine thn (j c s d H _ I h) λ v i ⟨x,H1,r,q,g⟩=>?_;refine thn (p c i d H1 _ r g) λ u s2 ⟨y,H2,m,l,n⟩=>?_;exact o v u s2 x y H2 m q l n
def kX{d:Operator}{r:R2}(p:OpR X (binaryOp d) r)(f:PE X a ta)(o:PE X b tb):PE X (.BinOp a d b pos) (tOp r ta tb):=by
 intro c s m H Q I h;exact wpAny_BinOp (kTU f o I h λ v u i x y j n g l q=>p c i m j x y v u Q n g l q)
def bP{c:UnaryOp}{r:V->Hp->VK->Prop}(l:UnR X (unaryOp c) r)(j:PE X a ta):PE X (.UnaryOp c a pos) (tUn r ta):=by
 intro b s d H Q I h;exact UnaryOp_ (thn (j b s d H _ I h) λ v g ⟨x,i,n,m,f⟩=>l b g d i x v Q n m f)
def opI{f:ar->ar->Sem ar}{C:Int->Int->Prop}{g:Int->Int->Int}
  (rule:∀(i j:Int)(t u:Tok)(s:ay)(Q:ar->ay->Prop)(E:ar->ay->Prop),C i j->Q (.int (g i j) s.toks) {s with toks:=s.toks+1}->dr (model X.prog X.w) X.A (f (.int i t) (.int j u)) Q E s) :
  OpR X f (rI C λ i j=>.int (g i j)):=by
 intro a s m H x y v u Q I c l h;obtain⟨i,j,rfl,rfl,b,q⟩:=h;obtain⟨t,rfl⟩:=c;obtain⟨d,rfl⟩:=l;exact rule i j t d s _ _ b ⟨.int (g i j),H,I.tok _,⟨_,rfl⟩,q⟩
def kUV{f:ar->ar->Sem ar}{g:Int->Int->Int}
  (rule:∀(i j:Int)(t u:Tok)(s:ay)(Q:ar->ay->Prop)(E:ar->ay->Prop),Q (.int (g i j) s.toks) {s with toks:=s.toks+1}->dr (model X.prog X.w) X.A (f (.int i t) (.int j u)) Q E s) :
  OpR X f (rI0 λ i j=>.int (g i j)):=by
 intro a s l H x y v u Q I b d h;obtain⟨i,j,rfl,rfl,q⟩:=h;obtain⟨t,rfl⟩:=b;obtain⟨c,rfl⟩:=d;exact rule i j t c s _ _ ⟨.int (g i j),H,I.tok _,⟨_,rfl⟩,q⟩
def kST{f:ar->ar->Sem ar}{g:Int->Int->Bool}
  (rule:∀(i j:Int)(t u:Tok)(s:ay)(Q:ar->ay->Prop)(E:ar->ay->Prop),Q (.bool (g i j)) s->dr (model X.prog X.w) X.A (f (.int i t) (.int j u)) Q E s) :
  OpR X f (rI0 λ i j=>.bl (g i j)):=by
 intro a s l H x y v u Q I b d h;obtain⟨i,j,rfl,rfl,q⟩:=h;obtain⟨t,rfl⟩:=b;obtain⟨c,rfl⟩:=d;exact rule i j t c s _ _ ⟨.bl (g i j),H,I,rfl,q⟩
def kWQ(i j:Int):Prop:=0<j/\j<1073741824
def kWP(i j:Int):Prop:=0<=j/\j<=1000000/\i.natAbs<2 ^ 64
def CMul(i j:Int):Prop:=(-(2 ^ 64)<i/\i<2 ^ 64)\/(-(2 ^ 64)<j/\j<2 ^ 64)
def CMul.ok{i j:Int}(h:CMul i j):IntMulOk i j:=by
 rcases h with⟨h1,a⟩ | ⟨h1,a⟩
 ·exact .of_left (intBits_le_64 h1 a)
 ·exact .of_right (intBits_le_64 h1 a)
def jG:OpR X (binaryOp .Add) (rI0 λ i j=>.int (i+j)):=kUV λ _ _ _ _ _ _ _ q=>add_int q
def zL:OpR X (binaryOp .Sub) (rI0 λ i j=>.int (i-j)):=kUV λ _ _ _ _ _ _ _ q=>sub_int q
def kDS:OpR X (binaryOp .Mult) (rI CMul λ i j=>.int (i*j)):=opI λ _ _ _ _ _ _ _ a q=>mul_int q a.ok
def kGF:OpR X (binaryOp .FloorDiv) (rI kWQ λ i j=>.int (i / j)):=opI λ i j _ _ _ _ _ a q=>by
 have h1:(0:Int)<j:=a.1;have b:j<1073741824:=a.2;exact floordiv_int (by omega) (by rw[BL i (by omega)];exact q) (.inl (PyProof.noPylong_small (by omega)))
def mG:OpR X (binaryOp .Mod) (rI (λ _ j=>0<j) λ i j=>.int (i % j)):=opI λ i j _ _ _ _ _ a q=>by
 have h1:(0:Int)<j:=a;exact mod_int' (by omega) (by rw[Int.fmod_eq_emod_of_nonneg i (by omega)];exact q)
def kSS:OpR X (binaryOp .Pow) (rI kWP λ i j=>.int (i ^ j.toNat)):=opI λ _ _ _ _ _ _ _ a q=>pow_int_small a.1 a.2.1 a.2.2 q
def unI{f:ar->Sem ar}{g:Int->Int}
  (rule:∀(i:Int)(t:Tok)(s:ay)(Q:ar->ay->Prop)(E:ar->ay->Prop),Q (.int (g i) s.toks) {s with toks:=s.toks+1}->dr (model X.prog X.w) X.A (f (.int i t)) Q E s) :
  UnR X f (rU λ i=>.int (g i)):=by
 intro a s c H x v Q I b h;obtain⟨i,rfl,q⟩:=h;obtain⟨t,rfl⟩:=b;exact rule i t s _ _ ⟨.int (g i),H,I.tok _,⟨_,rfl⟩,q⟩
def vF:UnR X (unaryOp .USub) (rU λ i=>.int (-i)):=unI λ _ _ _ _ _ q=>neg_int q
end
def kUK:V->V->Bool
 | .non,.non=>true | .non,.int _=>true | .int _,.non=>true | .non,.bl _=>true | .bl _,.non=>true | .non,.str _=>true | .str _,.non=>true
 | .int _,.int _=>true | .bl _,.bl _=>true | .str _,.str _=>true | .byt _,.byt _=>true
 | .int _,.str _=>true | .str _,.int _=>true | .bl _,.str _=>true | .str _,.bl _=>true
 | _,_=>false
inductive rEq(x:V)(y:V)(H:Hp)(Q:VK):Prop
 | mk:(kUK x y=true)->(Q (.bl (decide (x=y))) H)->rEq x y H Q
inductive rNe(x:V)(y:V)(H:Hp)(Q:VK):Prop
 | mk:(kUK x y=true)->(Q (.bl (!decide (x=y))) H)->rNe x y H Q
def kHG{i j:Int}:decide (V.int i=V.int j)=(i == j):=by
 rw[iL];simp
def kOF{i j:Bool}:decide (V.bl i=V.bl j)=(i == j):=by
 rw[iL];simp
def kHF{i j:Str}:decide (V.str i=V.str j)=(i == j):=by
 rw[iL];simp
def kHH{i j:Array UInt8}:decide (V.byt i=V.byt j)=(i.toList == j.toList):=by
 rw[iL];cases i
 cases j
 simp
section
variable {X:Cx} {a b c:iS} {ta tb tc:TE} {pos:Pos}
def qE{a:List (av×Obj)}{b:St}{H:Hp}{s:ay}{Q:VK}{k c:Bool}(I:Inv X a b H s)(q:Q (.bl k) H)(e:k=c):EP X a b Q (.bool c) s:=by
 subst e;exact⟨.bl k,H,I,rfl,q⟩
def kRH:OpR X (compareOp .Eq) rEq:=by
 intro f s g H x y v u Q I d a h;obtain⟨c,q⟩:=h
 cases x with
 | non =>
  cases d
  cases y with
  | non=>cases a;exact Ey (qE I q (by simp))
  | bl j=>cases a;exact Ez (qE I q (by simp))
  | int j=>obtain⟨b,rfl⟩:=a;exact FN (qE I q (by simp))
  | str j=>obtain⟨b,rfl⟩:=a;exact FO (qE I q (by simp))
  | _=>exact absurd (show false=true from c) dw
 | bl i =>
  cases d
  cases y with
  | non=>cases a;exact FA (qE I q (by simp))
  | bl j=>cases a;exact eq_bool (qE I q kOF)
  | str j=>obtain⟨b,rfl⟩:=a;exact FB (qE I q (by simp))
  | _=>exact absurd (show false=true from c) dw
 | int i =>
  obtain⟨t,rfl⟩:=d
  cases y with
  | non=>cases a;exact FP (qE I q (by simp))
  | int j=>obtain⟨b,rfl⟩:=a;exact eq_int (qE I q kHG)
  | str j=>obtain⟨b,rfl⟩:=a;exact FQ (qE I q (by simp))
  | _=>exact absurd (show false=true from c) dw
 | str i =>
  obtain⟨t,rfl⟩:=d
  cases y with
  | non=>cases a;exact FR (qE I q (by simp))
  | bl j=>cases a;exact FC (qE I q (by simp))
  | int j=>obtain⟨b,rfl⟩:=a;exact FS (qE I q (by simp))
  | str j=>obtain⟨b,rfl⟩:=a;exact eq_str (qE I q kHF)
  | _=>exact absurd (show false=true from c) dw
 | byt i =>
  obtain⟨t,rfl⟩:=d
  cases y with
  | byt j=>obtain⟨b,rfl⟩:=a;exact PySem.W.eq_bytes (qE I q kHH)
  | _=>exact absurd (show false=true from c) dw
 | _=>cases y<;>exact absurd (show false=true from c) dw
def mF:OpR X (compareOp .NotEq) rNe:=by
 intro f s g H x y v u Q I d a h;obtain⟨c,q⟩:=h
 cases x with
 | non =>
  cases d
  cases y with
  | non=>cases a;exact FD (qE I q (by simp))
  | bl j=>cases a;exact FE (qE I q (by simp))
  | int j=>obtain⟨b,rfl⟩:=a;exact FU (qE I q (by simp))
  | str j=>obtain⟨b,rfl⟩:=a;exact FV (qE I q (by simp))
  | _=>exact absurd (show false=true from c) dw
 | bl i =>
  cases d
  cases y with
  | non=>cases a;exact FF (qE I q (by simp))
  | bl j=>cases a;exact ne_bool (qE I q (congrArg not kOF))
  | str j=>obtain⟨b,rfl⟩:=a;exact FG (qE I q (by simp))
  | _=>exact absurd (show false=true from c) dw
 | int i =>
  obtain⟨t,rfl⟩:=d
  cases y with
  | non=>cases a;exact FW (qE I q (by simp))
  | int j=>obtain⟨b,rfl⟩:=a;exact ne_int (qE I q (congrArg not kHG))
  | str j=>obtain⟨b,rfl⟩:=a;exact FX (qE I q (by simp))
  | _=>exact absurd (show false=true from c) dw
 | str i =>
  obtain⟨t,rfl⟩:=d
  cases y with
  | non=>cases a;exact FY (qE I q (by simp))
  | bl j=>cases a;exact FH (qE I q (by simp))
  | int j=>obtain⟨b,rfl⟩:=a;exact FZ (qE I q (by simp))
  | str j=>obtain⟨b,rfl⟩:=a;exact ne_str (qE I q (congrArg not kHF))
  | _=>exact absurd (show false=true from c) dw
 | byt i =>
  obtain⟨t,rfl⟩:=d
  cases y with
  | byt j=>obtain⟨b,rfl⟩:=a;exact PySem.W.ne_bytes (qE I q (congrArg not kHH))
  | _=>exact absurd (show false=true from c) dw
 | _=>cases y<;>exact absurd (show false=true from c) dw
def kMP:OpR X (compareOp .Lt) (rI0 λ i j=>.bl (decide (i<j))):=kST λ _ _ _ _ _ _ _ q=>lt_int q
def kUU:OpR X (compareOp .LtE) (rI0 λ i j=>.bl (decide (i<=j))):=kST λ _ _ _ _ _ _ _ q=>le_int q
def kMR:OpR X (compareOp .Gt) (rI0 λ i j=>.bl (decide (j<i))):=kST λ _ _ _ _ _ _ _ q=>gt_int q
inductive kGE(x:V)(y:V)(H:Hp)(Q:VK):Prop
 | mk:(y=.non)->(Q (.bl (decide (x=.non))) H)->kGE x y H Q
def kMQ:OpR X (compareOp .Is) kGE:=by
 intro b s d H x y v u Q I a c h;obtain⟨rfl,q⟩:=h;cases c
 refine is_none_gen (qE I q ?_)
 cases x<;>first
  | (cases a;rfl)
  | (obtain⟨t,rfl⟩:=a;rfl)
inductive kBB(x:V)(y:V)(H:Hp)(Q:VK):Prop
 | mk:(y=.non)->(Q (.bl (!decide (x=.non))) H)->kBB x y H Q
def kGD:OpR X (compareOp .IsNot) kBB:=by
 intro b s d H x y v u Q I a c h;obtain⟨rfl,q⟩:=h;cases c
 refine isnot_none_gen (qE I q ?_)
 cases x<;>first
  | (cases a;rfl)
  | (obtain⟨t,rfl⟩:=a;rfl)
def qO(b:iS){a:GO}(h:a≠.In:=by decide)(f:a≠.NotIn:=by decide):behindInMarks a b=false:=by
 have d:(a == CmpOp.In)=false:=by cases a<;>first | rfl | exact absurd rfl h
 have c:(a == CmpOp.NotIn)=false:=by cases a<;>first | rfl | exact absurd rfl f
 cases b<;>simp[behindInMarks,d,c]
def zW{d:GO}{r:R2}(A:OpR X (compareOp d) r)(g:PE X a ta)(p:PE X b tb)(f:behindInMarks d b=false):PE X (.Compare a [d] [b] pos) (tOp r ta tb):=by
 intro c s n H Q I h;exact wpAny_Compare1 (kTU g p I h λ v u j x y l o i m q=>A c j n l x y v u Q o i m q) f
inductive kKU(Q:Bool->Hp->Prop)(x:V)(H':Hp):Prop
 | mk:∀ k,(x=.bl k)->(Q k H')->kKU Q x H'
def kUA(t:TE):TT:=λ a H Q=>t a H λ x b=>kKU Q x b
def kZ{f:GO}{r:R2}(M:OpR X (compareOp f) r)(p:PE X a ta)(L:PE X b tb)(m:behindInMarks f b=false):PT X (.Compare a [f] [b] pos) (kUA (tOp r ta tb)):=by
 intro d s g H Q I h
 refine Co (thn (p d s g H _ I h) λ v o ⟨x,j,A,n,i⟩=>thn (L d o g j _ A i) λ u C ⟨y,D,J,q,l⟩ =>
  thn (M d C g D x y v u _ J n q l) λ c O ⟨z,N,B,r3,k,e,G⟩=>?_) m
 subst e;cases r3
 exact qj ⟨N,B,G⟩
inductive kFA(r':R2)(tc:TE)(σ:St)(Q:VK)(y:V)(z:V)(H3:Hp):Prop
 | mk:∀ k,(z=.bl k)->((if k=true then tc σ H3 λ w' H4=>r' y w' H4 Q else Q (.bl false) H3))->kFA r' tc σ Q y z H3
def kSA(r r':R2)(b f d:TE):TE:=λ a H Q=>b a H λ x c=>f a c λ y g=>r x y g λ z h=>kFA r' d a Q y z h
def kMM{j g:GO}{r r':R2}(ho:OpR X (compareOp j) r)(l:OpR X (compareOp g) r')(T:PE X a ta)(hb:PE X b tb)(D:PE X c tc)
  (L:lastMarks [j,g] [b,c]=false:=by with_unfolding_all rfl):PE X (.Compare a [j,g] [b,c] pos) (kSA r r' ta tb tc):=by
 intro f s i H Q I h
 refine Compare_chain (thn (T f s i H _ I h) λ v N ⟨x,A,U,M,q⟩=>chain_link (thn (hb f N i A _ U q) λ u Z ⟨y,H2,I2,m,G⟩ =>
  thn (ho f Z i H2 x y v u _ I2 M m G) λ d s3 ⟨z,p,n,r3,k,e,o⟩=>?_)) L
 subst e;cases r3
 refine qj ?_
 cases k with
 | false=>exact ite_ff ⟨.bl false,p,n,rfl,o⟩
 | true=>exact ite_tt (chain_last (thn (D f s3 i p _ n o) λ S O ⟨z',C,B,J,Y⟩=>l f O i C y z' u S Q B m J Y))
def kVQ(K:az)(x:V)(H:Hp)(k:Bool):Prop :=
 match x with
 | .non=>k=false
 | .bl b=>k=b
 | .int i=>k=(i != 0)
 | .str y=>y.length<=sizeLine/\k=((y.length:Int) != 0)
 | .byt y=>y.size<=sizeLine/\k=((y.size:Int) != 0)
 | .ref p=>(∃ a,SqL K H p a/\k = !a.isEmpty)\/(∃ a,SqT K H p a/\k = !a.isEmpty)\/∃ c,H p=some (.dK c)/\k = !c.isEmpty
 | _=>False
def kEG{b:Type}{kvs:List (b×V)}{a:List (b×ar)}(r:KV kvs a):(!a.isEmpty) = !kvs.isEmpty:=by
 cases r<;>rfl
def mT{xs:List V}{a:List ar}(r:Vals xs a):(!a.toArray.isEmpty) = !xs.isEmpty:=by
 cases r<;>simp
def dG:(sizeLine:Nat)<2 ^ 63:=by rw[Bk];decide
def kRW:kWN X (λ x H Q=>∃ k,kVQ X.K x H k/\Q k H):=by
 intro A s L H x v Q I g h;obtain⟨k,e,q⟩:=h;have G:=dG;have J:sizeLine=16777216:=Bk
 cases x with
 | non =>
  cases g
  have a:k=false:=e;subst a;exact truthy_none ⟨H,I,q⟩
 | bl b =>
  cases g
  have a:k=b:=e;subst a;exact qj ⟨H,I,q⟩
 | int i =>
  obtain⟨t,rfl⟩:=g;have a:k=(i != 0):=e;subst a;exact PySem.P.truthy_int ⟨H,I,q⟩
 | str y =>
  obtain⟨t,rfl⟩:=g;obtain⟨C,a⟩ : y.length<=sizeLine/\k=((y.length:Int) != 0):=e;subst a;exact PySem.P.truthy_str (by omega) ⟨H,I.tok _,q⟩
 | byt y =>
  obtain⟨t,rfl⟩:=g;obtain⟨C,a⟩ : y.size<=sizeLine/\k=((y.size:Int) != 0):=e;subst a;exact PySem.W.truthy_bytes (by omega) ⟨H,I.tok _,q⟩
 | ref p =>
  cases g
  have a:(∃ f,SqL X.K H p f/\k = !f.isEmpty)\/(∃ f,SqT X.K H p f/\k = !f.isEmpty)\/∃ c,H p=some (.dK c)/\k = !c.isEmpty:=e;rcases a with⟨f,j,a⟩ | ⟨f,j,a⟩ | ⟨c,j,a⟩
  ·subst a
   obtain⟨o,r,n,B⟩:=I.list j;have d:=r.length;exact wpAny_truthy_list n.isList (by simp only[fe];omega) ⟨H,I.tok _,by rw[mT r];exact q⟩
  ·subst a
   obtain⟨o,r,n,B⟩:=I.tuple j;have d:=r.length;exact truthy_tuple n (by simp only[fe];omega) ⟨H,I.tok _,by rw[mT r];exact q⟩
  ·subst a
   obtain⟨B,D,l,r,m⟩ : c.length<=sizeLine/\(p == sysModules)=false/\∃ l,KV c l/\s.heap.DictOf (qG X.prog X.w) p l:=I.hok p _ j;have d:c.length=l.length:=vh r;exact wpAny_truthy_dict D m (by omega) ⟨H,I.tok _,by rw[kEG r];exact q⟩
 | _=>exact(show False from e).elim
def kMG(g:PE X a ta)(i:∀ vR,isTrue a X.env vR=(do let v <-vR;standAt a.pos;holding [v] (truthy v))) :
  PT X a (λ σ H Q=>ta σ H λ x H'=>∃ k,kVQ X.K x H' k/\Q k H'):=by
 intro b s σ H Q I h;exact isTrue_plain (thn (g b s σ H _ I h) λ v d ⟨x,f,l,j,c⟩=>kRW b d σ f x v Q l j c) (i _)
def vS{x:V}{a:List ar}(r:Vals [x] a):∃ u,a=[u]/\RelV x u:=by
 cases r with
 | cons r1 r2=>cases r2;exact⟨_,rfl,r1⟩
def kEW{x y:V}{a:List ar}(r:Vals [x,y] a):∃ u w',a=[u,w']/\RelV x u/\RelV y w':=by
 cases r with
 | cons r1 r2 =>
  cases r2 with
  | cons r3 r4=>cases r4;exact⟨_,_,rfl,r1,r3⟩
inductive rB(xs:List V)(H:Hp)(Q:VK):Prop
 | mk:∀ i,(xs=[.int i])->(Q (.int (if i<0 then -i else i)) H)->rB xs H Q
def kOL:yY X (.builtin "abs") rB:=by
 intro a s d H b c Q I r h;obtain⟨i,rfl,q⟩:=h;obtain⟨u,rfl,t,rfl⟩:=vS r;exact call_abs_int λ u tk=>⟨.int (if i<0 then -i else i),H,I.tok _,⟨_,rfl⟩,q⟩
inductive nK(xs:List V)(H:Hp)(Q:VK):Prop
 | mk:∀ i j,(xs=[.int i,.int j])->(Q (.int (if j>i then j else i)) H)->nK xs H Q
def kKD(c:X.calm=true):yY X (.builtin "max") nK:=by
 intro b s n H m l Q I r h;obtain⟨i,j,rfl,q⟩:=h;obtain⟨u,f,rfl,⟨t,rfl⟩,⟨g,rfl⟩⟩:=kEW r;refine max_two_ints (I.ok.hd c) λ d tk k=>⟨_,H,I.kept k,?_,q⟩;by_cases a:j>i
 ·rw[if_pos a,if_pos a];exact⟨_,rfl⟩
 ·rw[if_neg a,if_neg a];exact⟨_,rfl⟩
def kKE:yY X (.type "int") (λ xs H Q=>(∃ i,xs=[.int i]/\Q (.int i) H)\/∃ k,xs=[.bl k]/\Q (.int (if k then 1 else 0)) H):=by
 intro a s d H xs c Q I r h;rcases h with⟨i,rfl,q⟩ | ⟨k,rfl,q⟩
 ·obtain⟨u,rfl,t,rfl⟩:=vS r
  exact call_int_int ⟨.int i,H,I,⟨_,rfl⟩,q⟩
 ·obtain⟨u,rfl,b⟩:=vS r
  cases b
  exact call_int_bool ⟨.int (if k then 1 else 0),H,I.tok _,⟨_,rfl⟩,q⟩
end
structure ObjM(h:iO)(x dx C:av)(mA:Str->Option ar):Prop where
 obj:h.get? x=some (Ce C dx)
 ns:h.Ns1 dx mA
 ne:dx≠x
def kJH{h:iO}{d:av}{f:Str->Option ar}(n:h.Ns1 d f):∃ od,h.get? d=some od/\∀ name,Ct name od=some (f name):=by
 obtain⟨o,c,r,i,g,j,_,p⟩:=n;refine⟨o,i,λ name=>?_⟩;have e:=p name;unfold nsFind findBy at e;rw[<-Array.find?_toList]at e;unfold Ct;rw[g];dsimp only
 split
 ·rename_i y q
  rw[q]at e;exact congrArg some e
 ·rename_i q
  rw[q]at e
  have a:c.toList.any (·.refKey)=false:=by
   rw[List.any_eq_false];intro y l;obtain⟨z,t,b⟩:=j y (uu.mp l);simp[DictEntry.refKey,b]
  have m:¬ c.toList.any (·.refKey)=true:=by rw[a];exact dw
  rw[if_neg m];exact congrArg some e
def ObjM.look{h:iO}{x a C:av}{b:Str->Option ar}(I:ObjM h x a C b):∃ od,PySem.W.InstAt h x (Ce C a) C (some od)/\∀ name,Ct name od=some (b name) :=
 let ⟨od,ho,hl⟩:=kJH I.ns
 ⟨od,⟨I.obj,rfl,rfl,ho⟩,hl⟩
section
variable {prog:fb} {w:iI} {A:fq} {E:ar->ay->Prop} {s:ay} {K:az} {x dx C f:av} {mA:Str->Option ar} {name:Str} {v:ar}
end
def RelO.some_of{v:V}{o:Option ar}(r:RelO (some v) o):∃ u,o=some u/\RelV v u:=by
 cases o with
 | none=>exact(show False from r).elim
 | some u=>exact⟨u,rfl,r⟩
section
variable {P:fb} {w:iI} {H H':Hp} {h h':iO} {a C dx:av} {fs fs':List (Str×V)}
def kQG(b:HOk P w H h)(e:H a=some (.ins C dx fs)):∃ mA,ObjM h a dx C mA/\(∀ f,RelO (fs.lookup f) (mA f))/\Fw mA (fs.map (·.1))/\fs.length<=1000/\H dx=some (.own a):=by
 obtain⟨d,z,g,c,mA,n,r,q⟩:=(show ObjOk P w H h a (.ins C dx fs) from b a _ e);exact⟨mA,⟨c,n,g⟩,r,q,z,d⟩
end
structure Cls(K:az)(C:av):Prop where
 pg:EC K C Str.empty=true
 hd:PySem.W.hasDictIn K C=true
 po:PySem.W.plainOver K C=true
 sa:Ef K (.ref C) "__setattr__" = some (some (.builtin "object.__setattr__"))
def Cls.get{K:az}{C:av}(c:Cls K C)(f:Str):EC K C f=true:=c.pg
section
variable {X:Cx} {pins:List (av×Obj)} {σ:St} {H:Hp} {s:ay} {a C dx:av} {fs:List (Str×V)} {f:Str} {v:V} {A:fq} {E:ar->ay->Prop}
end
section
variable {X:Cx} {o e value:iS} {f:Str} {pos pos' tpos:Pos} {ta tv:TE}
end
section
variable {X:Cx} {pins:List (av×Obj)} {σ:St} {H:Hp} {s:ay} {A:fq} {E:ar->ay->Prop} {Q:ar->ay->Prop} {c:ar} {b:Bool}
inductive dP(K:az)(H:Hp):V->ar->Prop where
 | non:dP K H .non (.type "NoneType")
 | bl (x:Bool):dP K H (.bl x) (.type "bool")
 | int (i:Int):dP K H (.int i) (.type "int")
 | str (x:Str):dP K H (.str x) (.type "str")
 | flt (x:UInt64):dP K H (.flt x) (.type "float")
 | lst {a:av} {xs:List V} (e:H a=some (.lst xs)):dP K H (.ref a) (.type "list")
 | frz {a:av} {o:Obj} {xs:List V} (e:H a=some (.frz o (.lst xs))):dP K H (.ref a) (.type "list")
 | tup {a:av} {xs:List V} (e:H a=some (.tup xs)):dP K H (.ref a) (.type "tuple")
 | dK {a:av} {kvs:List (Key×V)} (e:H a=some (.dK kvs)):dP K H (.ref a) (.type "dict")
 | dT {a:av} {kvs:List (List Key×V)} (e:H a=some (.dT kvs)):dP K H (.ref a) (.type "dict")
 | ins {a C dx:av} {fs:List (Str×V)} (e:H a=some (.ins C dx fs)) (cl:Cls K C) (ha:Ef K (.ref C) "__class__" = some (some (.builtin "object.__class__")))
   (hn:PySem.W.specialIn K (.builtin "object.__class__") "__get__" = some (some (.builtin "getset_descriptor.__get__"))) (htk:PySem.W.takesIn K (.builtin "object.__class__")=some true)
   (hm:PySem.W.mroIn K C (.type "object")=some true):dP K H (.ref a) (.ref C)
def kJN{x:V}{u t:ar}(I:Inv X pins σ H s)(d:RelV x u)(l:dP X.K H x t)(e:Eg X.K t c=some b)(h:∀ tk,Q (.bool b) {s with toks:=tk}) :
  dr (model X.prog X.w) A (call (.builtin "isinstance") [u,c]) Q E s:=by
 cases l with
 | non=>cases(show u=zt from d);exact ml PySem.W.kitx_none I.kIn so e (λ z=>nomatch z) h
 | bl y=>cases(show u=BI y from d);exact ml PySem.W.kitx_bool I.kIn so e (λ z=>nomatch z) h
 | int i=>obtain⟨t,q⟩:=(show ∃ t,u=uk i t from d);cases q;exact ml PySem.W.kitx_int I.kIn so e (λ z=>nomatch z) h
 | str y=>obtain⟨t,q⟩:=(show ∃ t,u=Dz y t from d);cases q;exact ml PySem.W.kitx_str I.kIn so e (λ z=>nomatch z) h
 | flt y=>obtain⟨t,q⟩:=(show ∃ t,u=GN y t from d);cases q;exact ml PySem.W.kitx_float I.kIn so e (λ z=>nomatch z) h
 | @lst a f ea =>
  cases(show u=jz a from d)
  obtain⟨_,_,n,_,h1⟩:=(show ObjOk X.prog X.w H s.heap a (.lst f) from I.hok a _ ea);exact ml DZ I.kIn ⟨_,h1,rfl⟩ e (λ z=>nomatch z) h
 | @frz a ob f ea =>
  cases(show u=jz a from d)
  obtain⟨_,_,_,n,_,h1⟩:=(show ObjOk X.prog X.w H s.heap a (.frz ob (.lst f)) from I.hok a _ ea);exact ml DZ I.kIn ⟨_,h1,rfl⟩ e (λ z=>nomatch z) h
 | @tup a f ea =>
  cases(show u=jz a from d)
  obtain⟨_,_,_,p⟩:=(show ObjOk X.prog X.w H s.heap a (.tup f) from I.hok a _ ea);obtain⟨o,h1,g,_⟩:=p;exact ml PySem.W.kitx_tuple I.kIn ⟨o,h1,g⟩ e (λ z=>nomatch z) h
 | @dK a kvs ea =>
  cases(show u=jz a from d)
  obtain⟨_,_,v,_,p⟩:=(show ObjOk X.prog X.w H s.heap a (.dK kvs) from I.hok a _ ea);obtain⟨o,j,m,h1,g,_⟩:=p;exact ml Da I.kIn ⟨o,h1,g.1⟩ e (λ z=>nomatch z) h
 | @dT a kvs ea =>
  cases(show u=jz a from d)
  obtain⟨_,_,f,_,o,j,m,h1,g,_⟩:=(show ObjOk X.prog X.w H s.heap a (.dT kvs) from I.hok a _ ea);exact ml Da I.kIn ⟨o,h1,g.1⟩ e (λ z=>nomatch z) h
 | @ins a C dx fs ea cl ha hn htk hm =>
  cases(show u=jz a from d)
  obtain⟨B,O,_⟩:=kQG I.hok ea;obtain⟨r,J,_⟩:=O.look;exact ml (PySem.W.kitx_own (cl.get _) cl.hd ha hn htk hm) I.kIn J e (λ z=>nomatch z) h
end
structure Room(k:Nat)(A:fq):Prop where
 hd:A.handled=none
 dp:A.depth+3*k+5<recursionLimit
 un:A.units+16*k+200<cLine
 gd:A.guards=some []
def Room.mono{j k:Nat}{A:fq}(r:Room k A)(h:j<=k):Room j A:=⟨r.hd,by have:=r.dp;omega,by have:=r.un;omega,r.gd⟩
theorem Room.deeper{k:Nat}{A:fq}(r:Room (k+1) A)(env:Env):Room k (A.deeper env) :=
 ⟨r.hd,by have:=r.dp;show A.depth+1+3*k+5<_;omega,by have:=r.un;show A.units+3+16*k+200<_;omega,r.gd⟩
theorem Room.depth{k:Nat}{A:fq}(r:Room k A):A.depth<recursionLimit:=by have:=r.dp;omega
theorem Room.units{k:Nat}{A:fq}(r:Room k A):A.units+64<cLine:=by have:=r.un;omega
def kRY:TA:=λ _ H Q=>Q [] H
def kEZ(c:TE)(f:TA):TA:=λ a H Q=>c a H λ x d=>f a d λ b g=>Q (x::b) g
section
variable {X:Cx} {e:iS} {es:List iS} {te:TE} {t:TA} {pos:Pos}
def kW:PA X [] kRY:=λ _ _ _ _ H Q I h=>Calls.spliced_nil ⟨[],H,I,.nil,h⟩
def kE(m:PE X e te)(g:PA X es t)(p:starEach (e::es) X.env=(false,eval e X.env)::starEach es X.env:=by rfl):PA X (e::es) (kEZ te t):=by
 intro b a s c H Q I h;rw[p];show dr _ _ (spliced ((false,eval e X.env)::backTo b (starEach es X.env))) _ _ s;refine Calls.spliced_cons (thn (m a s c H _ I h) λ u l ⟨x,f,o,j,d⟩=>?_);exact thn (g b a l c f _ o d) λ y A ⟨r,q,v,n,i⟩=>⟨x::r,q,v,.cons j n,i⟩
inductive kQV(Q:VK)(xs:List V)(H1:Hp):Prop
 | mk:(xs.length<=sizeLine)->(∀ p,H1 p=none->Q (.ref p) (upd H1 p (.tup xs)))->kQV Q xs H1
def kVX(t:TA):TE:=λ c H Q=>t c H λ a b=>kQV Q a b
inductive kQX(Q:VK)(xs:List V)(H1:Hp):Prop
 | mk:(xs.length<=sizeLine)->(∀ p,H1 p=none->Q (.ref p) (upd H1 p (.lst xs)))->kQX Q xs H1
def kWC(t:TA):TE:=λ c H Q=>t c H λ a b=>kQX Q a b
def qU {x1} (h:PA X es t):PE X (.Tuple es x1 pos) (kVX t):=by
 intro a s j H Q I l;refine wpAny_Tuple_spliced (thn (h pos a s j H _ I l) λ i c ⟨g,d,f,r,z,q⟩=>⟨by rw[<-r.length];exact z,?_⟩);have m:d c.heap.objs.size=none:=f.hok.fresh (be _);refine⟨.ref c.heap.objs.size,upd d c.heap.objs.size (.tup g),f.laid (t':=c.toks) (λ b u e=>au _ e) (be _) ?_,rfl,q _ m⟩;exact⟨z,i,r,⟨_,cj _ rfl,rfl,_,rfl,rfl⟩⟩
def jD(h:PA X es t):PE X (.List es pos) (kWC t):=by
 intro a s j H Q I l;refine wpAny_List_spliced (thn (h pos a s j H _ I l) λ i c ⟨g,d,f,r,z,q⟩=>⟨by rw[<-r.length];exact z,?_⟩);have m:d c.heap.objs.size=none:=f.hok.fresh (be _);refine⟨.ref c.heap.objs.size,upd d c.heap.objs.size (.lst g),f.laid (t':=c.toks) (λ b u e=>au _ e) (be _) ?_,rfl,q _ m⟩;exact⟨z,i,0,r,cj _ rfl⟩
end
abbrev Sp:=List V->Hp->VK->XK->Prop
abbrev CXT:=List Env->Hp->ay->XK->ar->ay->Prop
structure Env0(P:fb)(w:iI)(K:az)(mg:Str->Option ar)(base:iO)(A:fq)(outer:List Env)(s:ay)(H:Hp):Prop where
 frames:A.frames=some outer
 mod:Mod K mg base
 bs:∀ b o,base.get? b=some o->s.heap.get? b=some o/\H b=none
 bsz:base.objs.size<=s.heap.objs.size
 funs:s.heap.FunFrames base outer
 frf:∀ b∈frs outer,H b=none
 hok:HOk P w H s.heap
 bare:Bh s.gens
def CE(outer:List Env)(P:fb)(w:iI)(H:Hp)(s:ay)(Q:VK)(u:ar)(a:ay):Prop :=
 ∃ v b,a.os=s.os/\Bh a.gens/\Un (frs outer) [] H b s.heap a.heap/\HOk P w b a.heap/\RelV v u/\Q v b
def CR(CX:CXT)(outer:List Env)(P:fb)(w:iI)(H:Hp)(s:ay)(Q:VK)(E:XK)(r:Result)(a:ay):Prop :=
 match r with
 | .ok (.ret u)=>CE outer P w H s Q u a
 | .ok _=>False
 | .error e=>CX outer H s E e a
structure FnOk(P:fb)(w:iI)(K:az)(mg:Str->Option ar)(base:iO)(CX:CXT)(k:Nat)(f:av)(fd:ua)(ps:List Str)(sp:Sp):Prop where
 len:∀ vs H Q E,sp vs H Q E->vs.length=ps.length
 run:∀(A:fq)(outer:List Env)(s:ay)(H:Hp)(args:Args)(us:List ar)(vs:List V)(Q:VK)(E:XK),Room k A->Env0 P w K mg base A outer s H->Dc s fd args (ps.zip us)->Vals vs us->sp vs H Q E ->
  codeAny (model P w) A (.call (.ref f) args) (CR CX outer P w H s Q E) s
section
variable {X:Cx} {pins:List (av×Obj)} {σ:St} {H:Hp} {s s':ay}
def Inv.env0(I:Inv X pins σ H s):Env0 X.prog X.w X.K X.mg X.base X.A X.stack s H :=
 ⟨I.ok.frames,I.ok.mod,I.bs,ju I.ok.bsz I.sz,I.stack,I.stkFree,I.hok,I.bare⟩
def Inv.after{Q:VK}{u:ar}(I:Inv X pins σ H s)(h:CE X.stack X.prog X.w H s Q u s'):EP X pins σ Q u s':=by
 obtain⟨v,j,os,a,un,c,r,q⟩:=h;obtain⟨i,g,d,t,f⟩:=s';obtain rfl:f=s.os:=os;exact⟨v,j,I.call (h':=i) (g':=g) (d':=d) (t':=t) (ch:=[]) un c a (λ b z=>absurd z (by simp)),r,q⟩
end
def kKY(sp:Sp)(a:List V)(E:XK)(t:TA):TE:=λ d H Q=>t d H λ c b=>sp (c++a) b Q E
def Binds(K:az)(c:ua)(ps:List Str)(b:List ar):Prop :=
 ∀(s:ay)(a:List ar),K.In s.heap->(a++b).length=ps.length->Dc s c ⟨a,[]⟩ (ps.zip (a++b))
def Binds.all{K:az}{b:ua}{ps:List Str}(h:∀ us:List ar,us.length=ps.length->bindArgs b ⟨us,[]⟩=pure (ps.zip us)):Binds K b ps []:=λ s us _ a=>by
 rw[iU]at a ⊢;exact .of_eq (h us a)
def kET(CX:CXT)(X:Cx)(E:XK):Prop:=∀(pins:List (av×Obj))(σ:St)(H:Hp)(s:ay)(e:ar)(s':ay),Inv X pins σ H s->CX X.stack H s E e s'->X.xe e s'
section
variable {X:Cx} {CX:CXT} {k:Nat} {f C:av} {fd:ua} {ps:List Str} {sp:Sp} {dvs:List V} {ds:List ar} {E:XK} {x m:Str} {p pos apos:Pos} {e o:iS} {es:List iS} {ta:TE} {t:TA}
def kSE{a:List (av×Obj)}{g:St}{H:Hp}{s:ay}{Q:VK}{b:List ar}{d:List V}(F:FnOk X.prog X.w X.K X.mg X.base CX k f fd ps sp)(m:Room k X.A)(p:Binds X.K fd ps ds)(j:Vals dvs ds)(o:kET CX X E)
  (I:Inv X a g H s) (r:Vals d b) (h:sp (d++dvs) H Q E):dr (model X.prog X.w) X.A (call (.ref f) b) (EP X a g Q) X.xe s:=by
 have i:Vals (d++dvs) (b++ds):=r.append j;have l:(b++ds).length=ps.length:=by rw[<-i.length];exact F.len _ _ _ _ h
 refine wpAny_call (De (F.run X.A X.stack s H ⟨b,[]⟩ (b++ds) (d++dvs) Q E m I.env0 (p s b I.kIn l) i h) λ r n c=>?_)
 cases r with
 | error e=>exact o a g H s e n I c
 | ok fl =>
  cases fl with
  | ret u=>exact I.after c
  | next=>exact wx c
  | brk=>exact wx c
  | cont=>exact wx c
def kPQ(F:FnOk X.prog X.w X.K X.mg X.base CX k f fd ps sp)(g:Room k X.A)(o:Gl X x)(i:X.mg x=some (.ref f))(m:AF X.K (.ref f)=true)(y:Binds X.K fd ps ds)(n:Vals dvs ds)(v:kET CX X E)
  (l:PA X (e::es) t) (c:(x == ("__debug__" : Str))=false:=by decide) (j:starEach (e::es) X.env=(false,eval e X.env)::starEach es X.env:=by rfl) (b:(backTo pos (starEach es X.env)).any (·.1)=false:=by rfl) :
  PE X (.Call (.Name x p) (e::es) [] pos) (kKY sp dvs E t):=by
 intro a s u H Q I h;refine BM (kQA I o i ?_ c);refine PySem.W.callWith_K (h₀:=X.base) I.ok.mod.kin m (thn (l pos a s u H _ I h) λ G C ⟨D,B,d,r,q⟩=>⟨d.kIn,?_⟩) j b;exact kSE F g y n v d r q
end
section
variable {X:Cx} {CX:CXT} {k:Nat} {f C:av} {fd:ua} {ps ks:List Str} {sp:Sp} {E:XK} {x m:Str} {p pos apos kpos:Pos} {e o:iS} {es:List iS} {kws:List EY} {te ta:TE} {t tk:TA} {nm:Option Str}
variable {g:List ar->List ar->List ar} {gV:List V->List V->List V}
end
structure FnScope(N P:List Str)(sc:wc):Prop where
 kind:sc.kind=.function
 co:sc.isCoroutine=false
 gen:sc.isGenerator=false
 nd:N.Nodup
 pre:N.take P.length=P
 par:∀ x∈P,sc.names.lookup x=some .local\/sc.names.lookup x=some .cell
 nofree:∀ y∈sc.names,y.2≠.free
theorem rC{kindOf:Str->Option ub}{x:Str}:∀{binds:List (Str×ar)}{m:Str->Option ar},(∀ v,(x,v)∉binds)->bindL kindOf binds m x=m x
 | [],_,_=>rfl
 | (n,v)::r,m,h=>by
  unfold bindL;rw[rC λ w a=>h w (dh _ a)]
  split
  ·have:x≠n:=by rintro rfl;exact h v eW
   simp[this]
  ·rfl
theorem rE{kindOf:Str->Option ub}{x:Str}:∀{binds:List (Str×ar)}{m:Str->Option ar},(∀ v,(x,v)∉binds)->bindC kindOf binds m x=m x
 | [],_,_=>rfl
 | (n,v)::r,m,h=>by
  unfold bindC;rw[rE λ w a=>h w (dh _ a)]
  split
  ·rfl
  ·have:x≠n:=by rintro rfl;exact h v eW
   simp[this]
theorem rD{kindOf:Str->Option ub}{x:Str}{v:ar}:∀{P:List Str}{a:List ar}{i:Nat}{m:Str->Option ar},P.Nodup->P[i]?=some x->a[i]?=some v->kindOf x=some .local ->
  bindL kindOf (P.zip a) m x=some v
 | [],_,_,_,_,h,_,_=>by simp at h
 | _::_,[],_,_,_,_,h,_=>by simp at h
 | p::P,w::a,0,m,nd,h1,h2,hk=>by
  simp at h1 h2;subst h1;subst h2;show bindL kindOf ((p,w)::P.zip a) m p=_;unfold bindL;rw[rC λ v b=>(fu.mp nd).1 (zk b).1,if_pos hk];simp
 | p::P,w::a,i+1,m,nd,h1,h2,hk=>by
  show bindL kindOf ((p,w)::P.zip a) m x=_;unfold bindL;exact rD (i:=i) (fu.mp nd).2 (by simpa using h1) (by simpa using h2) hk
theorem rF{kindOf:Str->Option ub}{x:Str}{v:ar}:∀{P:List Str}{a:List ar}{i:Nat}{m:Str->Option ar},P.Nodup->P[i]?=some x->a[i]?=some v->kindOf x≠some .local ->
  bindC kindOf (P.zip a) m x=some v
 | [],_,_,_,_,h,_,_=>by simp at h
 | _::_,[],_,_,_,_,h,_=>by simp at h
 | p::P,w::a,0,m,nd,h1,h2,hk=>by
  simp at h1 h2;subst h1;subst h2;show bindC kindOf ((p,w)::P.zip a) m p=_;unfold bindC;rw[rE λ v b=>(fu.mp nd).1 (zk b).1,if_neg hk];simp
 | p::P,w::a,i+1,m,nd,h1,h2,hk=>by
  show bindC kindOf ((p,w)::P.zip a) m x=_;unfold bindC;exact rF (i:=i) (fu.mp nd).2 (by simpa using h1) (by simpa using h2) hk
def start(N:List Str)(a:List V):St:=a.map some++gy (N.length-a.length) none
def qW(CX:CXT)(P:fb)(w:iI)(K:az)(mg:Str->Option ar)(base:iO)(N:List Str)(b:Str)(a:wc)(f:av)(d:ar)(A:fq)(outer:List Env)(s:ay)(H:Hp)(E:XK):Cx where
 prog:=P
 w:=w
 K:=K
 mg:=mg
 base:=base
 A:=A.deeper (envOfC b a s.heap.objs.size f d)
 N:=N
 s₀:=s
 H₀:=H
 env:=envOfC b a s.heap.objs.size f d
 outer:=outer
 stack:=envOfC b a s.heap.objs.size f d::outer
 ex:=[]
 calm:=true
 fn:=λ _=>true
 pn:=[]
 xe:=λ e g=>dr (model P w) (A.deeper (envOfC b a s.heap.objs.size f d)) (leaving (envOfC b a s.heap.objs.size f d) e) (λ _ c=>CX outer H s E e c) (λ h c=>CX outer H s E h c) g
def kCK{a:wc}{n:Nat}{x:Str}(h:a.names.lookup x=some .cell):∃ c,(cellsFrom n a.names []).lookup x=some c:=by
 have q:=CL a.names n [] (.inl h);exact yy.mp q
def kJO{CX:CXT}{P:fb}{w:iI}{K:az}{mg:Str->Option ar}{base:iO}{N ps:List Str}{g:Str}{d:wc}{f:av}{G:ar}{A:fq}{outer:List Env}{s J:ay}{H:Hp}{E:XK}{I:List ar}{o:List V}
  (S:FnScope N ps d) (T:A.handled=none) (l:Env0 P w K mg base A outer s H) (X:o.length=ps.length) (r:Vals o I)
  (x:InCallC s s.heap.objs.size (bindL (envOfC g d s.heap.objs.size f G).kindOf (ps.zip I) λ _=>none) (cellsFrom (s.heap.objs.size+1) d.names []) (bindC (envOfC g d s.heap.objs.size f G).kindOf (ps.zip I) λ _=>none) J) :
  Inv (qW CX P w K mg base N g d f G A outer s H E) [] (start N o) H J:=by
 have U:ps.length<=N.length:=by have:=congrArg jd S.pre;rw[de]at this;omega
 obtain⟨h1,tk,rfl,L⟩:=x.done;have m:∀ b:av,b∉(qW CX P w K mg base N g d f G A outer s H E).ex:=λ b z=>absurd (show b∈([]:List av) from z) (by simp)
 refine⟨⟨l.mod,S.kind,rfl,rfl,be _,λ y z c h1 j=>?_,λ y B=>?_,λ y c _ h=>?_,λ _=>T,Around.frames_deeper l.frames,.inr ⟨rfl,rfl⟩,λ b z=>absurd z (m b),l.bs,l.bsz,λ b _ _=>m b,λ b z=>absurd z (m b),l.funs,l.frf⟩,
  rfl,l.bare,Un.kept L,⟨_,x.toInCall.ns,λ i y v h1 j Y=>?_⟩,λ y c h=>⟨_,x.cell y c h⟩,l.hok.fresh (be _),λ y c h=>?_,λ p hp=>absurd (show p∈([]:List (av×Obj)) from hp) (by simp),l.hok.kept L,?_⟩
 ·exact name_of_addr x.apart (oh h1) (oh j)
 ·have B:d.names.lookup y=some .cell\/d.names.lookup y=some .free:=B
  rcases B with B | B
  ·exact kCK B
  ·exact absurd rfl (S.nofree _ (oh B))
 ·exact fv (x.above y c (oh h))
 ·have D:i<o.length:=by
   unfold start at j;by_cases D:i<o.length
   ·exact D
   ·rw[bf (by simpa using D)]at j
    rw[List.getElem?_replicate]at j
    split at j<;>cases j
  have Q:o[i]?=some v:=by
   unfold start at j;rw[bb (by simpa using D),bg]at j
   cases e:o[i]? with
   | none=>rw[e]at j;cases j
   | some a=>rw[e]at j;cases j;rfl
  obtain⟨u,M,O⟩:=r.get Q
  have hp:ps[i]?=some y:=by
   rw[<-S.pre,ow (by omega)];exact h1
  have C:ps.Nodup:=by rw[<-S.pre];exact S.nd.sublist (wz _ _)
  refine⟨u,O,?_⟩;rcases S.par y (di hp) with k | k
  ·exact .inl ⟨k,rD C hp M k⟩
  ·obtain⟨c,e⟩:=kCK (n:=s.heap.objs.size+1) k
   refine .inr ⟨.inl k,c,e,?_⟩;have q:=x.cell y c e;rw[rF C hp M (by show d.names.lookup y≠_;rw[k];decide)]at q;exact q
 ·exact l.hok.fresh (fv (x.above y c (oh h)))
 ·unfold start
  show _=N.length;rw[bu,ak,xt];omega
def kVK{CX:CXT}{P:fb}{w:iI}{K:az}{mg:Str->Option ar}{base:iO}{k:Nat}{f:av}{name c:Str}{g:Arguments}{h:List qa}{a:wc}{dV kV D pm d ct oc:ar}{an od:Option av}
  {U:Array (Option ar)} {N ps:List Str} {sp:Sp} (lk:K.lookup f=some ⟨oc,od,.func (uw name c g h a dV kV D pm an d ct),U⟩) (O:BN K d c=true) (S:FnScope N ps a)
  (len:∀ j H Q E,sp j H Q E->j.length=ps.length)
  (l:∀(A:fq)(outer:List Env)(s:ay)(H:Hp)(j:List V)(Q:VK)(E:XK),Room k (A.deeper (envOfC c a s.heap.objs.size f d))->sp j H Q E ->
   ∃ t,PSs (qW CX P w K mg base N c a f d A outer s H E) h t/\t {nx:=λ _ H'=>Q .non H',rt:=Q} (start N j) H) :
  FnOk P w K mg base CX (k+1) f (uw name c g h a dV kV D pm an d ct) ps sp:=by
 refine⟨len,λ A outer s H a0 us j Q E M G hb r B=>?_⟩;have hl:=len _ _ _ _ B;have Z:K.In s.heap:=G.mod.kin.keeps λ b o e=>(G.bs b o e).1;have T:s.heap.NoLimit:=G.mod.nolimit.keeps λ b o e=>(G.bs b o e).1
 have m:∀ y∈ps.zip us,a.names.lookup y.1=some .local\/(a.names.lookup y.1=some .cell/\((cellsFrom (s.heap.objs.size+1) a.names []).lookup y.1).isSome=true):=λ⟨n,v⟩ hy=>by
  rcases S.par n (zk hy).1 with q | q
  ·exact .inl q
  ·exact .inr ⟨q,CL _ _ _ (.inl q)⟩
 refine codeAny_call_function M.depth (Z _ _ lk) rfl S.co S.gen rfl (PySem.W.codeRec_of Z O) (hb _ _ _ _ ?_);refine wpAny_newFunctionEnv_cells S.kind m λ a1 he Y x=>?_;subst he;refine⟨T.keeps x.toInCall.keep,codeAny_func ?_⟩;obtain⟨t,ht,hq⟩:=l A outer s H j Q E (M.deeper _) B;have I:Inv (qW CX P w K mg base N c a f d A outer s H E) [] (start N j) H Y:=kJO S M.hd G hl r x;refine vi (ht [] Y (start N j) H _ I hq) (λ fl X p=>?_) λ e X p=>p
 have C:∀{i:St}{H':Hp}{v:V}{u:ar},Inv (qW CX P w K mg base N c a f d A outer s H E) [] i H' X->RelV v u->Q v H'->CE outer P w H s Q u X :=
  λ{i H' v u} J L q=>⟨v,H',J.os,J.bare,J.base,J.hok,L,q⟩
 cases fl with
 | ret u =>
  obtain⟨v,i,H',J,L,q⟩:=p;exact C J L q
 | next =>
  obtain⟨i,H',J,q⟩:=p;exact C (v:=V.non) (u:=zt) J rfl q
 | brk =>
  obtain⟨_,_,_,q⟩:=p;exact wx q
 | cont =>
  obtain⟨_,_,_,q⟩:=p;exact wx q
section
variable {X:Cx} {x:Str} {p pos:Pos} {e:iS} {es:List iS} {t:TA} {id T:String} {r:List V->Hp->VK->Prop}
def tCB(r:List V->Hp->VK->Prop)(t:TA):TE:=λ c H Q=>t c H λ b a=>r b a Q
def kR(i:yY X (.builtin id) r)(B:Gl X x)(j:X.mg x=none)(v:bootBuiltins x=some (.builtin id))(q:PA X (e::es) t)(u:x≠"__name__":=by decide)(c:(x == ("__debug__" : Str))=false:=by decide)
  (n:starEach (e::es) X.env=(false,eval e X.env)::starEach es X.env:=by rfl) (b:(backTo pos (starEach es X.env)).any (·.1)=false:=by rfl):PE X (.Call (.Name x p) (e::es) [] pos) (tCB r t):=by
 intro a s d H Q I h;refine BM (wK I B j v ?_ u c);exact ED (thn (q pos a s d H _ I h) λ A m ⟨o,g,y,l,f⟩=>i a m d g o A Q y l f) n b
def jM(i:yY X (.type T) r)(B:Gl X x)(j:X.mg x=none)(v:bootBuiltins x=some (.type T))(q:PA X (e::es) t)(u:x≠"__name__":=by decide)(c:(x == ("__debug__" : Str))=false:=by decide)
  (n:starEach (e::es) X.env=(false,eval e X.env)::starEach es X.env:=by rfl) (b:(backTo pos (starEach es X.env)).any (·.1)=false:=by rfl):PE X (.Call (.Name x p) (e::es) [] pos) (tCB r t):=by
 intro a s d H Q I h;refine BM (wK I B j v ?_ u c);exact ir (thn (q pos a s d H _ I h) λ A m ⟨o,g,y,l,f⟩=>i a m d g o A Q y l f) n b
end
end L2
namespace HT
open PySem PyProof.Rows
section
open PySem.SeqAt
open PySem.AutoSeq1 (wpAny_loadPart')
open PySem.MeetsSeq PySem.MeetsSeq2 PySem.MeetsSeq3
end
section
variable {prog:fb} {w:iI} {A:fq} {E:ar->ay->Prop} {s:ay}
def cat_tup{t b:av}{d a:List ar}{Q:ar->ay->Prop}(x:Eb s.heap t d.toArray)(B:Eb s.heap b a.toArray)(q:d≠[])
  (h1:a=[]->Q (.ref t) s) (y:a≠[]->Q (.ref s.heap.objs.size) {s with heap:=s.heap.push {cls:=.type "tuple",data:=.seq (d++a).toArray}})
  (hsz:d.length+a.length<=sizeLine):dr (model prog w) A (binaryOp .Add (.ref t) (.ref b)) Q E s:=by
 obtain⟨⟨cls,v,data,p⟩,l,m,n,r⟩:=id x;obtain⟨⟨o,h,data2,g⟩,c,f,u,i⟩:=id B;simp only at m r f i;subst m r f i;have e:d.toArray++a.toArray=(d++a).toArray:=by simp
 by_cases j:a=[]
 ·exact Df ⟨_,l,rfl⟩ ⟨_,c,rfl⟩ CA DL AG AB (yz _ _)
   (tuple_addW1 t b d.toArray a.toArray n u v h p g (by simpa using q) (by simp[j])) ⟨l,c,h1 j⟩
 ·refine Df ⟨_,l,rfl⟩ ⟨_,c,rfl⟩ CA DL AG AB (yz _ _)
   (tuple_addW2 t b d.toArray a.toArray n u v h p g (by simpa using q) (by simpa using j) (by rw[fe,fe];exact hsz)) ⟨l,c,?_⟩
  rw[e];exact y j
def sIx(n d:Nat):Option Int->Nat
 | none=>d
 | some v=>if v<0 then(v+(n:Int)).toNat else min v.toNat n
def sIx_none(n d:Nat):sIx n d none=d:=rfl
def sIx_nat(n d k:Nat):sIx n d (some (k:Int))=min k n:=by
 show(if(k:Int)<0 then((k:Int)+(n:Int)).toNat else min (k:Int).toNat n)=min k n;rw[if_neg (by omega),iw]
def kSC(n d:Nat)(b:d<=n)(o:Option Int):sIx n d o<=n:=by
 cases o with
 | none=>exact b
 | some v =>
  show(if v<0 then(v+(n:Int)).toNat else min v.toNat n)<=n;by_cases a:v<0
  ·rw[if_pos a];omega
  ·rw[if_neg a];exact Nat.min_le_right _ _
def kHI(v:Int)(n d:Nat):(if v<0 then max (v+(n:Int)) 0 else min v (n:Int))=((sIx n d (some v):Nat):Int):=by
 show(if v<0 then max (v+(n:Int)) 0 else min v (n:Int))=(((if v<0 then(v+(n:Int)).toNat else min v.toNat n):Nat):Int);by_cases a:v<0
 ·simp only[if_pos a];omega
 ·simp only[if_neg a];omega
def kES(lo hi:Option Int)(n:Nat):yu lo hi 1 (n:Int)=(((sIx n 0 lo:Nat):Int),((sIx n n hi:Nat):Int)):=by
 have h1:¬ ((1:Int)<0):=by omega
 unfold yu;simp only[h1,if_false];refine ux ?_ ?_
 ·cases lo with
  | none=>rfl
  | some v=>exact kHI v n 0
 ·cases hi with
  | none=>rfl
  | some v=>exact kHI v n n
def kDN(i j:Nat):uj (i:Int) (j:Int) 1=j-i:=by
 unfold uj;have h1:(1:Int)>0:=by omega
 simp only[h1,if_true,Int.ediv_one]
 split<;>omega
def gX{v:ar}{o:Option Int}{Q:Option Int->ay->Prop}(p:CM v o)(h:Q o s):dr (model prog w) A (EN v) Q E s:=by
 cases p with
 | none=>exact Eh h
 | int i t=>exact slicePart_int h
def sliceApplied_gen{f:av}{c d:ar}{lo hi:Option Int}{n:Nat}{Q:Int×Int×Nat->ay->Prop}(g:s.heap.IsSliceOf f c d .none)(pl:CM c lo)(j:CM d hi)
  (h:Q (((sIx n 0 lo:Nat):Int),1,sIx n n hi-sIx n 0 lo) s):dr (model prog w) A (BO (.ref f) (pure (n:Int))) Q E s:=by
 obtain⟨os,a,i,b⟩:=id g;unfold BO FJ;refine ai (ai (iY a b (x:=c) rfl (ai (iY a b (x:=d) rfl (ai (iY a b (x:=.none) rfl (bj ?_)))))));refine ai (Eh ?_);show dr _ _ (if((1:Int) == 0)=true then _ else _) _ _ s;rw[if_neg (by decide)];refine ai (gX pl (ai (gX j (ai (bj ?_)))));show dr _ _ (match yu lo hi 1 (n:Int) with | (lo,hi)=>pure (lo,(1:Int),uj lo hi 1)) _ _ s
 rw[kES lo hi n];show dr _ _ (pure (((sIx n 0 lo:Nat):Int),(1:Int),uj ((sIx n 0 lo:Nat):Int) ((sIx n n hi:Nat):Int) 1)) _ _ s;rw[kDN];exact bj h
def kMJ(xs:Array ar)(i k:Nat):((cw k).filterMap λ(m:Nat)=>xs[((i:Int)+(m:Int)*1).toNat]?).toArray=((xs.toList.drop i).take k).toArray:=by
 have e:(λ(m:Nat)=>xs[((i:Int)+(m:Int)*1).toNat]?)=λ m=>xs[i+m]?:=by
  funext m
  have:((i:Int)+(m:Int)*1).toNat=i+m:=by omega
  rw[this]
 rw[e];have:=pick_run xs i k;rw[List.filterMap_map]at this;have a:((λ x=>xs[x]?)∘λ x=>i+x)=λ m=>xs[i+m]?:=rfl;rw[a]at this;rw[this]
def getItem_tuple_cut{t j:av}{a:Array ar}{n o:ar}{lo hi:Option Int}{Q:ar->ay->Prop}(c:Eb s.heap t a)(l:s.heap.IsSliceOf j n o .none)(pl:CM n lo)(p:CM o hi)
  (u:¬ (sIx a.size 0 lo=0/\sIx a.size a.size hi=a.size))
  (h:Q (.ref s.heap.objs.size) {s with heap:=s.heap.push {cls:=.type "tuple",data:=.seq ((a.toList.drop (sIx a.size 0 lo)).take (sIx a.size a.size hi-sIx a.size 0 lo)).toArray}})
  (hsz:a.size<=sizeLine):dr (model prog w) A (getItem (.ref t) (.ref j)) Q E s:=by
 have b:sizeOk (.seq ((a.toList.drop (sIx a.size 0 lo)).take (sIx a.size a.size hi-sIx a.size 0 lo)).toArray):=by
  show((a.toList.drop (sIx a.size 0 lo)).take (sIx a.size a.size hi-sIx a.size 0 lo)).toArray.size<=sizeLine;rw[fe,de,iP,iB];omega
 have y:sIx a.size a.size hi<=a.size:=kSC _ _ (be _) hi;obtain⟨os,d,i,r⟩:=id l;have g:s.TypeIs (.ref j) "slice":=⟨os,d,i⟩;unfold getItem
 try with_reducible refine mj ?_
 first | refine ai (bj ?_) | skip
 refine ai (Dg c.typeIs (by decide) ?_)
 refine ai (ka (name:=xa "__getitem__") c.typeIs jt
  (mo jt c.typeIs DF ?_ (DR _ _)))
 show dr _ _ (BP (.ref t) >>= _) _ _ s;refine ai (tupleItemsOf_ c ?_);refine ai (AH g ?_);rw[if_pos (by decide)];refine ai (sliceApplied_gen l pl p ?_)
 have f:¬ ((((sIx a.size 0 lo:Nat):Int) == 0 && (1:Int) == 1 && (sIx a.size a.size hi-sIx a.size 0 lo) == a.size)=true):=by
  intro q;rw[iK,iK]at q;have v:((sIx a.size 0 lo:Nat):Int)=0:=eq_of_beq q.1.1;have x:sIx a.size a.size hi-sIx a.size 0 lo=a.size:=eq_of_beq q.2;exact u ⟨by omega,by omega⟩
 show dr _ _ (if(((sIx a.size 0 lo:Nat):Int) == 0 && (1:Int) == 1 && (sIx a.size a.size hi-sIx a.size 0 lo) == a.size)=true then _ else _) _ _ s;rw[if_neg f,kMJ]
 first
  | exact ai (m:=vj _) (jh (bj ⟨_,rfl,bj h⟩) b)
  | exact ai (m:=vj _) (jh (ai (bj (bj ⟨_,rfl,bj h⟩))) b)
  | exact ai (ai (m:=vj _) (jh (bj (bj ⟨_,rfl,bj h⟩)) b))
  | exact ai (ai (m:=vj _) (jh (bj ⟨_,rfl,bj h⟩) b))
end
end HT
namespace L2
open PySem PySem.Spec PyProof.Rows
abbrev TO:=St->Hp->(Option Int->Hp->Prop)->Prop
def PO(X:Cx)(e:Option iS)(t:TO):Prop :=
 ∀(pins:List (av×Obj))(s:ay)(σ:St)(H:Hp)(Q:Option Int->Hp->Prop),Inv X pins σ H s->t σ H Q ->
  dr (model X.prog X.w) X.A (evalPart e X.env) (λ u b=>∃ o a,Inv X pins σ a b/\CM u o/\Q o a) X.xe s
def kOV:TO:=λ _ H Q=>Q none H
inductive kKV(Q:Option Int->Hp->Prop)(x:V)(H1:Hp):Prop
 | mk:∀ i,(x=.int i)->(Q (some i) H1)->kKV Q x H1
def kUB(t:TE):TO:=λ b H Q=>t b H λ x a=>kKV Q x a
section
variable {X:Cx} {e:iS} {te:TE} {lo hi:Option iS} {tl th:TO} {pos p2:Pos}
def jA:PO X none kOV:=by
 intro a s b H Q I h;rw[evalPart_none];exact bj ⟨none,H,I,.none,h⟩
def qF(h:PE X e te):PO X (some e) (kUB te):=by
 intro a s f H Q I g;rw[evalPart_some];refine thn (h a s f H _ I g) λ u l ⟨x,d,j,c,b⟩=>?_;obtain⟨i,rfl,q⟩:=b;obtain⟨t,rfl⟩:=c;exact⟨some i,d,j,.int i t,q⟩
def SlR(X:Cx)(r:V->Option Int->Option Int->Hp->VK->Prop):Prop :=
 ∀(pins:List (av×Obj))(s:ay)(σ:St)(H:Hp)(x:V)(v vl vu:ar)(lo hi:Option Int)(sl:av)(Q:VK),Inv X pins σ H s->RelV x v->s.heap.IsSliceOf sl vl vu .none->CM vl lo->CM vu hi->r x lo hi H Q ->
  ∃ T id,typeLookup (.type T) "__getitem__" = pure (some (.builtin id))/\s.TypeIs v T/\dr (model X.prog X.w) X.A (getItem v (.ref sl)) (EP X pins σ Q) X.xe s
def SlR.or{r r':V->Option Int->Option Int->Hp->VK->Prop}(h:SlR X r)(h':SlR X r'):SlR X (λ x lo hi H Q=>r x lo hi H Q\/r' x lo hi H Q):=by
 intro a s c H x v g j lo hi d Q I b f l i q;rcases q with q | q
 ·exact h a s c H x v g j lo hi d Q I b f l i q
 ·exact h' a s c H x v g j lo hi d Q I b f l i q
def tSl(r:V->Option Int->Option Int->Hp->VK->Prop)(b:TE)(f d:TO):TE:=λ a H Q=>b a H λ x c=>f a c λ l g=>d a g λ u h=>r x l u h Q
def qD{r:V->Option Int->Option Int->Hp->VK->Prop}(p:SlR X r)(L:PE X e te)(O:PO X lo tl)(Y:PO X hi th):PE X (.Subscript e (.Slice lo hi none p2) pos) (tSl r te tl th):=by
 intro a s d H Q I h;refine Ei (thn (L a s d H _ I h) λ v J ⟨x,m,M,D,j⟩=>?_);refine wpAny_Slice (thn (O a J d m _ M j) λ g S ⟨l,U,I2,C,B⟩=>thn (Y a S d U _ I2 B) λ f c ⟨u,i,N,o,q3⟩=>?_);rw[evalPart_none];refine bj ?_;have n:Inv X a d i {c with heap:=c.heap.push {cls:=.type "slice",data:=.fields #[g,f,.none]}}:=N.kept (t':=c.toks) λ b ob q=>au _ q
 obtain⟨T,id,G,y,Z⟩:=p a {c with heap:=c.heap.push {cls:=.type "slice",data:=.fields #[g,f,.none]}} d i x v g f l u c.heap.objs.size Q n D (GX ..) C o q3
 show dr (model X.prog X.w) X.A (subscriptTail e (.Slice lo hi none p2) v (.ref c.heap.objs.size)) (EP X a d Q) X.xe {c with heap:=c.heap.push {cls:=.type "slice",data:=.fields #[g,f,.none]}}
 exact tail_any (ops:=[.ref c.heap.objs.size,v]) y G Z (by with_unfolding_all rfl)
def xS(xs:List V)(lo hi:Option Int):List V:=(xs.drop (HT.sIx xs.length 0 lo)).take (HT.sIx xs.length xs.length hi-HT.sIx xs.length 0 lo)
def fK(xs:List V)(lo hi:Option Int):(xS xs lo hi).length<=xs.length:=by
 unfold xS;rw[de,iP];omega
inductive kSG(K:az)(x:V)(lo:Option Int)(hi:Option Int)(H:Hp)(Q:VK):Prop
 | mk:∀ a xs,(x=.ref a)->(SqT K H a xs)->(¬ (HT.sIx xs.length 0 lo=0/\HT.sIx xs.length xs.length hi=xs.length))->(∀ p,H p=none->Q (.ref p) (upd H p (.tup (xS xs lo hi))))->kSG K x lo hi H Q
def sl_tup:SlR X (kSG X.K):=by
 intro j s G H x v J D lo f B Q I p u n A h;obtain⟨a,d,rfl,y,m,q⟩:=h;cases p
 obtain⟨g,r,i,l⟩:=I.tuple y;have c:g.toArray.size=d.length:=by rw[fe];exact r.length.symm
 refine⟨"tuple",_,jt.lookup,i.typeIs,?_⟩;refine HT.getItem_tuple_cut i u n A (by rw[c];exact m) ?_ (by rw[c];exact l);rw[c];refine⟨.ref s.heap.objs.size,_,I.laid (t':=s.toks) (o:=.tup (xS d lo f)) (λ b C q=>au _ q) (be _) ?_,rfl,q _ (I.hok.fresh (be _))⟩;exact⟨ju (fK d lo f) l,_,(r.drop (HT.sIx d.length 0 lo)).take (HT.sIx d.length d.length f-HT.sIx d.length 0 lo),IsTupN.new _ _⟩
inductive kRG(K:az)(x:V)(y:V)(H:Hp)(Q:VK):Prop
 | mk:∀ a b xs ys,(x=.ref a)->(y=.ref b)->(SqT K H a xs)->(SqT K H b ys)->(xs≠[])->(xs.length+ys.length<=sizeLine)->((ys=[]->Q (.ref a) H))->((ys≠[]->∀ p,H p=none->Q (.ref p) (upd H p (.tup (xs++ys)))))->kRG K x y H Q
def Vals.nil_iff{xs:List V}{a:List ar}(r:Vals xs a):a=[]↔xs=[]:=by
 cases r with
 | nil=>simp
 | cons _ _=>simp
def kPR:OpR X (binaryOp .Add) (kRG X.K):=by
 intro f s J H x y v u Q I p r h;obtain⟨a,b,A,m,rfl,rfl,n,D,C,g,j,l⟩:=h;cases p
 cases r
 obtain⟨B,d,p1,_⟩:=I.tuple n;obtain⟨i,c,p2,_⟩:=I.tuple D;refine HT.cat_tup p1 p2 (λ z=>C (d.nil_iff.mp z)) (λ z=>⟨.ref a,H,I,rfl,j (c.nil_iff.mp z)⟩) (λ z=>?_) (by rw[<-d.length,<-c.length];exact g);refine⟨.ref s.heap.objs.size,_,I.laid (t':=s.toks) (o:=.tup (A++m)) (λ b G q=>au _ q) (be _) ?_,rfl,l (λ w=>z (c.nil_iff.mpr w)) _ (I.hok.fresh (be _))⟩;exact⟨by rw[bu];exact g,_,d.append c,IsTupN.new _ _⟩
end
def ixN(n:Nat)(i:Int):Option Nat:=if 0<=i then(if i<n then some i.toNat else none) else if -(n:Int)<=i then some (i+n).toNat else none
def atI{α:Type}(xs:List α)(i:Int):Option α:=(ixN xs.length i).bind λ j=>xs[j]?
def kGO{n:Nat}{i:Int}{j:Nat}(h:ixN n i=some j):seqIndex? i n=some j/\j<n/\-(n:Int)<=i/\i<n:=by
 unfold ixN at h;by_cases h0:0<=i
 ·rw[if_pos h0]at h
  by_cases h1:i<n
  ·rw[if_pos h1]at h
   have e:i.toNat=j:=bq h;exact⟨by rw[EK h0 h1,e],by omega,by omega,h1⟩
  ·rw[if_neg h1]at h;cases h
 ·rw[if_neg h0]at h
  by_cases h1 : -(n:Int)<=i
  ·rw[if_pos h1]at h
   have e:(i+n).toNat=j:=bq h;exact⟨by rw[Dh (by omega) h1,e],by omega,h1,by omega⟩
  ·rw[if_neg h1]at h;cases h
def kHP{α:Type}{xs:List α}{i:Int}{v:α}(h:atI xs i=some v):∃ j,seqIndex? i xs.length=some j/\xs[j]?=some v/\j<xs.length/\-(xs.length:Int)<=i/\i<xs.length:=by
 unfold atI at h
 cases e:ixN xs.length i with
 | none=>rw[e]at h;cases h
 | some j =>
  rw[e]at h;obtain⟨h1,c,a,b⟩:=kGO e;exact⟨j,h1,h,c,a,b⟩
def qS{α:Type}{xs:List α}{j:Nat}{v:α}(h:xs[j]?=some v):atI xs (j:Int)=some v:=by
 have a:j<xs.length:=(ao.mp h).1
 have e:ixN xs.length (j:Int)=some j:=by
  unfold ixN;rw[if_pos (by omega),if_pos (by omega)];simp
 unfold atI;rw[e];exact h
def yI{α:Type}(xs:List α)(v:α):atI (xs++[v]) (-1)=some v:=by
 have a:(xs++[v]).length=xs.length+1:=by simp
 have e:ixN (xs++[v]).length (-1)=some xs.length:=by
  unfold ixN;rw[a,if_neg (by decide),if_pos (by omega)]
  congr 1
  omega
 unfold atI;rw[e];show(xs++[v])[xs.length]?=some v;simp
def kHU(b:iS):Prop:=∀ o i,subscripted b false o i=operate [o,i] (getItem o i)
def IxR(X:Cx)(r:R2):Prop :=
 ∀(value a:iS)(pins:List (av×Obj))(s:ay)(σ:St)(H:Hp)(x y:V)(v u:ar)(Q:VK),Inv X pins σ H s->RelV x v->RelV y u->r x y H Q ->
  subscripted a false v u=operate [v,u] (getItem v u)->dr (model X.prog X.w) X.A (subscriptTail value a v u) (EP X pins σ Q) X.xe s
def MtR(X:Cx)(id:String)(r:V->List V->Hp->VK->Prop):Prop :=
 ∀(pins:List (av×Obj))(s:ay)(σ:St)(H:Hp)(x:V)(xs:List V)(v:ar)(us:List ar)(Q:VK),Inv X pins σ H s->RelV x v->Vals xs us->r x xs H Q ->
  dr (model X.prog X.w) X.A (call (.builtin id) (v::us)) (EP X pins σ Q) X.xe s
section
variable {X:Cx} {a b:iS} {ta tb:TE} {pos:Pos}
def kUS{r:R2}(d:IxR X r)(f:PE X a ta)(p:PE X b tb)(i:kHU b):PE X (.Subscript a b pos) (tOp r ta tb):=by
 intro c s n H Q I h;exact Ei (kTU f p I h λ v u j x y l o g m q=>d a b c j n l x y v u Q o g m q (i _ _))
inductive kSI(K:az)(x:V)(y:V)(H:Hp)(Q:VK):Prop
 | mk:∀ p xs i v,(x=.ref p)->(y=.int i)->(SqL K H p xs)->(atI xs i=some v)->(Q v H)->kSI K x y H Q
inductive kAW(K:az)(x:V)(y:V)(H:Hp)(Q:VK):Prop
 | mk:∀ p xs i v,(x=.ref p)->(y=.int i)->(SqT K H p xs)->(atI xs i=some v)->(Q v H)->kAW K x y H Q
def kY:IxR X (kSI X.K):=by
 intro value l a s o H x y v u Q I B G h n;obtain⟨p,T,i,z,rfl,rfl,J,A,q⟩:=h;cases B
 obtain⟨t,rfl⟩:=G;obtain⟨g,r,d,O⟩:=I.list J;obtain⟨j,h1,D,U,M,N⟩:=kHP A;obtain⟨w,m,c⟩:=r.get D;have C:=r.length;have S:=dG;have b:EP X a o Q w s:=⟨z,H,I,c,q⟩;by_cases h0:0<=i
 ·have f:i.toNat=j:=by
   rw[EK h0 N]at h1;exact bq h1
  exact item_listR d.isList h0 (by omega) (by rw[f];simpa using m) b n
 ·have f:(i+(g.toArray.size:Int)).toNat=j:=by
   rw[Dh (by omega) M]at h1;rw[fe,<-C];exact bq h1
  exact CN (x:=w) d.isList.typeIs Di.lookup
   (wpAny_getItem_list_neg (Q:=λ r L=>r=w/\EP X a o Q r L) d.isList (by omega) (by rw[fe]<;>omega) (by omega) (by rw[f];simpa using m) ⟨rfl,b⟩) n
def qC:IxR X (kAW X.K):=by
 intro value d a s g H x y v u Q I n C h B;obtain⟨p,N,i,z,rfl,rfl,G,m,q⟩:=h;cases n
 obtain⟨t,rfl⟩:=C;obtain⟨D,r,f,L⟩:=I.tuple G;obtain⟨j,h1,A,O,S,T⟩:=kHP m;obtain⟨w,l,b⟩:=r.get A;have o:=r.length;have M:=dG;have c:EP X a g Q w s:=⟨z,H,I,b,q⟩
 exact CN (x:=w) f.typeIs slot_tuple_getitem.lookup
  (getItem_tuple (j:=j) (Q:=λ r J=>r=w/\EP X a g Q r J) f (by omega) (by omega) (by rw[fe,<-o];exact h1) (by simpa using l) ⟨rfl,c⟩) B
def kEC(a:List ar)(n j:Nat)(u:ar):ud (·.setIfInBounds j u) {cls:=.type "list",data:=.seq a.toArray n}={cls:=.type "list",data:=.seq (a.set j u).toArray n}:=by
 simp[ud]
theorem Inv.lst{b:List (av×Obj)}{c:St}{H:Hp}{s:ay}{p:av}{xs:List V}(I:Inv X b c H s)(h:H p=some (.lst xs)) :
  ∃(a:List ar)(n:Nat),Vals xs a/\s.heap.get? p=some {cls:=.type "list",data:=.seq a.toArray n}/\xs.length<=sizeLine:=by
 obtain⟨z,a,n,r,e⟩:=I.hok p _ h;exact⟨a,n,r,e,z⟩
def Inv.lstUpd{a:List (av×Obj)}{g:St}{H:Hp}{s:ay}{p:av}{xs ys:List V}{c its':List ar}{n d:Nat}{f:Obj->Obj}(I:Inv X a g H s)(h:H p=some (.lst xs))
  (l:s.heap.get? p=some {cls:=.type "list",data:=.seq c.toArray n}) (i:f {cls:=.type "list",data:=.seq c.toArray n}={cls:=.type "list",data:=.seq its'.toArray d}) (r:Vals ys its') (hz:ys.length<=sizeLine) (t:Nat) :
  Inv X a g (upd H p (.lst ys)) {s with heap:=s.heap.update p f,toks:=t}:=by
 have e:(s.heap.update p f).get? p=some {cls:=.type "list",data:=.seq its'.toArray d}:=by
  rw[qz f l (by rw[i]<;>rfl),i]
 refine I.write (x:=p) (e:=p) (by rw[h];trivial) (.inl rfl) (λ b u j q=>(CO _ _ (sj j)).trans q) ⟨_,e⟩ ?_;exact⟨hz,its',d,r,e⟩
inductive kRF(o:V)(i:V)(v:V)(H:Hp)(Q:Hp->Prop):Prop
 | mk:∀ p xs k j,(o=.ref p)->(i=.int k)->(H p=some (.lst xs))->(ixN xs.length k=some j)->(Q (upd H p (.lst (xs.set j v))))->kRF o i v H Q
def gY:kVR X kRF:=by
 intro a s G H o i v N J u Q I A C x h;obtain⟨p,D,k,j,rfl,rfl,hp,y,q⟩:=h;cases A
 obtain⟨t,rfl⟩:=C;obtain⟨b,n,r,f,B⟩:=I.lst hp;obtain⟨h1,M,l,m⟩:=kGO y;have c:=r.length;have L:=dG
 have g:Inv X a G (upd H p (.lst (D.set j v))) {s with heap:=s.heap.update p (ud (·.setIfInBounds j u))} :=
  I.lstUpd hp f (kEC b n j u) (r.set x j) (by rw[As];exact B) s.toks
 by_cases h0:0<=k
 ·have d:k.toNat=j:=by
   rw[EK h0 m]at h1;exact bq h1
  exact PySem.W.ki_setAt f h0 (by omega) (by rw[fe,<-c];exact m) (by rw[d];exact⟨_,g,q⟩)
 ·have d:(k+(b.toArray.size:Int)).toNat=j:=by
   rw[Dh (by omega) l]at h1;rw[fe,<-c];exact bq h1
  exact PySem.W.ki_setBack f (by omega) (by rw[fe,<-c];exact l) (by omega) (by rw[d];exact⟨_,g,q⟩)
def rN(lo hi:Option Int)(n:Nat):(sliceBounds lo hi none n).1=((HT.sIx n 0 lo:Nat):Int)/\(sliceBounds lo hi none n).2.1=((HT.sIx n n hi:Nat):Int)/\(sliceBounds lo hi none n).2.2=1:=by
 refine⟨?_,?_,rfl⟩
 ·cases lo with
  | none=>simp[sliceBounds,HT.sIx]
  | some i =>
   simp only[sliceBounds,HT.sIx,EE,show(1:Int)>0 by decide,if_true];by_cases h:i<0
   ·simp only[h,if_true]<;>omega
   ·simp only[h,if_false]<;>omega
 ·cases hi with
  | none=>simp[sliceBounds,HT.sIx]
  | some i =>
   simp only[sliceBounds,HT.sIx,EE,show(1:Int)>0 by decide,if_true];by_cases h:i<0
   ·simp only[h,if_true]<;>omega
   ·simp only[h,if_false]<;>omega
def nR(a:List ar)(lo hi:Option Int):slicePick a.toArray lo hi none=((a.drop (HT.sIx a.length 0 lo)).take (HT.sIx a.length a.length hi-HT.sIx a.length 0 lo)).toArray:=by
 obtain⟨h1,c,b⟩:=rN lo hi a.toArray.size;unfold slicePick;rw[h1,c,b];simp only[sliceRange_one,pick_run,fe]<;>rfl
inductive kUP(K:az)(x:V)(lo:Option Int)(hi:Option Int)(H:Hp)(Q:VK):Prop
 | mk:∀ a xs,(x=.ref a)->(SqL K H a xs)->(∀ p,H p=none->Q (.ref p) (upd H p (.lst (xS xs lo hi))))->kUP K x lo hi H Q
def yO:SlR X (kUP X.K):=by
 intro i s D H x v G C lo f A Q I m n j y h;obtain⟨a,c,rfl,u,q⟩:=h;cases m
 obtain⟨p,r,g,l⟩:=I.list u;have d:=r.length;refine⟨"list",_,Di.lookup,g.isList.typeIs,?_⟩;refine wpAny_getItem_list_slice g.isList n j y .none (by simp) ?_ (by rw[fe]<;>omega);rw[nR,<-d];refine⟨.ref s.heap.objs.size,_,I.laid (t':=s.toks) (o:=.lst (xS c lo f)) (λ b B q=>au _ q) (be _) ?_,rfl,q _ (I.hok.fresh (be _))⟩;exact⟨ju (fK c lo f) l,_,0,(r.drop (HT.sIx c.length 0 lo)).take (HT.sIx c.length c.length f-HT.sIx c.length 0 lo),cj _ rfl⟩
def aR:V->Bool
 | .non=>true
 | .bl _=>true
 | .int _=>true
 | .str _=>true
 | _=>false
def eqV:V->V->Bool
 | .non,.non=>true
 | .bl a,.bl b=>a == b
 | .bl a,.int b=>(if a then 1 else 0) == b
 | .int a,.bl b=>a == (if b then 1 else 0)
 | .int a,.int b=>a == b
 | .str a,.str b=>a == b
 | _,_=>false
def kTR{A:fq}{s:ay}{y x:V}{u v:ar}(g:RelV y u)(c:RelV x v)(h:aR y=true)(f:aR x=true):Ej A s u v (eqV y x):=by
 cases y with
 | non =>
  cases g
  cases x with
  | non=>cases c;exact SeqAt.EqAt.same _
  | bl b=>cases c;exact SeqAt.EqAt.none_bool b
  | int b=>obtain⟨t,rfl⟩:=c;exact SeqAt.EqAt.none_int b t
  | str b=>obtain⟨t,rfl⟩:=c;exact SeqAt.EqAt.none_str b t
  | _=>exact absurd (show false=true from f) dw
 | bl a =>
  cases g
  cases x with
  | non=>cases c;exact SeqAt.EqAt.bool_none a
  | bl b=>cases c;exact SeqAt.EqAt.bool_bool a b
  | int b=>obtain⟨t,rfl⟩:=c;exact SeqAt.EqAt.bool_int a b t
  | str b=>obtain⟨t,rfl⟩:=c;exact SeqAt.EqAt.bool_str a b t
  | _=>exact absurd (show false=true from f) dw
 | int a =>
  obtain⟨d,rfl⟩:=g
  cases x with
  | non=>cases c;exact SeqAt.EqAt.int_none a d
  | bl b=>cases c;exact SeqAt.EqAt.int_bool a d b
  | int b=>obtain⟨t,rfl⟩:=c;exact SeqAt.EqAt.int_int a d b t
  | str b=>obtain⟨t,rfl⟩:=c;exact DO a d b t
  | _=>exact absurd (show false=true from f) dw
 | str a =>
  obtain⟨d,rfl⟩:=g
  cases x with
  | non=>cases c;exact SeqAt.EqAt.str_none a d
  | bl b=>cases c;exact SeqAt.EqAt.str_bool a d b
  | int b=>obtain⟨t,rfl⟩:=c;exact DP a d b t
  | str b=>obtain⟨t,rfl⟩:=c;exact SeqAt.EqAt.str_str a d b t
  | _=>exact absurd (show false=true from f) dw
 | _=>exact absurd (show false=true from h) dw
def eqU(x:V)(u:ar):Bool:=match u with
 | .none=>eqV .non x
 | .bool b=>eqV (.bl b) x
 | .int i _=>eqV (.int i) x
 | .str z _=>eqV (.str z) x
 | _=>false
def kNZ{x y:V}{u:ar}(r:RelV y u)(f:aR y=true):eqU x u=eqV y x:=by
 cases y with
 | non=>cases r;rfl
 | bl b=>cases r;rfl
 | int i=>obtain⟨t,rfl⟩:=r;rfl
 | str z=>obtain⟨t,rfl⟩:=r;rfl
 | _=>exact absurd (show false=true from f) dw
theorem cO{x:V}:∀{xs:List V}{a:List ar},Vals xs a->xs.all aR=true->a.any (eqU x)=xs.any λ y=>eqV y x
 | _,_,.nil,_=>rfl
 | y::xs,u::a,.cons r t,f=>by
  rw[Fb,iK]at f;rw[Ag,Ag,kNZ r f.1,cO t f.2]
theorem uV{A:fq}{s:ay}{x:V}{v:ar}(d:RelV x v)(c:aR x=true):∀{xs:List V}{b:List ar},Vals xs b->xs.all aR=true->∀ u∈b,Ej A s u v (eqU x u)
 | _,_,.nil,_=>λ u a=>by cases a
 | y::xs,u::b,.cons r t,f=>λ g a=>by
  rw[Fb,iK]at f;rcases eK.mp a with rfl | a
  ·rw[kNZ r f.1];exact kTR r d f.1 c
  ·exact uV d c t f.2 g a
def inV(x:V)(xs:List V):Bool:=xs.any λ y=>eqV y x
inductive rIn(K:az)(neg:Bool)(x:V)(y:V)(H:Hp)(Q:VK):Prop
 | mk:∀ p xs,(y=.ref p)->((SqL K H p xs\/SqT K H p xs))->(aR x=true)->(xs.all aR=true)->(Q (.bl (if neg then !inV x xs else inV x xs)) H)->rIn K neg x y H Q
def zG:OpR X (compareOp .In) (rIn X.K false):=by
 intro f s n H x y v u Q I g l h;obtain⟨p,m,rfl,b,i,fs,q⟩:=h;cases l
 rcases b with b | b
 ·obtain⟨a,r,d,j⟩:=I.list b
  refine SeqAt.in_listAt (eqU x) d.isList (λ w c=>uV g i r fs w (by simpa using c)) ⟨.bl _,H,I,rfl,?_⟩;rw[show a.toArray.any (eqU x)=a.any (eqU x) by simp,cO r fs];exact q
 ·obtain⟨a,r,d,j⟩:=I.tuple b
  refine SeqAt.in_tupleAt (eqU x) d (λ w c=>uV g i r fs w (by simpa using c)) ⟨.bl _,H,I,rfl,?_⟩;rw[show a.toArray.any (eqU x)=a.any (eqU x) by simp,cO r fs];exact q
def zC:OpR X (compareOp .NotIn) (rIn X.K true):=by
 intro f s n H x y v u Q I g l h;obtain⟨p,m,rfl,b,i,fs,q⟩:=h;cases l
 rcases b with b | b
 ·obtain⟨a,r,d,j⟩:=I.list b
  refine SeqAt.notIn_listAt (eqU x) d.isList (λ w c=>uV g i r fs w (by simpa using c)) ⟨.bl _,H,I,rfl,?_⟩;rw[show a.toArray.any (eqU x)=a.any (eqU x) by simp,cO r fs];exact q
 ·obtain⟨a,r,d,j⟩:=I.tuple b
  refine SeqAt.notIn_tupleAt (eqU x) d (λ w c=>uV g i r fs w (by simpa using c)) ⟨.bl _,H,I,rfl,?_⟩;rw[show a.toArray.any (eqU x)=a.any (eqU x) by simp,cO r fs];exact q
inductive yQ(K:az)(xs:List V)(H:Hp)(Q:VK):Prop
 | mk:∀ p ys,(xs=[.ref p])->((SqL K H p ys\/SqT K H p ys))->(Q (.int ys.length) H)->yQ K xs H Q
def kP:yY X (.builtin "len") (yQ X.K):=by
 intro g s v H o n Q I r h;obtain⟨p,i,rfl,b,q⟩:=h;obtain⟨u,rfl,l⟩:=vS r;cases l
 have m:=dG;rcases b with b | b
 ·obtain⟨f,d,c,j⟩:=I.list b
  have a:=d.length;exact Calls.call_len_list c.isList (by simp only[fe]<;>omega) ⟨.int i.length,H,I.tok _,⟨s.toks+1,by rw[fe,a]⟩,q⟩
 ·obtain⟨f,d,c,j⟩:=I.tuple b
  have a:=d.length;exact len_tuple c (by simp only[fe]<;>omega) ⟨.int i.length,H,I.tok _,⟨s.toks+1,by rw[fe,a]⟩,q⟩
inductive aS(K:az)(xs:List V)(H:Hp)(Q:VK):Prop
 | mk:∀ p ys,(xs=[.ref p])->((SqL K H p ys\/SqT K H p ys))->(∀ l,H l=none->Q (.ref l) (upd H l (.lst ys)))->aS K xs H Q
def cM:yY X (.type "list") (aS X.K):=by
 intro i s J H M L Q I r h;obtain⟨p,y,rfl,v,q⟩:=h;obtain⟨u,rfl,G⟩:=vS r;cases G
 have m:∀(a:List ar),Vals y a->y.length<=sizeLine->∀(c:iO)(d:Nat),(∀ b D,s.heap.get? b=some D->c.get? b=some D) ->
   c.get? s.heap.objs.size=some {cls:=.type "list",dict:=none,data:=.seq a.toArray d,slots:=#[]}->EP X i J Q (.ref s.heap.objs.size) {s with heap:=c}:=λ a f j c d g e =>
  ⟨.ref s.heap.objs.size,_,I.laid (t':=s.toks) g (be _) (show ObjOk X.prog X.w _ c _ (.lst y) from⟨j,a,d,f,e⟩),rfl,q _ (I.hok.fresh (be _))⟩
 rcases v with v | v
 ·obtain⟨a,f,A,j⟩:=I.list v
  have l:=f.length;obtain⟨o,C,x,n,B⟩:=A.isList;exact call_list_seq p (.inl rfl) C x B (λ c d g e=>m a f j c d g e) (by simp only[fe]<;>omega)
 ·obtain⟨a,f,A,j⟩:=I.tuple v
  have l:=f.length;obtain⟨o,C,x,n,B⟩:=A;exact call_list_seq p (.inr rfl) C x B (λ c d g e=>m a f j c d g e) (by simp only[fe]<;>omega)
inductive zR(K:az)(xs:List V)(H:Hp)(Q:VK):Prop
 | mk:∀ p ys,(xs=[.ref p])->(((SqL K H p ys/\∀ l,H l=none->Q (.ref l) (upd H l (.tup ys)))\/(SqT K H p ys/\Q (.ref p) H)))->zR K xs H Q
def qY:yY X (.type "tuple") (zR X.K):=by
 intro a s v H C B Q I r h;obtain⟨p,j,rfl,h⟩:=h;obtain⟨u,rfl,y⟩:=vS r;cases y
 rcases h with⟨i,q⟩ | ⟨i,q⟩
 ·obtain⟨c,g,f,l⟩:=I.list i
  have m:=g.length;refine call_tuple_list f.isList (λ d x=>?_) (by simp only[fe]<;>omega);have n:Inv X a v H {s with heap:=d}:=I.kept (t':=s.toks) x
  have A:Inv X a v (upd H d.objs.size (.tup j)) {s with heap:=d.push {cls:=.type "tuple",data:=.seq c.toArray}} :=
   n.laid (t':=s.toks) (λ b o e=>au _ e) (be _) (show ObjOk X.prog X.w _ _ _ (.tup j) from⟨l,c,g,IsTupN.new _ _⟩)
  exact⟨.ref d.objs.size,_,A,rfl,q _ (n.hok.fresh (be _))⟩
 ·obtain⟨c,g,f,l⟩:=I.tuple i
  exact call_tuple_same f ⟨.ref p,H,I,rfl,q⟩
def tyV(K:az)(T:String)(x:V)(H:Hp):Prop:=match x with
 | .str _=>T = "str"
 | .int _=>T = "int"
 | .ref p=>(T = "list"/\∃ b,SqL K H p b)\/(T = "tuple"/\((∃ o,K.lookup p=some o/\o.cls=.type "tuple"/\o.dict=none)\/∃ b,H p=some (.tup b))) \/
   (T = "dict"/\((∃ a,H p=some (.dK a))\/∃ a,H p=some (.dT a)))\/(T = "set"/\∃ S n,H p=some (.set S n))
 | _=>False
def kRV{g:List (av×Obj)}{B:St}{H:Hp}{s:ay}{T:String}{x:V}{v:ar}(I:Inv X g B H s)(r:RelV x v)(j:tyV X.K T x H) :
  s.TypeIs v T/\∀ a,v=.ref a->∃ ob,s.heap.get? a=some ob/\ob.dict=none:=by
 cases x with
 | str z =>
  obtain⟨t,rfl⟩:=r
  cases(show T = "str" from j)
  exact⟨typeIs_str s z t,λ _ e=>nomatch e⟩
 | int i =>
  obtain⟨t,rfl⟩:=r
  cases(show T = "int" from j)
  exact⟨Ek s i t,λ _ e=>nomatch e⟩
 | ref p =>
  cases r
  rcases j with⟨rfl,u,m⟩ | ⟨rfl,⟨o,b,A,f⟩ | ⟨u,m⟩⟩ | ⟨rfl,b⟩ | ⟨rfl,S,n,b⟩
  ·obtain⟨l,_,y,_⟩:=I.list m
   refine⟨y.isList.typeIs,λ a e=>?_⟩;cases e
   obtain⟨o,n,e,c,f,_⟩:=y;exact⟨o,e,f⟩
  ·refine⟨⟨o,I.kIn p o b,A⟩,λ a e=>?_⟩
   cases e
   exact⟨o,I.kIn _ o b,f⟩
  ·obtain⟨_,l,_,o,e,c,n,_,f⟩:=(show ObjOk X.prog X.w H s.heap p (.tup u) from I.hok p _ m)
   refine⟨⟨o,e,c⟩,λ a h=>?_⟩;cases h
   exact⟨o,e,f⟩
  ·have z:∃ o,s.heap.get? p=some o/\o.ExactDict:=by
    rcases b with⟨q,b⟩ | ⟨q,b⟩
    ·obtain⟨_,_,_,_,o,_,_,e,d,_⟩:=I.hok p _ b
     exact⟨o,e,d⟩
    ·obtain⟨_,_,_,_,o,_,_,e,d,_⟩:=I.hok p _ b
     exact⟨o,e,d⟩
   obtain⟨o,e,d⟩:=z;refine⟨⟨o,e,d.1⟩,λ a h=>?_⟩;cases h
   exact⟨o,e,d.2.1⟩
  ·obtain⟨o,_,_,_,e,d,_⟩:=I.hok p _ b
   refine⟨⟨o,e,d.1⟩,λ a h=>?_⟩;cases h
   exact⟨o,e,d.2.1⟩
 | _=>exact wx j
inductive kUH(K:az)(T:String)(r:V->List V->Hp->VK->Prop)(t:TA)(σ:St)(Q:VK)(x:V)(H1:Hp):Prop
 | mk:(tyV K T x H1)->(t σ H1 λ xs H2=>r x xs H2 Q)->kUH K T r t σ Q x H1
def tBM(K:az)(T:String)(r:V->List V->Hp->VK->Prop)(to:TE)(t:TA):TE:=λ a H Q=>to a H λ x b=>kUH K T r t a Q x b
variable {o e:iS} {es:List iS} {to:TE} {t:TA} {name:Str} {apos cpos:Pos} {T id:String} {r:V->List V->Hp->VK->Prop}
def kBA(M:PlainAttrs T)(f:Slot T name id)(i:typeOf (.builtin id)=pure (.type "method_descriptor"))(u:MtR X id r)(U:PE X o to)(C:PA X (e::es) t)
  (c:attributeBase o name X.env (eval o X.env)=eval o X.env:=by rfl)
  (g:((backTo cpos (starEach (e::es) X.env)).all (λ x=>!x.1) && (backToKw cpos (keywordEach [] X.env)).all (λ x=>x.1.isSome)
   && decide ((e::es).length+([]:List EY).length+(if([]:List EY).isEmpty then 0 else 1)<30))=true:=by rfl)
  (d:(apos.endLine == cpos.line)=true:=by rfl) (L:starEach (e::es) X.env=(false,eval e X.env)::starEach es X.env:=by rfl) (b:(backTo cpos (starEach es X.env)).any (·.1)=false:=by rfl) :
  PE X (.Call (.Attribute o name apos) (e::es) [] cpos) (tBM X.K T r to t):=by
 intro a s j H Q I h;refine wpAny_Call_method_late c g d rfl (thn (U a s j H _ I h) λ v y ⟨x,p,m,l,A,n⟩=>?_);obtain⟨h1,J⟩:=kRV m l A;refine⟨T,id,M,f,i,h1,J,?_⟩;have hA:=C cpos a y j p _ m n;rw[L]at hA ⊢;refine CP (by show(false || (backTo cpos (starEach es X.env)).any (·.1))=false;rw[b]<;>rfl) (Calls.evalArgs_plain ?_);exact thn hA λ G N ⟨B,O,S,D,q⟩=>u a N j O x B v G Q S l D q
end
def MtM(X:Cx)(id:String)(r:V->List V->Hp->VK->Prop):Prop :=
 ∀(pins:List (av×Obj))(s:ay)(σ:St)(H:Hp)(x:V)(xs:List V)(v:ar)(us:List ar)(Q:VK),Inv X pins σ H s->RelV x v->Vals xs us->r x xs H Q ->
  dr (model X.prog X.w) X.A (call (.builtin id) (v::us)) (EP X pins σ Q) X.xe s
def Vals.one:∀{x:V}{a:List ar},Vals [x] a->∃ u,a=[u]/\RelV x u
 | _,_,.cons r .nil=>⟨_,rfl,r⟩
def Vals.two:∀{x y:V}{a:List ar},Vals [x,y] a->∃ u v,a=[u,v]/\RelV x u/\RelV y v
 | _,_,_,.cons r (.cons q .nil)=>⟨_,_,rfl,r,q⟩
theorem Vals.eraseIdx:∀{xs:List V}{a:List ar}(i:Nat),Vals xs a->Vals (xs.eraseIdx i) (a.eraseIdx i)
 | _,_,_,.nil=>.nil
 | _,_,0,.cons _ t=>t
 | _,_,i+1,.cons r t=>.cons r (Vals.eraseIdx i t)
theorem Vals.rep{xs:List V}{a:List ar}(h:Vals xs a):∀ k:Nat,Vals (gy k xs).flatten (gy k a).flatten
 | 0=>.nil
 | k+1=>by
  rw[wd,wd,xx,xx];exact Vals.append h (Vals.rep h k)
theorem pL{α:Type}:∀(l:List α)(i:Nat),(l.eraseIdx i).length<=l.length
 | [],_=>be _
 | _::_,0=>Ai _
 | _::r,i+1=>Nat.succ_le_succ (pL r i)
theorem pS(a:List ar):∀(k:Nat)(b:List ar),
  El (λ x1 x2=>x1++x2) b.toArray (gy k a.toArray)=(b++(gy k a).flatten).toArray
 | 0,b=>by simp
 | k+1,b=>by
  have e:b.toArray++a.toArray=(b++a).toArray:=by simp
  have c:(b++a)++(gy k a).flatten=b++(gy (k+1) a).flatten:=by
   rw[wd,xx,bp]
  rw[<-c,<-pS a k (b++a),<-e,wd,vk]
section
variable {X:Cx} {pins:List (av×Obj)} {σ:St} {H:Hp} {s:ay} {l b:av} {xs ys zs:List V}
def Inv.lset{a its':List ar}{n:Nat}{f:Array ar->Array ar}{t':Nat}(I:Inv X pins σ H s)(b:H l=some (.lst xs))
  (e:s.heap.get? l=some {cls:=.type "list",data:=.seq a.toArray n}) (d:f a.toArray=its'.toArray) (g:Vals ys its') (hz:ys.length<=sizeLine) :
  Inv X pins σ (upd H l (.lst ys)) {s with heap:=s.heap.update l (ud f),toks:=t'}:=by
 have q:=PySem.IsL.update e f;rw[d]at q;refine I.write (x:=l) (e:=l) (by rw[b];exact trivial) (.inl rfl) (λ i u h c=>(CO s.heap (ud f) (sj h)).trans c) ⟨_,q⟩ ?_;exact⟨hz,its',_,g,q⟩
def Inv.lnew{a:List ar}{t':Nat}(I:Inv X pins σ H s)(b:Vals ys a)(hz:ys.length<=sizeLine) :
  Inv X pins σ (upd H s.heap.objs.size (.lst ys)) {s with heap:=s.heap.push {cls:=.type "list",data:=.seq a.toArray},toks:=t'} :=
 I.laid (λ _ _ q=>au _ q) (be _) ⟨hz,a,0,b,cj _ rfl⟩
theorem Inv.fresh(I:Inv X pins σ H s):H s.heap.objs.size=none:=I.hok.fresh (be _)
def Inv.lstM(I:Inv X pins σ H s)(b:H l=some (.lst xs)):xs.length<=sizeLine/\∃(a:List ar)(n:Nat),Vals xs a/\xs.length=a.length/\s.heap.get? l=some {cls:=.type "list",data:=.seq a.toArray n}:=by
 obtain⟨z,a,n,r,e⟩:=I.hok l _ b;exact⟨z,a,n,r,r.length,e⟩
def kMW{n:Nat}(h:n<=sizeLine):zd n=false:=by
 unfold zd;exact decide_eq_false (by omega)
end
section
variable {X:Cx}
inductive kFY(x:V)(vs:List V)(H:Hp)(Q:VK):Prop
 | mk:∀ l xs y,(x=.ref l)->(vs=[y])->(H l=some (.lst xs))->(xs.length<sizeLine)->(Q .non (upd H l (.lst (xs++[y]))))->kFY x vs H Q
def xE:MtM X "list.append" kFY:=by
 intro b s A H x j v m Q I f d h;obtain⟨l,p,y,rfl,rfl,c,i,q⟩:=h;cases f
 obtain⟨u,rfl,g⟩:=d.one;obtain⟨z,a,n,r,o,e⟩:=I.lstM c;refine AX F.slot_list_append ⟨_,e,rfl⟩ F.entry_list_append (F.args_list_append_2 _ _) (PySem.list_append l a.toArray n u (by rw[fe];omega)) ⟨e,?_⟩;refine⟨.non,_,I.lset (its':=a++[u]) c e (by simp) (r.append (.cons g .nil)) ?_,rfl,q⟩;rw[bu,fk];omega
inductive kUR(x:V)(y:V)(H:Hp)(Q:VK):Prop
 | mk:∀ l b xs zs,(x=.ref l)->(y=.ref b)->(H l=some (.lst xs))->(H b=some (.lst zs))->(xs.length+zs.length<=sizeLine)->(∀ p,H p=none->Q (.ref p) (upd H p (.lst (xs++zs))))->kUR x y H Q
def dA:OpR X (binaryOp .Add) kUR:=by
 intro d s J H x y v u Q I g m h;obtain⟨l,b,G,D,rfl,rfl,o,hB,B,q⟩:=h;cases g
 cases m
 obtain⟨z,c,n,r,C,e⟩:=I.lstM o;obtain⟨A,a,L,i,j,f⟩:=I.lstM hB;refine PySem.P.add_list e f ?_ (by rw[fe,fe];omega);have p:c.toArray++a.toArray=(c++a).toArray:=by simp
 rw[p];exact⟨.ref _,_,I.lnew (t':=s.toks) (r.append i) (by rw[bu];omega),rfl,q _ I.fresh⟩
inductive kUQ(x:V)(y:V)(H:Hp)(Q:VK):Prop
 | mk:∀ l k xs,(x=.ref l)->(y=.int k)->(H l=some (.lst xs))->(-(2 ^ 63)<=k)->(k<2 ^ 63)->(xs.length*k.toNat<=sizeLine)->(∀ p,H p=none->Q (.ref p) (upd H p (.lst (gy k.toNat xs).flatten)))->kUQ x y H Q
def kPX{α:Type}(xs:List α)(k:Nat):(gy k xs).flatten.length=k*xs.length:=by
 induction k with
 | zero=>simp
 | succ k ih=>rw[wd,xx,bu,ih,Nat.succ_mul,AI]
def kSR:OpR X (binaryOp .Mult) kUQ:=by
 intro p s O H x y v u Q I C J h;obtain⟨l,k,N,rfl,rfl,L,h1,G,A,q⟩:=h;cases C
 obtain⟨t,rfl⟩:=J;obtain⟨z,b,n,r,D,e⟩:=I.lstM L;have g:b.toArray.size*k.toNat<=sizeLine:=by rw[fe,<-D];exact A
 have d:¬ b.toArray.size*k.toNat>(2 ^ 63-1) / 8:=by
  have:(sizeLine:Nat)<=(2 ^ 63-1) / 8:=by decide
  omega
 have i:¬ (!Builtin.List.listFitsIndex k)=true:=by
  rw[Em h1 G];exact dw
 have c:¬ zd (b.toArray.size*k.toNat)=true:=by
  rw[kMW g];exact dw
 have f:El (λ j o=>j++o) #[] (gy (if b.toArray.isEmpty=true then 0 else k.toNat) b.toArray)=(gy k.toNat b).flatten.toArray:=by
  have B:∀ m:Nat,El (λ j o=>j++o) #[] (gy m b.toArray)=(gy m b).flatten.toArray:=λ m=>by
   have:=pS b m [];rw[kb]at this;exact this
  rw[B]
  cases b with
  | nil=>simp
  | cons a r'=>rw[if_neg (by simp)]
 refine wpAny_binaryOp_repeat_ref (T:="list") (U:="int") (by decide) ⟨_,e,rfl⟩ (λ M=>Ek M k t) noFill_list_mul F.fills_int_mul EO repeat_list F.slot_int_index.lookup
  (AX EO (Ek s k t) F.entry_int_rmul (F.args_int_rmul_2 _ _) (int___rmul___int_list k t l b.toArray n)
   ⟨e,rfl,⟨_,e,rfl⟩,AX F.slot_list_mul ⟨_,e,rfl⟩ F.entry_list_mul (F.args_list_mul_2 _ _) (AutoListH.list___mul___list_int_3 l b.toArray n k t i d c) ⟨e,?_⟩⟩)
 rw[f];exact⟨.ref _,_,I.lnew (t':=s.toks) (r.rep k.toNat) (by rw[kPX,Nat.mul_comm];exact A),rfl,q _ I.fresh⟩
end
section
variable {prog:fb} {w:iI} {A:fq} {E:ar->ay->Prop} {s:ay}
end
section
variable {X:Cx}
end
end L2
namespace Att
open PySem PySem.W PySem.Calls PyProof.Rows
def fX{P:GY}{h:iO}:∀(c:List Int)(d:List ar),WellAll P h d (c.map Gh)->Dj d c:=by
 intro c
 induction c with
 | nil =>
  intro d w;rw[CQ]at w;cases w
  exact .nil
 | cons n c ih =>
  intro d w;rw[gh]at w
  cases w with
  | cons a b =>
   cases a
   exact .cons _ _ (ih _ b)
def kIP{l:OpenLaw}{n:Nat}(p:l.most=some n){P:GY}{h:iO}{args:List WData}{c:List ar}
  (b:l.row.toRowW.claim.pre args=true) (m:WellAll P h c args) :
  ∃ a vs ns,c=[jz a]/\args=[WData.list (ns.map Gh)]/\h.get? a=some {cls:=.type "list",data:=.seq vs.toArray}/\Dj vs ns/\ns.length<=n:=by
 have j:WShape.hasAll [] args [.list .int]=true:=(pre_splitW b).1;have o:l.pre.holds [] {args:=args}=true:=(pre_splitW b).2;obtain⟨d,r,rfl,h1,u⟩:=hasAllW_cons j;obtain rfl:=hasAllW_nil u;obtain⟨x,rfl,v⟩:=hasW_list h1;obtain⟨ns,rfl⟩:=items_int v
 have f:ns.length<=n:=by
  unfold OpenLaw.pre at o
  have g:(WTm.not (.lt (.lit (.int (n:Int))) (.len (.arg 0)))).holds [] {args:=[.list (ns.map .int)]}=true:=by
   have g:=(holds_andW o).1;rw[p]at g;exact g
  have i:=condW_of g (w_not (w_lt w_lit (w_len_list (w_arg rfl))));rw[ak]at i;refine Nat.le_of_not_lt λ q=>?_;have s:(n:Int)<((ns.length:Nat):Int):=by omega
  first
   | (rw[decide_eq_true s]at i;exact absurd i (by decide))
   | (simp at i;omega)
 cases m with
 | cons w1 w2 =>
  cases w2
  cases w1 with
  | list ho hall=>exact⟨_,_,ns,rfl,rfl,ho,fX ns _ hall,f⟩
def kIV(l:OpenLaw)(args:List WData):l.row.toRowW.claim.post args (.bool true) args=true :=
 postW_of (r:=l.row.toRowW) (X:=(true == true))
  (show GZ [] (.bool true) .bool=true by first | rfl | decide | simp[GZ,WShape.arms,WShape.armsAll])
  (show(WTm.eq .res (.lit (.bool true))).value [] {args:=args,res:=some (.bool true),after:=args}=some (.bool (true == true)) from w_eq_bool (w_res rfl) w_lit) rfl
def attach_call{l:OpenLaw}{n:Nat}{q:fb}{c:List Str}{H:(Str->Option ar)->iO->Prop}{M:iI->iO->Prop}{d:DefRec}
  (T:l.most=some n) (D:d.params.defaults=[])
  (call:∀(w:iI)(s₀ b:ay)(mg A:Str->Option ar)(s:av)(o:Obj)(B u h:ar)(a:av)(i:List ar)(v:List Int),
   Ground q c [] H w s₀ mg A b.heap->M w b.heap ->
   b.heap.get? s=some o->o.data=.func (docDef d.name d.params d.body d.scope B u h)->b.heap.CodeRec u d.name->mg d.name=some (.ref s) ->
   b.heap.get? a=some {cls:=.type "list",data:=.seq i.toArray}->Dj i v->v.length<=n->b.gens = #[] ->
   codeAny (model l.prog w) callerA (.call (.ref s) ⟨[.ref a],[]⟩) (λ r s'=>r=.ok (.ret (.bool true))/\OldK b.heap s'.heap/\s'.os=b.os/\Bh s'.gens) b) :
  WalkO q c H M l.row.toRowW d [] (λ f i=>Eo f i):=by
 intro w s₀ b mg A G Y s o B u h U kV ho Z x J C hg N I as p L O y S;obtain rfl:U=.none:=Dflts.none J D;obtain rfl:kV=.none:=Dflts.noKw J;obtain⟨a,i,v,rfl,rfl,j,g,m⟩:=kIP T p y;refine enter_call (De (call w s₀ b mg A s o B u h a i v G Y ho (fd_plain Z) x C j g m hg) λ r s' hq=>?_);obtain⟨rfl,X,h3,h4⟩:=hq;exact⟨.inl ⟨.bool true,.bool true,[],rfl,λ _=>rfl,.bool true,kIV l _,λ _=>⟨Bl,λ _ Q=>(nomatch Q)⟩⟩,X,h3,h4⟩
section
variable {prog:fb} {w:iI} {A:fq} {E:ar->ay->Prop} {s:ay} {K:Frag}
end
end Att
namespace L2
open PySem PySem.Spec PyProof.Rows
theorem oE:∀{a:List ar}{b:List Int},Dj a b->Vals (b.map V.int) a
 | _,_,.nil=>.nil
 | _,_,.cons n t h=>.cons ⟨t,rfl⟩ (oE h)
def kTX(H:Hp):Prop:=∀ b,H b=none\/∃ o a,H b=some (.frz o (.lst a))
def kNB{P:fb}{w:iI}{K:az}{mg U:Str->Option ar}{CX:CXT}{k:Nat}{Z a:av}{fd:ua}{x:Str}{sp:Sp}{c:ay}{l:List ar}{J:List Int}
  (KX:K.In c.heap) (M:c.heap.Ns gn mg) (g:c.heap.Ns builtinsNs U) (Y:∀ x:Str,x≠"__name__"->U x=bootBuiltins x) (A:c.heap.NoLimit) (hg:c.gens = #[])
  (O:c.heap.get? a=some {cls:=.type "list",data:=.seq l.toArray}) (hi:Dj l J) (hl:J.length<=sizeLine) (hr:Room k callerA)
  (F:∀ base:iO,K.In base->base.Ns gn mg->FnOk P w K mg base CX k Z fd [x] sp) (p:∀(s:ay)(u:ar),Dc s fd ⟨[u],[]⟩ [(x,u)])
  (S:∀ H:Hp,kTX H->SqL K H a (J.map V.int)->sp [.ref a] H (λ v _=>v=.bl true) λ _ _ _=>False)
  (Q:∀ H e s',CX [] H c (λ _ _ _=>False) e s'->False) :
  codeAny (model P w) callerA (.call (.ref Z) ⟨[.ref a],[]⟩) (λ r s'=>r=.ok (.ret (.bool true))/\OldK c.heap s'.heap/\s'.os=c.os/\Bh s'.gens) c:=by
 have rv:=oE hi
 have L:=hi.length
 have j:∀ H:Hp,kTX H->SqL K H a (J.map V.int)->HOk P w H c.heap->(∀ b,H b≠none->b=a)->(H a≠none->K.lookup a=none) ->
   codeAny (model P w) callerA (.call (.ref Z) ⟨[.ref a],[]⟩) (λ r s'=>r=.ok (.ret (.bool true))/\OldK c.heap s'.heap/\s'.os=c.os/\Bh s'.gens) c:=by
  intro H hO hS B hA hK;have f:∀{b:av}{o:Obj},c.heap.get? b=some o->H b=none->(sZ c.heap H).get? b=some o:=λ e n=>kNN e n
  have T:∀{b:av}{o:Obj}{y:Array CB}{G:Nat},c.heap.get? b=some o->o.data=.dict y G->H b=none:=λ{b o y G} e d=>by
   cases q:H b with
   | none=>rfl
   | some u =>
    have X:b=a:=hA b (by rw[q];simp);subst X;rw[O]at e;cases e;have d':Data.seq l.toArray _=Data.dict y G:=d
    cases d'
  have i:∀{b:av}{m:Str->Option ar},c.heap.Ns b m->(sZ c.heap H).Ns b m:=λ{b m} ⟨o,y,G,e,d,r⟩=>⟨o,y,G,f e (T e d),d,r⟩
  have D:K.In (sZ c.heap H):=λ b o e=>f (KX b o e) (by
   cases q:H b with
   | none=>rfl
   | some u =>
    have X:b=a:=hA b (by rw[q];simp);subst X;rw[hK (by rw[q];simp)]at e;cases e)
  have hM:Mod K mg (sZ c.heap H):=⟨D,i M,⟨U,i g,Y⟩,let ⟨mc,h1,h2⟩:=A;⟨mc,i h1,h2⟩⟩;have e0:Env0 P w K mg (sZ c.heap H) callerA [] c H:=⟨rfl,hM,λ b o e=>kPU e,Fz (kJQ _ _),trivial,λ b g=>absurd (show b∈([]:List av) from g) (by simp),B,.of_eq hg⟩;refine De ((F _ D (i M)).run callerA [] c H ⟨[.ref a],[]⟩ [.ref a] [.ref a] _ _ hr e0 (p c (.ref a)) (.cons rfl .nil) (S H hO hS)) λ r s' h=>?_
  cases r with
  | error e=>exact(Q H e s' h).elim
  | ok fl =>
   cases fl with
   | next=>exact wx h
   | brk=>exact wx h
   | cont=>exact wx h
   | ret u =>
    obtain⟨v,H',os,N,un,C,r',q⟩:=h;have q':v=.bl true:=q;subst q';obtain rfl:u=BI true:=r';refine⟨rfl,OldK.of_keep λ b o e=>?_,os,N⟩
    cases q:H b with
    | none=>exact un.keep b o e q (by intro z;exact absurd (show b∈([]:List av) from z) (by simp)) (by simp)
    | some u =>
     rcases hO b with z | ⟨ob,xs,z⟩
     ·rw[q]at z;cases z
     ·have z2:=un.frzs b ob _ z
      obtain⟨e1,_⟩:=B b _ z;obtain⟨e2,_⟩:=C b _ z2;rw[e]at e1;cases e1;exact e2
 cases hk:K.lookup a with
 | some o =>
  have e:=KX a o hk;rw[O]at e;cases e
  refine j (λ _=>none) (λ _=>.inl rfl) (.inr ⟨_,l.toArray,_,hk,rfl,rfl,rfl,by rw[fe,L];exact hl,by simpa using rv⟩) (λ b u z=>by have I:(none:Option HO)=some u:=z;cases I) (λ b z=>absurd rfl z) λ z=>absurd rfl z
 | none =>
  refine j (λ b=>if b=a then some (.frz {cls:=.type "list",data:=.seq l.toArray} (.lst (J.map V.int))) else none) (λ b=>?_) (.inl (.inr ⟨{cls:=.type "list",data:=.seq l.toArray},if_pos rfl⟩)) (λ b u z=>?_) (λ b z=>?_) λ _=>hk
  ·by_cases g:b=a
   ·exact .inr ⟨_,_,if_pos g⟩
   ·exact .inl (if_neg g)
  ·by_cases g:b=a
   ·have I:=(if_pos g).symm.trans z
    cases I
    subst g;exact⟨O,by rw[ak];exact hl,l,_,rv,O⟩
   ·have I:=(if_neg g).symm.trans z
    cases I
  ·by_cases g:b=a
   ·exact g
   ·exact absurd (if_neg g) z
def walk_of{l:Cf}{n k:Nat}{q:fb}{j:List Str}{Q:(Str->Option ar)->iO->Prop}{N:iI->iO->Prop}{d:DefRec}{K:GY->az}{CX:iI->CXT}{sp:iI->Sp}{x:Str}
  (Z:l.most=some n) (J:n<=sizeLine) (D:d.params.defaults=[]) (O:Room k callerA)
  (U:∀(w:iI)(h:iO),N w h->(K w.params).In h)
  (F:∀(w:iI)(mg:Str->Option ar)(r:av)(h:iO),(K w.params).In h->h.Ns gn mg->mg d.name=some (.ref r) ->
   ∃ fd:ua,(∀(s:ay)(u:ar),Dc s fd ⟨[u],[]⟩ [(x,u)]) /\
    ∀ base:iO,(K w.params).In base->base.Ns gn mg->FnOk l.prog w (K w.params) mg base (CX w) k r fd [x] (sp w))
  (B:∀(w:iI)(H:Hp)(a:av)(y:List Int),y.length<=n->kTX H->SqL (K w.params) H a (y.map V.int)->sp w [.ref a] H (λ v _=>v=.bl true) λ _ _ _=>False)
  (A:∀(w:iI)(H:Hp)(s:ay)(e:ar)(I:ay),CX w [] H s (λ _ _ _=>False) e I->False) :
  Fd q j Q N l.row.toRowW d [] (λ f vs=>Eo f vs):=by
 refine Att.attach_call Z D λ w L p mg mb r o pm cd a0 a vs y G Y ho hd X C m i c hg=>?_;have M:=U w _ Y;obtain⟨fd,hb,hF⟩:=F w mg r _ M G.T.g C;exact kNB M G.T.g G.T.b G.T.builtins G.T.nolimit hg m i (ju c J) O hF hb (λ H S hS=>B w H a y c S hS) λ H e I=>A w H p e I
def vN(s:qa):Arguments:=match s with
 | .FunctionDef _ a _ _ _ _ _ _ _ _=>a
 | _=>{posonlyargs:=[],args:=[],vararg:=none,kwonlyargs:=[],kw_defaults:=[],kwarg:=none,defaults:=[]}
def zE(s:qa):List qa:=match s with
 | .FunctionDef _ _ b _ _ _ _ _ _ _=>b
 | _=>[]
def kL(s:qa):wc:=match s with
 | .FunctionDef _ _ _ _ _ _ sc _ _ _=>sc
 | _=>{kind:=.function,names:=[],isGenerator:=false,isCoroutine:=false}
abbrev CX0:CXT:=λ _ _ _ _ _ _=>False
abbrev E0:XK:=λ _ _ _=>False
def kUT{X:Cx}:kET CX0 X E0:=λ _ _ _ _ _ _ _ h=>h.elim
structure Fun(K:az)(x qual:Str)(st:qa)(f:av)(fd:ua):Prop where
 ex:∃(oc:ar)(od:Option av)(kV doc pm:ar)(an:Option av)(cdv ct:ar)(osl:Array (Option ar)),
  fd=uw x qual (vN st) (zE st) (kL st) .none kV doc pm an cdv ct/\K.lookup f=some ⟨oc,od,.func fd,osl⟩/\BN K cdv qual=true
 kp:AF K (.ref f)=true
section
variable {P:fb} {w:iI} {K:az} {mg:Str->Option ar} {base:iO}
def Fun.ok{x a:Str}{st:qa}{f:av}{j:ua}{N ps:List Str}{k:Nat}{sp:Sp}(F:Fun K x a st f j)(S:FnScope N ps (kL st))(len:∀ c H Q E,sp c H Q E->c.length=ps.length)
  (d:∀(b:ar)(A:fq)(outer:List Env)(s:ay)(H:Hp)(c:List V)(Q:VK)(E:XK),Room k (A.deeper (envOfC a (kL st) s.heap.objs.size f b))->sp c H Q E ->
   ∃ t,PSs (qW CX0 P w K mg base N a (kL st) f b A outer s H E).nox (zE st) t/\t {nx:=λ _ H'=>Q .non H',rt:=Q} (start N c) H):FnOk P w K mg base CX0 (k+1) f j ps sp:=by
 obtain⟨u,r,kV,m,y,v,b,p,l,rfl,o,i⟩:=F.ex;refine kVK o i S len λ A outer s H c Q E n g=>?_;obtain⟨t,h,q⟩:=d b A outer s H c Q E n g;exact⟨t,h.nox,q⟩
def Fun.binds{x a:Str}{st:qa}{f:av}{j:ua}{ps:List Str}(F:Fun K x a st f j)
  (h:∀(kV b i:ar)(g:Option av)(c ct:ar)(d:List ar),d.length=ps.length->bindArgs (uw x a (vN st) (zE st) (kL st) .none kV b i g c ct) ⟨d,[]⟩=pure (ps.zip d)):Binds K j ps []:=by
 obtain⟨o,n,kV,b,i,g,c,ct,l,rfl,p,m⟩:=F.ex;exact .all (h kV b i g c ct)
def kTO{x a:Str}{st:qa}{f:av}{m:ar}{j h:Option av}{g:Array (Option ar)}{kV d i b ct:ar}(l:K.lookup f=some ⟨m,j,.func (uw x a (vN st) (zE st) (kL st) .none kV d i h b ct),g⟩)
  (c:BN K b a=true) (k:AF K (.ref f)=true):Fun K x a st f (uw x a (vN st) (zE st) (kL st) .none kV d i h b ct):=⟨⟨m,j,kV,d,i,h,b,ct,g,rfl,l,c⟩,k⟩
end
def wV{A:fq}{k:Nat}(a:Room k A):A.units+1<cLine:=jl (Nat.add_le_add_left (by decide:1<=64) _) a.units
def kS{n:Nat}(h:n<=1000):n<sizeLine:=jl h (by decide)
section
variable {X:Cx}
def pv(i:Nat){x:Str}{b:Pos}(c:X.N[i]?=some x:=by rfl)(f:Vis X.env.scope x:=by first | exact yw rfl | exact EF (yw rfl) | exact EF (EF rfl))(d:(x == ("__debug__" : Str))=false:=by decide)
  (a:(x == ("__classdict__" : Str))=false:=by decide):PE X (.Name x b) (kRX i):=kSO c f d a
end
def jY{A B:Prop}(h:B):if false=true then A else B:=by
 rw[if_neg dw];exact h
def zT{A B:Prop}(h:A):if true=true then A else B:=by
 rw[if_pos rfl];exact h
def kJM{c A B:Prop}[Decidable c](h1:c->A)(a:¬ c->B):if c then A else B:=by
 by_cases h:c
 ·rw[if_pos h]
  exact h1 h
 ·rw[if_neg h]
  exact a h
def Same(H H':Hp):Prop:=∀ b o,H b=some o->H' b=some o
def Same.refl(H:Hp):Same H H:=λ _ _ h=>h
def Same.trans{H d f:Hp}(a:Same H d)(b:Same d f):Same H f:=λ c o h=>b c o (a c o h)
def Same.free{H H':Hp}(e:Same H H'){l:av}(h:H' l=GQ):H l=GQ:=by
 cases q:H l with
 | none=>rfl
 | some o =>
  rw[e l o q]at h;cases h
end L2
namespace Own
open PySem PySem.Spec PyProof.Rows L2
def Has(P:fb)(w:iI)(K:az)(mg:Str->Option ar)(base:iO)(x:Str)(ps:List Str)(k:Nat)(sp:Sp):Prop :=
 ∃(f:av)(a:ua),FnOk P w K mg base CX0 k f a ps sp/\Binds K a ps []/\AF K (.ref f)=true/\mg x=some (.ref f)
section
variable {X:Cx} {k:Nat} {ps:List Str} {sp:Sp} {x:Str} {p pos:Pos} {e:iS} {es:List iS} {t:TA}
def pe_has(h:Has X.prog X.w X.K X.mg X.base x ps k sp)(l:Room k X.A)(j:Gl X x)
  (i:PA X (e::es) t) (c:(x == ("__debug__" : Str))=false:=by decide) (g:starEach (e::es) X.env=(false,eval e X.env)::starEach es X.env:=by rfl) (a:(backTo pos (starEach es X.env)).any (·.1)=false:=by rfl) :
  PE X (.Call (.Name x p) (e::es) [] pos) (kKY sp [] E0 t):=by
 obtain⟨f,n,F,b,d,m⟩:=h;exact kPQ F l j m d b .nil kUT i c g a
end
def kVU(i j:Int):Prop:=i.natAbs<2 ^ 9000/\j.natAbs<2 ^ 9000
def kVV(i j:Int):Prop:=j≠0/\j.natAbs<2 ^ 9000
def kHL{i:Int}(h:i.natAbs<2 ^ 9000):GV i<=2 ^ 20 :=
 ju (intBits_le h) (by decide)
section
variable {X:Cx}
def op_mulW:OpR X (binaryOp .Mult) (rI kVU λ i j=>.int (i*j)):=opI λ _ _ _ _ _ _ _ a q=>mul_int q (IntMulOk.of_bits (kHL a.1) (kHL a.2))
theorem log2_lt{n:Nat}(h:n<2 ^ 9000):n.log2<9000:=by
 by_cases h0:n=0
 ·subst h0;decide
 ·exact(Nat.log2_lt h0).mpr h
def op_fdivW:OpR X (binaryOp .FloorDiv) (rI kVV λ i j=>.int (i.fdiv j)):=opI λ _ _ _ _ _ _ _ a q=>floordiv_int a.1 q (.inl (PyProof.noPylong_of_log2 (log2_lt a.2)))
inductive pZ(K:az)(xs:List V)(H:Hp)(Q:VK):Prop
 | mk:∀ x t T b,(xs=[x,.ty T])->(dP K H x t)->(Eg K t (.type T)=some b)->(Q (.bl b) H)->pZ K xs H Q
def call_isi:yY X (.builtin "isinstance") (pZ X.K):=by
 intro a s l H j i Q I r h;obtain⟨x,t,T,b,rfl,d,e,q⟩:=h;obtain⟨u,g,rfl,c,f⟩:=kEW r;cases f
 exact kJN I c d e λ tk=>⟨.bl b,H,I.tok _,rfl,q⟩
end
end Own
namespace L2
open PySem
def jI(K:az)(n:Str)(st:qa):Prop:=∃(f:av)(a:ua),jv K gn n=some (some (.ref f))/\Fun K n n st f a
def df_mk{K:az}{n:Str}{st:qa}{f:av}{i:ar}{h j:Option av}{d:Array (Option ar)}{kV g m b ct:ar}(a:jv K gn n=some (some (.ref f)))(l:K.lookup f=some ⟨i,h,.func (uw n n (vN st) (zE st) (kL st) .none kV g m j b ct),d⟩)(c:BN K b n=true)(k:AF K (.ref f)=true):jI K n st:=⟨f,_,a,kTO l c k⟩
def kTL{P:fb}{w:iI}{K:az}{mg:Str->Option ar}{h base:iO}(X:K.In h)(G:h.Ns gn mg){n:Str}{st:qa}{ps:List Str}{l:Nat}{sp:Sp}(d:jI K n st)
  (ok:∀(f:av)(c:ua),Fun K n n st f c->FnOk P w K mg base CX0 l f c ps sp) (b:∀(kV i o:ar)(m:Option av)(j ct:ar)(g:List ar),g.length=ps.length->bindArgs (uw n n (vN st) (zE st) (kL st) .none kV i o m j ct) ⟨g,[]⟩=pure (ps.zip g)):Own.Has P w K mg base n ps l sp:=by
 obtain⟨f,c,a,F⟩:=d;exact⟨f,c,ok f c F,F.binds b,F.kp,Fe X G a⟩
open PySem PySem.Spec PyProof.Rows
section
variable {κ:Type} [DecidableEq κ]
def jO(kvs:List (κ×V))(k:κ):Option V:=(kvs.find? λ a=>decide (a.1=k)).map (·.2)
def xB(kvs:List (κ×V))(k:κ)(v:V):List (κ×V) :=
 if(kvs.any λ a=>decide (a.1=k))=true then kvs.map (λ a=>if a.1=k then(a.1,v) else a) else kvs++[(k,v)]
def jK{p:κ×V}{r:List (κ×V)}{k:κ}(e:p.1=k):jO (p::r) k=some p.2:=by simp[jO,uo,e]
def jL{p:κ×V}{r:List (κ×V)}{k:κ}(e:¬ p.1=k):jO (p::r) k=jO r k:=by simp[jO,uo,e]
theorem vZ(k:κ):∀ kvs:List (κ×V),(kvs.any λ kv=>decide (kv.1=k))=(jO kvs k).isSome
 | []=>rfl
 | p::r=>by
  rw[Ag];by_cases e:p.1=k
  ·simp only[jK e,decide_eq_true e,Bool.true_or,Option.isSome_some]
  ·rw[jL e,decide_eq_false e,Bool.false_or];exact vZ k r
theorem kAA(k j:κ)(y:V):∀ kvs:List (κ×V),jO (kvs.map λ kv=>if kv.1=k then(kv.1,y) else kv) j=(jO kvs j).map λ x=>if j=k then y else x
 | []=>rfl
 | p::r=>by
  have a:=kAA k j y r;rw[gh];by_cases h:p.1=k
  ·rw[if_pos h]
   by_cases e:p.1=j
   ·rw[jK (p:=(p.1,y)) e,jK e,xi,if_pos (e.symm.trans h)]
   ·rw[jL (p:=(p.1,y)) e,jL e,a]
  ·rw[if_neg h]
   by_cases e:p.1=j
   ·rw[jK (p:=p) e,jK e,xi,if_neg (λ z=>h (e.trans z))]
   ·rw[jL (p:=p) e,jL e,a]
theorem oG(k j:κ)(y:V):∀ kvs:List (κ×V),jO kvs k=none->jO (kvs++[(k,y)]) j=if j=k then some y else jO kvs j
 | [],_=>by
  by_cases e:k=j
  ·rw[if_pos e.symm];exact jK (p:=(k,y)) e
  ·rw[if_neg (λ z=>e z.symm)];exact jL (p:=(k,y)) e
 | p::r,hn=>by
  rw[ji];have a:¬ p.1=k:=λ z=>by rw[jK z]at hn;cases hn
  rw[jL a]at hn;have b:=oG k j y r hn;by_cases e:p.1=j
  ·rw[jK e,jK e,if_neg (λ z=>a (e.trans z))]
  ·rw[jL e,jL e,b]
def gN(kvs:List (κ×V))(k j:κ)(y:V):jO (xB kvs k y) j=if j=k then some y else jO kvs j:=by
 unfold xB;by_cases a:(kvs.any λ c=>decide (c.1=k))=true
 ·rw[if_pos a,kAA]
  rw[vZ]at a;by_cases e:j=k
  ·obtain⟨x,b⟩:=yy.mp a
   rw[if_pos e,e,b,xi,if_pos rfl]
  ·rw[if_neg e]
   cases jO kvs j with
   | none=>rfl
   | some x=>rw[xi,if_neg e]
 ·rw[if_neg a]
  refine oG k j y kvs ?_;rw[vZ]at a
  cases q:jO kvs k with
  | none=>rfl
  | some x=>rw[q]at a;exact(a rfl).elim
def xW(kvs:List (κ×V))(k:κ)(v:V):(xB kvs k v).length<=kvs.length+1:=by
 unfold xB
 split
 ·rw[ak];omega
 ·rw[bu,iQ,yh];omega
def kAX{kvs:List (κ×V)}{k:κ}(v:V)(h:jO kvs k=none):xB kvs k v=kvs++[(k,v)]:=by
 unfold xB;rw[vZ,h];exact if_neg (by decide)
def RelO.isSome_eq{o:Option V}{u:Option ar}(r:RelO o u):o.isSome=u.isSome:=by
 cases o with
 | none=>cases u with
  | none=>rfl
  | some _=>exact(show False from r).elim
 | some _=>cases u with
  | none=>exact(show False from r).elim
  | some _=>rfl
def KV.val{kvs:List (κ×V)}{c:List (κ×ar)}(r:KV kvs c)(k:κ):RelO (jO kvs k) (valueAt c k):=by
 unfold KV at r
 induction r with
 | nil=>exact so
 | @cons p q ps qs h t ih =>
  obtain⟨h1,d⟩:=h;by_cases e:p.1=k
  ·have a:q.1=k:=h1.symm.trans e
   have b:valueAt (q::qs) k=some q.2:=by simp[valueAt,uo,a]
   rw[jK e,b];exact d
  ·have a:¬ q.1=k:=λ z=>e (h1.trans z)
   have b:valueAt (q::qs) k=valueAt qs k:=by simp[valueAt,uo,a]
   rw[jL e,b];exact ih
theorem KV.any{kvs:List (κ×V)}{a:List (κ×ar)}(r:KV kvs a)(k:κ):(kvs.any λ kv=>decide (kv.1=k))=a.any λ kv=>decide (kv.1=k):=by
 unfold KV at r
 induction r with
 | nil=>rfl
 | cons h t ih=>rw[Ag,Ag,ih,h.1]
def KV.repl{kvs:List (κ×V)}{a:List (κ×ar)}(r:KV kvs a)(k:κ){y:V}{u:ar}(b:RelV y u) :
  KV (kvs.map λ kv=>if kv.1=k then(kv.1,y) else kv) (a.map λ kv=>if kv.1=k then(kv.1,u) else kv):=by
 unfold KV at r ⊢
 induction r with
 | nil=>exact .nil
 | @cons p q ps qs h t ih =>
  rw[gh,gh];refine .cons ?_ ih;obtain⟨h1,c⟩:=h;by_cases e:p.1=k
  ·rw[if_pos e,if_pos (h1.symm.trans e)];exact⟨h1,b⟩
  ·rw[if_neg e,if_neg (λ z=>e (h1.trans z))];exact⟨h1,c⟩
def KV.put{kvs:List (κ×V)}{a:List (κ×ar)}(r:KV kvs a)(k:κ){y:V}{u:ar}(b:RelV y u):KV (xB kvs k y) (stored a k u):=by
 unfold xB stored;rw[r.any k];by_cases e:(a.any λ c=>decide (c.1=k))=true
 ·rw[if_pos e,if_pos e];exact r.repl k b
 ·rw[if_neg e,if_neg e];exact GR r ⟨rfl,b⟩
theorem KV.length{kvs:List (κ×V)}{a:List (κ×ar)}(r:KV kvs a):kvs.length=a.length:=vh r
end
def kBR{P:fb}{w:iI}{k:Key}{u:ar}(r:RelV (kV k) u):(qG P w).is k u=true:=by
 cases k with
 | inl i=>obtain⟨t,e⟩:=(show ∃ t,u=uk i t from r);subst e;exact kBN P w i t
 | inr x=>obtain⟨t,e⟩:=(show ∃ t,u=Dz x t from r);subst e;exact kBM P w x t
theorem pN{P:fb}{w:iI}:∀{a:List Key}{b:List ar},Vals (a.map kV) b->ItemsAre (qG P w) a b
 | [],_,r=>by rw[CQ]at r;cases r;exact .nil
 | k::a,_,r=>by
  rw[gh]at r
  cases r with
  | cons h t=>exact .cons (kBR h) (pN t)
abbrev KT(H:Hp):List (List Key×V)->List (List Key×av×ar)->Prop:=Ea λ p q=>p.1=q.1/\H q.2.1=some (.tup (p.1.map kV))/\RelV p.2 q.2.2
def KT.val{H:Hp}{kvs:List (List Key×V)}{xs:List (List Key×av×ar)}(r:KT H kvs xs)(k:List Key):RelO (jO kvs k) ((atKey xs k).map (·.2)):=by
 induction r with
 | nil=>exact so
 | @cons p q ps qs h t ih =>
  obtain⟨h1,_,c⟩:=h;by_cases e:p.1=k
  ·have a:q.1=k:=h1.symm.trans e
   have b:atKey (q::qs) k=some q.2:=by simp[atKey,uo,a]
   rw[jK e,b];exact c
  ·have a:¬ q.1=k:=λ z=>e (h1.trans z)
   have b:atKey (q::qs) k=atKey qs k:=by simp[atKey,uo,a]
   rw[jL e,b];exact ih
def KT.repl{H:Hp}{kvs:List (List Key×V)}{xs:List (List Key×av×ar)}(r:KT H kvs xs)(k:List Key){y:V}{u:ar}(c:RelV y u) :
  KT H (kvs.map λ kv=>if kv.1=k then(kv.1,y) else kv) (xs.map (putAt k u)):=by
 induction r with
 | nil=>exact .nil
 | @cons p q ps qs h t ih =>
  rw[gh,gh];refine .cons ?_ ih;obtain⟨h1,a,b⟩:=h;unfold putAt;by_cases e:p.1=k
  ·rw[if_pos e,if_pos (h1.symm.trans e)];exact⟨h1,a,c⟩
  ·rw[if_neg e,if_neg (λ z=>e (h1.trans z))];exact⟨h1,a,b⟩
def KT.put{H:Hp}{kvs:List (List Key×V)}{xs:List (List Key×av×ar)}(r:KT H kvs xs)(k:List Key){b:av}{y:V}{u:ar}(c:H b=some (.tup (k.map kV)))(a:RelV y u) :
  KT H (xB kvs k y) (storedH xs k b u):=by
 have e:(kvs.any λ d=>decide (d.1=k))=(atKey xs k).isSome:=by
  rw[vZ,(r.val k).isSome_eq,Dk]
 unfold xB storedH;rw[e];by_cases q:(atKey xs k).isSome=true
 ·rw[if_pos q,if_pos q];exact r.repl k a
 ·rw[if_neg q,if_neg q];exact GR r ⟨rfl,c,a⟩
def KT.keeps{H H':Hp}{kvs:List (List Key×V)}{xs:List (List Key×av×ar)}(r:KT H kvs xs)(a:∀ b ys,H b=some (.tup ys)->H' b=some (.tup ys)):KT H' kvs xs :=
 Paired.mapP r λ _ _ z=>⟨z.1,a _ _ z.2.1,z.2.2⟩
section
variable {P:fb} {w:iI} {H:Hp} {h:iO} {a:av}
def kRD{u:HO}(ok:HOk P w H h)(e:Rd H a u):ObjOk P w H h a u:=e.ok ok
def kHE{kvs:List (Key×V)}(ok:HOk P w H h)(e:Rd H a (.dK kvs)):kvs.length<=sizeLine/\(a == sysModules)=false/\∃ vs,KV kvs vs/\h.DictOf (qG P w) a vs :=
 show ObjOk P w H h a (.dK kvs) from kRD ok e
def kOD{kvs:List (Key×V)}(ok:HOk P w H h)(e:H a=some (.dK kvs)):kvs.length<=sizeLine/\(a == sysModules)=false/\∃ vs,KV kvs vs/\h.DictOf (qG P w) a vs:=kHE ok (.inl e)
def mR{b:List Key}(ok:HOk P w H h)(e:H a=some (.tup (b.map kV))):(tupleKind (qG P w)).is h b a:=by
 obtain⟨_,c,r,o,h1,d,n,f,_⟩:=(show ObjOk P w H h a (.tup (b.map kV)) from ok a _ e);exact⟨o,c.toArray,n,h1,d,f,by simpa using pN r⟩
def kHB{kvs:List (List Key×V)}(ok:HOk P w H h)(e:Rd H a (.dT kvs)):kvs.length<=sizeLine/\(a == sysModules)=false /\
  ∃ xs,KT H kvs xs/\h.DictOfH (tupleKind (qG P w)) a xs:=by
 obtain⟨z,y,xs,r,o,c,i,h1,d,f,g,j⟩:=(show ObjOk P w H h a (.dT kvs) from kRD ok e);refine⟨z,y,xs,r,o,c,i,h1,d,f,g,λ x b=>?_,j⟩
 have all:∀{l:List (List Key×V)}{m:List (List Key×av×ar)},KT H l m->∀ x∈m,(tupleKind (qG P w)).is h x.1 x.2.1:=by
  intro l m q
  induction q with
  | nil=>intro x b;exact nomatch b
  | @cons p q ps qs hq t ih =>
   intro x b;rcases eK.mp b with e | b
   ·subst e
    exact mR ok (by rw[<-hq.1];exact hq.2.1)
   ·exact ih x b
 exact all r x b
def kHC{kvs:List (List Key×V)}(ok:HOk P w H h)(e:H a=some (.dT kvs)):kvs.length<=sizeLine/\(a == sysModules)=false /\
  ∃ xs,KT H kvs xs/\h.DictOfH (tupleKind (qG P w)) a xs:=kHB ok (.inl e)
end
def DGet(H:Hp)(a:av)(y:V)(r:Option V):Prop :=
 (∃ c k,Rd H a (.dK c)/\y=kV k/\r=jO c k)\/∃ c k b,Rd H a (.dT c)/\y=.ref b/\H b=some (.tup (k.map kV))/\r=jO c k
def DPut(H:Hp)(a:av)(y v:V)(H':Hp):Prop :=
 (∃ c k,H a=some (.dK c)/\y=kV k/\c.length<sizeLine/\H'=upd H a (.dK (xB c k v))) \/
 ∃ c k b,H a=some (.dT c)/\y=.ref b/\H b=some (.tup (k.map kV))/\c.length<sizeLine/\H'=upd H a (.dT (xB c k v))
theorem DGet.k{H:Hp}{a:av}{kvs:List (Key×V)}{k:Key}(e:H a=some (.dK kvs)):DGet H a (kV k) (jO kvs k):=.inl ⟨kvs,k,.inl e,rfl,rfl⟩
def DGet.t{H:Hp}{a b:av}{kvs:List (List Key×V)}{k:List Key}(e:H a=some (.dT kvs))(c:H b=some (.tup (k.map kV))):DGet H a (.ref b) (jO kvs k):=.inr ⟨kvs,k,b,.inl e,rfl,c,rfl⟩
theorem DPut.k{H:Hp}{a:av}{kvs:List (Key×V)}{k:Key}{v:V}(e:H a=some (.dK kvs))(b:kvs.length<sizeLine):DPut H a (kV k) v (upd H a (.dK (xB kvs k v))):=.inl ⟨kvs,k,e,rfl,b,rfl⟩
def DPut.t{H:Hp}{a b:av}{kvs:List (List Key×V)}{k:List Key}{v:V}(e:H a=some (.dT kvs))(d:H b=some (.tup (k.map kV)))(c:kvs.length<sizeLine) :
  DPut H a (.ref b) v (upd H a (.dT (xB kvs k v))):=.inr ⟨kvs,k,b,e,rfl,d,c,rfl⟩
section
variable {X:Cx} {pins:List (av×Obj)} {σ:St} {H:Hp} {s:ay} {a:av} {y v:V} {u r:ar} {o:Option V} {A:fq} {E:ar->ay->Prop}
def Inv.big(I:Inv X pins σ H s):sysModules<s.heap.objs.size:=by
 have h:gn<s.heap.objs.size:=(I.mod.glob.keeps I.bk).lt;exact Nat.lt_trans (by decide) h
def kJZ{Q:ar->ay->Prop}(B:A.units+1<cLine)(I:Inv X pins σ H s)(g:DGet H a y (some v))(q:RelV y u)(h:∀ w' s',Inv X pins σ H s'->RelV v w'->Q w' s') :
  dr (model X.prog X.w) A (getItem (.ref a) u) Q E s:=by
 rcases g with⟨n,k,e,i,l⟩ | ⟨n,k,b,e,i,D,l⟩
 ·subst i
  obtain⟨z,r,C,d,m⟩:=kHE I.hok e;obtain⟨w',j,c⟩:=RelO.some_of (v:=v) (o:=valueAt C k) (by rw[l];exact d.val k);exact wpAny_getItem_of (kBR q) m.mapOf j (h w' _ (I.tok _) c)
 ·subst i
  cases(show u=jz b from q)
  obtain⟨z,r,x,d,m⟩:=kHB I.hok e;obtain⟨w',j,c⟩:=RelO.some_of (v:=v) (o:=(atKey x k).map (·.2)) (by rw[l];exact d.val k);obtain⟨p,hp,f⟩:=cq.mp j;refine wpAny_getItem_heap (zu B) (mR I.hok D) m hp ?_;rw[f];exact h w' _ (I.tok _) c
def kQQ{Q:ar->ay->Prop}(n:A.units+1<cLine)(I:Inv X pins σ H s)(g:DGet H a y o)(m:RelV y u)(h:∀ s',Inv X pins σ H s'->Q (.bool (!o.isSome)) s') :
  dr (model X.prog X.w) A (compareOp .NotIn u (.ref a)) Q E s:=by
 rcases g with⟨j,k,e,f,l⟩ | ⟨j,k,b,e,f,p,l⟩
 ·subst f
  obtain⟨z,d,v,c,i⟩:=kHE I.hok e;refine wpAny_notIn_of (kBR m) d i.mapOf ?_;rw[<-(c.val k).isSome_eq,<-l];exact h _ (I.tok _)
 ·subst f
  cases(show u=jz b from m)
  obtain⟨z,d,r,c,i⟩:=kHB I.hok e;refine wpAny_notIn_heap (zu n) (mR I.hok p) d i ?_;have q:=(c.val k).isSome_eq;rw[Dk]at q;rw[<-q,<-l];exact h _ (I.tok _)
def aI{h':iO}{t':Nat}{ob:HO}(I:Inv X pins σ H s)(c:Mut (H a))(f:jb a s.heap h')(d:∃ q,h'.get? a=some q)(new:ObjOk X.prog X.w (upd H a ob) h' a ob) :
  Inv X pins σ (upd H a ob) {s with heap:=h',toks:=t'} :=
 I.write (x:=a) (e:=a) c (.inl rfl) (λ b q g z=>(f.2 b g).trans z) d new
def kOE{P:fb}{w:iI}{H':Hp}{h':iO}{kvs:List (Key×V)}{b:List (Key×ar)}(z:kvs.length<=sizeLine)(d:(a == sysModules)=false)(c:KV kvs b)(f:h'.DictOf (qG P w) a b) :
  ObjOk P w H' h' a (.dK kvs):=⟨z,d,b,c,f⟩
def kJY{H':Hp}{Q:Unit->ay->Prop}(Y:A.units+1<cLine)(I:Inv X pins σ H s)(g:DPut H a y v H')(M:RelV y u)(D:RelV v r)(h:∀ s',Inv X pins σ H' s'->Q () s') :
  dr (model X.prog X.w) A (setItem (.ref a) u r) Q E s:=by
 rcases g with⟨d,k,e,B,l,n⟩ | ⟨d,k,b,e,B,L,l,n⟩
 ·subst B n
  obtain⟨z,x,S,f,C⟩:=kOD I.hok e;have m:S.length<=sizeLine:=by rw[<-f.length];exact z
  have o:(xB d k v).length<=sizeLine:=by have:=xW d k v;omega
  refine wpAny_setItem_pairs (hsz:=m) (kBR M) C λ G i p=>h _ ?_;have O:∃ q,G.get? a=some q:=let ⟨q,_,_,j,_⟩:=i;⟨q,j⟩;exact aI I (by rw[e];exact so) p O (kOE o x (f.put k D) i)
 ·subst B n
  cases(show u=jz b from M)
  obtain⟨z,x,U,f,C⟩:=kHC I.hok e;have m:U.length<=sizeLine:=by rw[<-vh f];exact z
  have o:(xB d k v).length<=sizeLine:=by have:=xW d k v;omega
  refine wpAny_setItem_heap (hsz:=m) (zu Y) (mR I.hok L) C λ G i p=>h _ ?_;obtain⟨q,N,ep,j,T,Z,h4,_,h5⟩:=i;refine aI I (by rw[e];exact so) p ⟨q,j⟩ ⟨o,x,_,(f.put k L D).keeps λ c ys J=>?_,q,N,ep,j,T,Z,h4,h5⟩;rw[kM (wR J e (λ z=>nomatch z))];exact J
end
section
variable {X:Cx} {pins:List (av×Obj)} {σ:St} {H:Hp} {s:ay} {a:av} {kvs:List (Key×V)} {k:Key} {u:ar} {A:fq} {E:ar->ay->Prop}
end
def kVS(i:iS):Prop:=∀ a b,subscripted i false a b=operate [a,b] (getItem a b)
def kOX{prog:fb}{w:iI}{A:fq}{E:ar->ay->Prop}{s:ay}{env:Env}{value a:iS}{j:Pos}{T id:String}{Q:ar->ay->Prop}
  (m:typeLookup (.type T) "__getitem__" = pure (some (.builtin id))) (n:kVS a)
  (h:dr (model prog w) A (eval value env) (λ o s₁=>dr (model prog w) A (eval a env) (λ i s₂=>s₂.TypeIs o T/\dr (model prog w) A (getItem o i) Q E s₂) E s₁) E s) :
  dr (model prog w) A (eval (.Subscript value a j) env) Q E s:=by
 refine Ei (vi h (λ o s₁ f=>vi f (λ i s₂ b=>?_) λ _ _ x=>x) λ _ _ x=>x);obtain⟨l,b⟩:=b;unfold subscriptTail;refine ai ?_;rw[getitemInPython_of_ne l.not_modules];refine ai (Cg l m ?_)
 have d:dr (model prog w) A (subscripted a false o i) (λ r c=>dr (model prog w) A (letTemporaryGo value o r >>= λ _=>pure r) Q E c) E s₂:=by
  rw[n o i];exact wpAny_operating (vi b (λ r c g=>ai (wpAny_letTemporaryGo (bj g))) λ _ _ x=>x)
 first
  | exact bj (ai d)
  | exact ai (bj (ai d))
  | exact ai d
def kCG{X:Cx}{c:List (av×Obj)}{h:St}{H:Hp}{s:ay}{a:av}{y:V}{o:Option V}(I:Inv X c h H s)(g:DGet H a y o):s.TypeIs (.ref a) "dict":=by
 rcases g with⟨f,k,e,_,_⟩ | ⟨f,k,b,e,_,_,_⟩
 ·obtain⟨_,_,j,_,d⟩:=kHE I.hok e
  exact d.typeIs
 ·obtain⟨_,_,i,_,d⟩:=kHB I.hok e
  exact d.typeIs
inductive kKX(Q:VK)(x:V)(y:V)(H2:Hp):Prop
 | mk:∀ a v,(x=.ref a)->(DGet H2 a y (some v))->(Q v H2)->kKX Q x y H2
def kUG(d c:TE):TE:=λ a H Q=>d a H λ x b=>c a b λ y f=>kKX Q x y f
inductive kAC(Q:VK)(y:V)(x:V)(H2:Hp):Prop
 | mk:∀ a o,(x=.ref a)->(DGet H2 a y o)->(Q (.bl (!o.isSome)) H2)->kAC Q y x H2
def kOW(c d:TE):TE:=λ a H Q=>c a H λ y b=>d a b λ x f=>kAC Q y x f
inductive kLW(D:Ends)(σ:St)(v:V)(x:V)(y:V)(H3:Hp):Prop
 | mk:∀ a H4,(x=.ref a)->(DPut H3 a y v H4)->(D.nx σ H4)->kLW D σ v x y H3
def kUL(f d b:TE):TS:=λ D a H=>b a H λ v c=>f a c λ x g=>d a g λ y h=>kLW D a v x y h
section
variable {X:Cx} {o i e value:iS} {pos pos' tpos:Pos} {td ty tv:TE}
def bQ(J:X.A.units+1<cLine)(L:PE X o td)(hi:PE X i ty)(C:kVS i):PE X (.Subscript o i pos) (kUG td ty):=by
 intro b s d H Q I h;refine kOX PySem.F.slot_dict_getitem.lookup C (thn (L b s d H _ I h) λ u n ⟨x,l,q,p,j⟩=>thn (hi b n d l _ q j) λ M S ⟨y,D,f,G,a,v,B,g,m⟩=>?_);subst B;obtain rfl:u=jz a:=p;exact⟨kCG f g,kJZ J f g G λ N O r c=>⟨v,D,r,c,m⟩⟩
def kIY(C:X.A.units+1<cLine)(hi:PE X i ty)(G:PE X o td):PC X .NotIn i o (kOW ty td):=by
 intro b s c H Q I h;refine thn (hi b s c H _ I h) λ J l ⟨y,f,n,B,d⟩=>thn (G b l c f _ n d) λ u M ⟨x,v,D,m,a,r,q,g,j⟩=>?_;subst q;obtain rfl:u=jz a:=m;exact kQQ C D g B λ L p=>⟨.bl (!r.isSome),v,p,rfl,j⟩
def kFZ(Q:X.A.units+1<cLine)(U:PE X o td)(hi:PE X i ty)(B:PE X value tv)(L:swapsWith value (some (.Subscript o i pos')) pos.line X.env=pure false) :
  PS X (.Assign [.Subscript o i pos'] value pos) (kUL td ty tv):=by
 intro b s c H D I h;refine wpAny_Assign_Subscript (thn (B b s c H _ I h) λ r p ⟨v,f,C,m,d⟩=>thn (U b p c f _ C d) λ u M ⟨x,N,T,q,n⟩=>thn (hi b M c N _ T n) λ Y s3 ⟨y,H3,G,O,a,l,J,g,S⟩=>?_) L;subst J;obtain rfl:u=jz a:=q;exact kJY Q G g O m λ Z j=>⟨c,l,j,S⟩
end
def kOC{P:fb}{w:iI}{H:Hp}(h:iO)(a:sysModules<h.objs.size):ObjOk P w H (h.push {cls:=.type "dict",data:=.dict #[]}) h.objs.size (.dT []) :=
 ⟨iG _,beq_eq_false_iff_ne.mpr (sj (eA a)),[],.nil,_,#[],0,cj _ rfl,⟨rfl,rfl,rfl⟩,rfl,rfl,yo⟩
def kRZ:TE:=λ _ H Q=>∀ p,H p=none->Q (.ref p) (upd H p (.dT []))
section
variable {X:Cx} {pos:Pos}
def kML:PE X (.Dict [] [] pos) kRZ:=λ b s c H Q I h =>
 wpAny_Dict_empty ⟨.ref s.heap.objs.size,_,I.laid (a:=s.heap.objs.size) (o:=.dT []) (t':=s.toks) (λ _ _ q=>au _ q) (be _) (kOC s.heap I.big),rfl,h _ (I.hok.fresh (be _))⟩
end
section
variable {X:Cx} {pins:List (av×Obj)} {σ:St} {H:Hp} {s:ay} {a:av} {y d:V} {u r:ar} {o:Option V} {A:fq} {E:ar->ay->Prop}
end
section
variable {X:Cx} {o e f:iS} {apos cpos:Pos} {td ty tx:TE}
end
section
variable {X:Cx} {pins:List (av×Obj)} {σ:St} {H:Hp} {s:ay} {a:av} {kvs:List (Key×V)} {A:fq} {E:ar->ay->Prop}
end
section
variable {X:Cx} {pins:List (av×Obj)} {σ:St} {H:Hp} {s:ay} {a:av} {y:V} {u:ar} {A:fq} {E:ar->ay->Prop}
end
section
variable {κ:Type} [DecidableEq κ]
end
end L2
set_option maxHeartbeats 4000000
namespace L2
open PySem PySem.Spec PyProof.Rows
abbrev TB:=(St->Hp->Prop)->St->Hp->Prop
def PBd(X:Cx)(code:Sem Unit)(b:TB):Prop :=
 ∀(pins:List (av×Obj))(s:ay)(σ:St)(H:Hp)(N:St->Hp->Prop),Inv X pins σ H s->b N σ H ->
  dr (model X.prog X.w) X.A code (λ _ d=>∃ a c,Inv X pins a c d/\N a c) X.xe s
def PTl(X:Cx)(tail:Sem uq)(L:Gi)(b:TB):Prop :=
 ∀(pins:List (av×Obj))(s:ay)(σ:St)(H:Hp)(N:St->Hp->Prop),Inv X pins σ H s->b N σ H ->
  dr (model X.prog X.w) X.A tail (λ c f=>c=.again L/\∃ a d,Inv X pins a d f/\N a d) X.xe s
def xZ(b:List iS)(env:Env)(a:Sem Unit)(L:Gi):Sem uq :=
 (forIn b true λ c r=>if r=true then do let ok <-isTrue c env (eval c env);pure (jg ok) else pure (jg r)) >>= λ ok=>if ok=true then a >>= λ _=>again L else again L
def uG(J:It)(g:TG)(b:TB)(j:St->Hp->Prop)(a:St)(H:Hp):Prop :=
 ∃ W:Nat->Nat->St->Hp->Prop,(∃ m,W 0 m a H)/\∀ i m a H,W i m a H ->
  (J.stop i H/\j a H)\/(J.go i H/\∃ N:St->Hp->Prop,(∀ d c,N d c->∃ h,h<m/\W (i+1) h d c)/\∀ x c,J.yld i H x c->g x a c λ f l=>b N f l)
section
variable {X:Cx} {e tg:iS} {gens:List DM} {sc:wc} {cpos:Pos} {d:Nat} {it:av} {acc:ar} {tail:Sem uq} {p:Pos} {g:TG} {b:TB} {J:It} {fp:List av} {tn:Nat->iO->Prop} {N0:St->Hp->Prop} {R:Result->ay->Prop}
def yK(he:(∃ el,e=.ListComp el gens sc cpos)\/∃ k v,e=.DictComp k v gens sc cpos)(hx:X.xe=λ _ _=>False)(hc:X.calm=true)
  (ht:compTurn e d (.ref it) acc X.env=(standAt p >>= λ _=>pyNext (.ref it) >>= λ r=>match r with
   | none=>pure (.done .next)
   | some v=>letOwnedTupleGo tg (.ref it) v >>= λ _=>assign tg X.env v >>= λ _=>tail))
  (T:Turn X.prog X.w X.K tg J fp it tn) (hg:PG X tg g) (f:PTl X tail (.compLoop e d (.ref it) acc X.env) b) {a:List (av×Obj)} {S:St} {H:Hp} {s:ay}
  (I:Inv X a S H s) (st:tn 0 s.heap) (f2:∀ b∈fp,yX X a H b) (hw:uG J g b N0 S H)
  (hR:∀ σ' H' s',Inv X a σ' H' s'->N0 σ' H'->R (.ok .next) s') :
  codeAny (model X.prog X.w) X.A (.compLoop e d (.ref it) acc X.env) R s:=by
 obtain⟨W,⟨m0,w0⟩,turn⟩:=hw;have c:∀{H':Hp},(∀ b∈fp,H' b=none)->∀ b∈fp,yX X a H' b:=λ hn b f=>⟨hn b f,(f2 b f).2⟩;refine codeAny_loop rfl (λ n s'=>∃ i σ' H',Inv X a σ' H' s'/\tn i s'.heap/\(∀ b∈fp,H' b=none)/\W i n σ' H') ?_ m0 ⟨0,S,H,I,st,λ b f=>(f2 b f).1,w0⟩;rintro n M ⟨i,j,Z,I3,y,C,w3⟩
 have l:(model X.prog X.w).den (.compLoop e d (.ref it) acc X.env)=((compTurn e d (.ref it) acc X.env).onRaise (λ x=>do noteFrame x X.env;theTreesLotGoes x))/\X.A.under (.compLoop e d (.ref it) acc X.env)=X.A:=by
  rcases he with⟨el,rfl⟩ | ⟨k,v,rfl⟩<;>exact⟨rfl,rfl⟩
 rw[l.1,l.2];show dr _ _ ((compTurn e d (.ref it) acc X.env).onRaise (λ x=>do noteFrame x X.env;theTreesLotGoes x)) _ _ M;refine wpAny_noted ?_;rw[ht]
 have B:∀{α:Type}{t:Sem α}{Q:α->ay->Prop}{E:ar->ay->Prop}{s:ay},dr (model X.prog X.w) X.A t Q X.xe s->dr (model X.prog X.w) X.A t Q E s :=
  λ h=>vi h (λ _ _ q=>q) λ _ _ q=>by rw[hx]at q;exact q.elim
 refine ai (xm (ai ?_));rcases turn i n j Z w3 with⟨stop,qn⟩ | ⟨go,N,hN,step⟩
 ·refine B (thn (T.done X rfl rfl rfl hc i a M j Z X.xe I3 (c C) y stop) λ r s4 ⟨L,I4⟩=>?_)
  subst L;exact bj (hR _ _ _ I4 qn)
 ·refine B (thn (T.item X rfl rfl rfl hc i a M j Z X.xe I3 (c C) y go) λ r s4 ⟨u,L,h4⟩=>?_)
  subst L;refine ai (B (thn h4 λ _ s5 ⟨x,H5,I5,r5,y5,m,Y⟩=>?_));have G:=I5.pinned (c Y) (T.obj _ _ m);refine ai (B (thn (hg _ s5 j H5 x u _ G r5 (step x H5 y5)) λ _ s6 ⟨O,H6,I6,q6⟩=>?_));refine B (thn (f _ s6 O H6 _ I6 q6) λ a0 s7 ⟨hf,D,H7,U,n7⟩=>?_);subst hf;obtain⟨m',hm,w7⟩:=hN D H7 n7;refine⟨rfl,m',hm,i+1,D,H7,U.unpinned,T.keep _ _ _ m λ b f o e=>(U.pin (b,o) (cm _ (cm _ (vI f e)))).1,λ b f=>?_,w7⟩;obtain⟨o,e,d⟩:=T.obj _ _ m b f;exact(U.pin (b,o) (cm _ (cm _ (vI f e)))).2.1
end
def bIf(t:TT)(b:TB):TB:=λ N a H=>t a H λ c d=>if c=true then b N a d else N a d
def qT{X:Cx}{a:Sem Unit}{L:Gi}{b:TB}(f:PBd X a b):PTl X (xZ [] X.env a L) L b:=by
 intro c s d H N I h;unfold xZ;refine ai (ER ?_);show dr _ _ (a >>= λ _=>again L) _ _ s;exact ai (thn (f c s d H N I h) λ _ g q=>bj ⟨rfl,q⟩)
def zK{X:Cx}{c:iS}{t:TT}{d:Sem Unit}{L:Gi}{b:TB}(l:PT X c t)(m:PBd X d b):PTl X (xZ [c] X.env d L) L (bIf t b):=by
 intro a s f H N I h;unfold xZ;refine ai (wpAny_tests_one (thn (l a s f H _ I h) λ ok j ⟨g,i,q⟩=>?_))
 cases ok with
 | true=>exact ai (thn (m a j f g N i (by simpa using q)) λ _ n q=>bj ⟨rfl,q⟩)
 | false=>exact bj ⟨rfl,f,g,i,by simpa using q⟩
def kWL(D:av)(d:TE):TB:=λ N c H=>d c H λ x b=>∃ a,b D=some (.lst a)/\a.length<sizeLine/\N c (upd b D (.lst (a++[x])))
def jP{X:Cx}{f:iS}{d:TE}{D:av}(m:PE X f d):PBd X (do let _ <-call (.builtin "list.append") [.ref D,<-eval f X.env]) (kWL D d):=by
 intro a s b H N I h;refine ai (thn (m a s b H _ I h) λ u l ⟨x,g,n,r,o,p,j,q⟩=>?_);refine ai (thn (xE a l b g (.ref D) [x] (.ref D) [u] (λ _ c=>N b c) n rfl (.cons r .nil) ⟨D,o,x,rfl,rfl,p,j,q⟩) λ _ y ⟨_,c,v,_,i⟩=>?_);exact bj ⟨b,c,v,i⟩
def kEX(f d iter:iS)(a:List iS)(g:wc)(b:Pos)(it c:ar)(env:Env) :
  compTurn (.ListComp f [⟨d,iter,a,0⟩] g b) 0 it c env=(standAt iter.pos >>= λ _=>pyNext it >>= λ r=>match r with
   | none=>pure (.done .next)
   | some v=>letOwnedTupleGo d it v >>= λ _=>assign d env v >>= λ _=>xZ a env (do let _ <-call (.builtin "list.append") [c,<-eval f env]) (.compLoop (.ListComp f [⟨d,iter,a,0⟩] g b) 0 it c env)):=by rfl
def kKS(b:List iS)(env:Env)(a:iS)(next:ar->Gi)(L:Gi):Sem uq :=
 (forIn b true λ c r=>if r=true then do let ok <-isTrue c env (eval c env);pure (jg ok) else pure (jg r)) >>= λ ok=>if ok=true then
  (eval a env >>= λ x=>standAt a.pos >>= λ _=>foldedSetIterable a env x >>= λ x=>holding [x] (pyIter x) >>= λ i=>runOwn (next i) env >>= λ _=>again L) else again L
def kKO(l h iter f a:iS)(c b:List iS)(j:wc)(d:Pos)(it g:ar)(env:Env) :
  compTurn (.ListComp l [⟨h,iter,c,0⟩,⟨f,a,b,0⟩] j d) 0 it g env=(standAt iter.pos >>= λ _=>pyNext it >>= λ r=>match r with
   | none=>pure (.done .next)
   | some v=>letOwnedTupleGo h it v >>= λ _=>assign h env v >>= λ _=>kKS c env a (λ i=>.compStart (.ListComp l [⟨h,iter,c,0⟩,⟨f,a,b,0⟩] j d) 1 i g env) (.compLoop (.ListComp l [⟨h,iter,c,0⟩,⟨f,a,b,0⟩] j d) 0 it g env)):=by rfl
def kKN(h j iter c a:iS)(g b:List iS)(i:wc)(d:Pos)(it f:ar)(env:Env) :
  compTurn (.ListComp h [⟨j,iter,g,0⟩,⟨c,a,b,0⟩] i d) 1 it f env=(standAt a.pos >>= λ _=>pyNext it >>= λ r=>match r with
   | none=>pure (.done .next)
   | some v=>letOwnedTupleGo c it v >>= λ _=>assign c env v >>= λ _=>xZ b env (do let _ <-call (.builtin "list.append") [f,<-eval h env]) (.compLoop (.ListComp h [⟨j,iter,g,0⟩,⟨c,a,b,0⟩] i d) 1 it f env)):=by rfl
def vP(env:Env)(a:List (Str×av))(y:Str×ub):List (Str×av) :=
 if(y.2 == .free)=true then(match env.cells.lookup y.1 with | some c=>(y.1,c)::a | none=>a) else a
def aK(a:wc)(env:Env):List (Str×av):=a.names.foldl (vP env) []
def tP(env:Env)(x:Str×ub)(r:List (Str×av)):Sem (ForInStep (List (Str×av))) :=
 match x with | (name,kind)=>if(kind == .free)=true then(do let a <-cellOf env name;pure (jg ((name,a)::r))) else pure (jg r)
def kKB{env:Env}{y:Str×ub}{b:List (Str×av)}(h:y.2=.free->∃ c,env.cells.lookup y.1=some c):tP env y b=pure (jg (vP env b y)):=by
 obtain⟨n,k⟩:=y;unfold tP vP
 cases hk:k == Br with
 | false=>simp[hk]
 | true =>
  obtain⟨c,d⟩:=h (by simpa using hk);have a:List.lookup n env.cells=some c:=d;simp only[hk,if_true,cellOf,a,pure_bind]
theorem nH{env:Env}:∀(l:List (Str×ub))(a:List (Str×av)),(∀ y∈l,y.2=.free->∃ c,env.cells.lookup y.1=some c) ->
  (forIn l a (tP env):Sem (List (Str×av)))=pure (l.foldl (vP env) a)
 | [],a,_=>rfl
 | y::r,a,h=>by
  rw[zm,kKB (h y eW),pure_bind,vk];exact nH r _ λ y b=>h y (dh _ b)
def yL{a:wc}{env:Env}(h:∀ y∈a.names,y.2=.free->∃ c,env.cells.lookup y.1=some c):closureFor a env=pure (aK a env):=by
 have q:=nH (env:=env) a.names [] h;have z:closureFor a env=(forIn a.names [] (tP env) >>= λ r=>pure r):=rfl;rw[z,q]
 rfl
theorem cK{env:Env}{x:Str}{c:av}:∀(l:List (Str×ub))(a:List (Str×av)),(a.lookup x=some c->env.cells.lookup x=some c)->(l.foldl (vP env) a).lookup x=some c->env.cells.lookup x=some c
 | [],a,h,e=>h e
 | (n,k)::r,a,h,e=>by
  rw[vk]at e;refine cK r _ (λ z=>?_) e;unfold vP at z
  split at z
  ·split at z
   ·rename_i c' hc
    rw[AY]at z
    split at z
    ·rename_i hx
     have:x=n:=by simpa using hx
     subst this;cases z
     exact hc
    ·exact h z
   ·exact h z
  ·exact h z
theorem kEO{env:Env}{x:Str}:∀(l:List (Str×ub))(a:List (Str×av)),(∃ c,env.cells.lookup x=some c)->((∃ c,a.lookup x=some c)\/(x,Br)∈l)->∃ c,(l.foldl (vP env) a).lookup x=some c
 | [],a,_,h=>h.elim id (λ z=>nomatch z)
 | (n,k)::r,a,he,h=>by
  rw[vk];refine kEO r _ he ?_;rcases h with⟨c,h⟩ | h
  ·left
   unfold vP
   split
   ·split
    ·rename_i c' b
     rw[AY]
     split
     ·exact⟨_,rfl⟩
     ·exact⟨c,h⟩
    ·exact⟨c,h⟩
   ·exact⟨c,h⟩
  ·rcases eK.mp h with z | z
   ·cases z
    obtain⟨c,b⟩:=he
    left
    refine⟨c,?_⟩;unfold vP;simp[b]
   ·exact .inr z
structure CS(sc S0:wc):Prop where
 kind:sc.kind=.function
 names:∀ y∈sc.names,y.2=.local->sc.names.lookup y.1=some .local
 nocell:∀ y∈sc.names,y.2≠.cell
 free:∀ y∈sc.names,y.2=.free->S0.names.lookup y.1=some .cell
def zJ(env:Env)(y:Str×ub):Str×ub:=if(y.2 == .free && env.scope.kind == .function && env.kindOf y.1 == some .cell)=true then(y.1,.cell) else(y.1,y.2)
def kDK(env:Env)(y:Str×ub):(zJ env y).1=y.1:=by
 unfold zJ
 split<;>rfl
theorem lV{env:Env}{x:Str}:∀(l:List (Str×ub)),(l.map (zJ env)).lookup x=(l.lookup x).map λ k=>(zJ env (x,k)).2
 | []=>rfl
 | (n,k)::r=>by
  rw[gh];have e:zJ env (n,k)=(n,(zJ env (n,k)).2):=ux (kDK env (n,k)) rfl;rw[e,AY,AY]
  cases hx:x == n with
  | true =>
   have:x=n:=by simpa using hx
   subst this
   rfl
  | false=>exact lV r
def cxC(X:Cx)(Nc:List Str)(d:wc)(C:av)(c:ay)(a:Hp)(f:List av)(b:List (av×Obj)):Cx :=
 {X with N:=Nc,s₀:=c,H₀:=a,env:=compEnvC d (aK d X.env) C X.env,outer:=X.stack,ex:=f,fn:=λ _=>false,pn:=X.pn++b}
def dN(js:List (Option Nat))(a:St):St:=js.map λ o=>o.bind λ j=>(a[j]?).join
def cL(js:List (Option Nat))(Nc N:List Str)(names:List (Str×ub)):Bool :=
 decide (js.length=Nc.length) && (js.zip Nc).all λ(o,x)=>match o with | none=>true | some j=>decide (N[j]?=some x) && decide (names.lookup x=some .free)
def kTT{js:List (Option Nat)}{Nc N:List Str}{names:List (Str×ub)}(h:cL js Nc N names=true):js.length=Nc.length/\∀(i j:Nat)(x:Str),js[i]?=some (some j)->Nc[i]?=some x->N[j]?=some x/\names.lookup x=some .free:=by
 unfold cL at h;rw[iK]at h;refine⟨of_decide_eq_true h.1,λ i j x b a=>?_⟩
 have z:(js.zip Nc)[i]?=some (some j,x):=by
  rw[nj];exact⟨b,a⟩
 have q:=wo.mp h.2 _ (di z);dsimp only at q;rw[iK]at q;exact⟨of_decide_eq_true q.1,of_decide_eq_true q.2⟩
section
variable {X:Cx} {pins:List (av×Obj)} {σ:St} {H:Hp} {s:ay} {sc:wc} {Nc:List Str} {js:List (Option Nat)} {fp:List av}
def kPT(I:Inv X pins σ H s)(S:CS sc X.env.scope)(f:∀ b∈fp,yX X pins H b)(h:∀ b∈fp,b<s.heap.objs.size){C:av}(hC:s.heap.objs.size<=C):(cxC X Nc sc C s H fp pins).Ok:=by
 have d:∀ x c,(aK sc X.env).lookup x=some c->X.env.cells.lookup x=some c:=λ x c e=>cK sc.names [] (λ z=>nomatch z) e;refine⟨I.ok.mod,S.kind,I.ok.glob,I.ok.blt,hC,λ x y c B u=>I.ok.inj x y c (d x c B) (d y c u),λ x D=>?_,λ x c z=>(nomatch z),I.ok.hd,I.ok.frames,.inl rfl,λ b g=>⟨?_,λ x c e=>(f b g).2.2.2.2.1 x c (d x c e)⟩,I.bs,ju I.ok.bsz I.sz,λ b o e g=>?_,λ b g A=>?_,I.stack,I.stkFree⟩
 ·have a:(sc.names.map (zJ X.env)).lookup x=some .cell\/(sc.names.map (zJ X.env)).lookup x=some .free:=D
  rw[lV]at a
  cases e:sc.names.lookup x with
  | none=>rw[e]at a;rcases a with z | z<;>cases z
  | some k =>
   rw[e]at a;have m:(x,k)∈sc.names:=oh e
   have r:k=.free:=by
    have v:=S.nocell _ m;unfold zJ at a;by_cases l:(k == Br)=true
    ·simpa using l
    ·have i:(k == Br)=false:=by simpa using l
     simp only[i,Ed,xi]at a;rcases a with z | z
     ·exact absurd (by simpa using z) v
     ·simpa using z
   subst r;have j:=S.free _ m rfl;obtain⟨c,q⟩:=I.ok.has x (.inl j);exact kEO sc.names [] ⟨c,q⟩ (.inr m)
 ·exact eA (cv (h b g) hC)
 ·obtain⟨h0,h1,n,p,G,J⟩:=f b g
  rcases p with z | z
  ·exact I.ok.noex b o e z
  ·exact absurd (cv (cg (I.ok.bs b o e).1) z) (rj _)
 ·obtain⟨h0,h1,n,p,G,J⟩:=f b g
  rcases eK.mp (I.stkSub b A) with z | z
  ·exact h1 z
  ·exact n z
def wS(I:Inv X pins σ H s)(S:CS sc X.env.scope)(f:∀ b∈fp,yX X pins H b)(J:∀ b∈fp,b<s.heap.objs.size)(O:cL js Nc X.N sc.names=true){C D:av}{o:HO}{h₁:iO}{m:Str->Option ar}{tk:Nat}
  (hC:s.heap.objs.size<=C) (A:s.heap.objs.size<=D) (M:D≠C) (n:∀ b ob,s.heap.get? b=some ob->h₁.get? b=some ob) (Q:h₁.Ns C m) (new:ObjOk X.prog X.w (upd H D o) h₁ D o) :
  Inv (cxC X Nc sc C s H fp pins) [] (dN js σ) (upd H D o) {s with heap:=h₁,toks:=tk}:=by
 have h:∀ x c,(aK sc X.env).lookup x=some c->X.env.cells.lookup x=some c:=λ x c e=>cK sc.names [] (λ z=>nomatch z) e;have fresh:∀ a,s.heap.objs.size<=a->H a=none:=λ a Z=>I.hok.fresh Z;obtain⟨cl,cp⟩:=kTT O;refine⟨kPT I S f J hC,rfl,I.bare,Un.laid n A (fresh D A),⟨m,Q,λ i x v e1 g e3=>?_⟩,λ x c e=>?_,?_,λ x c e=>?_,λ p hp=>?_,I.hok.laid n A new,?_⟩
 ·-- a name of the frame's
  unfold dN at g;rw[bg]at g
  cases ej:js[i]? with
  | none=>rw[ej]at g;cases g
  | some oj =>
   rw[ej]at g
   cases oj with
   | none=>cases g
   | some j =>
    obtain⟨Y,d⟩:=cp i j x ej e1
    have hv:σ[j]?=some (some v):=by
     simp only[xi,Option.bind_some,Ge]at g
     cases e:σ[j]? with
     | none=>rw[e]at g;cases g
     | some w=>rw[e]at g;exact congrArg some g
    have G:X.env.kindOf x=some .cell:=S.free _ (oh d) rfl;obtain⟨m',a0,hl⟩:=I.loc;obtain⟨u,r,lk⟩:=hl j x v Y hv (.inr (.inl G));refine⟨u,r,.inr ⟨.inl ?_,?_⟩⟩
    ·show(sc.names.map (zJ X.env)).lookup x=some .cell
     rw[lV,d];unfold zJ;simp[I.ok.kind,G]
    ·rcases lk with⟨z,_⟩ | ⟨_,c,T,y⟩
     ·rw[G]at z;cases z
     ·obtain⟨B,l⟩:=kEO sc.names [] ⟨c,T⟩ (.inr (oh d))
      have:B=c:=bq ((h x B l).symm.trans T);subst this;exact⟨B,l,y.keeps n⟩
 ·obtain⟨v,y⟩:=I.cell x c (h x c e)
  exact⟨v,y.keeps n⟩
 ·show upd H D o C=none
  rw[kM M.symm];exact fresh C hC
 ·have q:=h x c e
  obtain⟨v,y⟩:=I.cell x c q;show upd H D o c=none;rw[kM (eA (cv y.lt A))];exact I.freeC x c q
 ·have L:p∈X.pn++pins:=by
   rcases cf.mp hp with z | z
   ·exact z
   ·exact absurd z (by simp)
  obtain⟨U,a2,a3,a4,a5⟩:=I.pin p L;have lt:=cg U;refine⟨n _ _ U,?_,eA (cv lt hC),λ z=>?_,a5⟩
  ·rw[kM (eA (cv lt A))]
   exact a2
  ·rcases eK.mp (I.stkSub _ z) with z | z
   ·exact a3 z
   ·exact a4 z
 ·unfold dN
  rw[ak];exact cl
def wU{C:av}{j:St}{H':Hp}{i:ay}{h':iO}(I:Inv X pins σ H s)(f:∀ b∈fp,yX X pins H b)(hC:s.heap.objs.size<=C)(J:Inv (cxC X Nc sc C s H fp pins) [] j H' i)(r:jb C i.heap h') :
  Inv X pins σ H' {i with heap:=h'}:=by
 have u:=J.base;have x:H' C=none:=J.free;have stay:∀ b a,b≠C->i.heap.get? b=some a->h'.get? b=some a:=λ b a g e=>r.extBut b a g e;have d:∀ b a,s.heap.get? b=some a->b≠C:=λ b a e=>eA (cv (cg e) hC);refine I.call' (ch:=fp) J.os ?_ (λ b v e=>?_) J.bare λ b g=>⟨(f b g).2.2.2.1,(f b g).2.1,(f b g).2.2.2.2.1,(f b g).2.2.2.2.2⟩
 ·refine⟨λ b a e n h1 h=>stay b a (d b a e) (u.keep b a e n h1 h),λ b a e n h1 h=>?_,u.free,λ b a e h=>?_,u.tups,u.frzs,u.tbls⟩
  ·obtain⟨p,q⟩:=u.slot b a e n h1 h
   exact⟨p,stay b _ (d b a e) q⟩
  ·obtain⟨o,q⟩:=u.there b a e h
   exact⟨o,stay b _ (d b a e) q⟩
 ·have l:∀ c w,H' c=some w->c≠C:=λ c w e z=>by rw[z,x]at e;cases e
  refine(J.hok b v e).stay (λ c w m q=>stay c w ?_ q) (λ _ q=>q) λ _ _ q=>q;rcases m with z | z
  ·rw[z];exact l b v e
  ·exact l c _ z
end
section
variable {X:Cx} {e tg iter el:iS} {ifs:List iS} {gens rest:List DM} {sc:wc} {pos:Pos} {Nc:List Str} {js:List (Option Nat)} {wi:TI}
def xV{prog:fb}{w:iI}{A:fq}{env:Env}{R:Result->ay->Prop}{s:ay}{d:Nat}{it a:ar}{g:DM}(f:(∃ el,e=.ListComp el gens sc pos)\/∃ k v,e=.DictComp k v gens sc pos)
  (j:(clausesOf e)[d]?=some g) (i:g.is_async=0)
  (h0:codeAny (model prog w) A (.compLoop e d it a env) R s)
  (h:dr (model prog w) A (pyIter it) (λ it' s'=>codeAny (model prog w) A (.compLoop e d it' a env) R s') (λ _ _=>False) s) :
  codeAny (model prog w) A (.compStart e d it a env) R s:=by
 refine codeAny_of_tree ?_
 have b:(model prog w).den (.compStart e d it a env)=((compStart e d it a env).onRaise (λ x=>do noteFrame x env;standAt theWindowsPlace))/\A.under (.compStart e d it a env)=A:=by
  rcases f with⟨el,rfl⟩ | ⟨k,v,rfl⟩<;>exact⟨rfl,rfl⟩
 have m:∀ d it a,(Code.compLoop e d it a env).quiet=true:=λ _ _ _=>rfl;rw[b.1,b.2];refine wpAny_notedAt ?_;unfold compStart;rw[j];have c:((some g).elim false λ x=>x.is_async != 0)=false:=by show(g.is_async != 0)=false;rw[i];rfl
 rw[c];show dr _ _ (ask >>= _) _ _ s;refine ai (wpAny_askSetting (wpAny_ite ?_))
 split
 ·first
   | exact ai (bj (bj (Fo rfl h0)))
   | exact bj (Fo rfl h0)
 ·refine ai (xb ?_)
  show dr _ _ (standAt g.iter.pos >>= _) _ _ s;exact ai (xm (ai (vi h (λ it' s' l=>bj (Fo rfl l)) λ _ _ x=>x.elim)))
def tLC(js:List (Option Nat))(c:TI)(g:TG)(bd:av->TB):TE:=λ b H Q=>c b H λ J a=>∀ D,a D=none->uG J g (bd D) (λ _ d=>Q (.ref D) d) (dN js b) (upd a D (.lst []))
def yC{g:TG}{bd:av->TB}(hx:X.xe=λ _ _=>False)(hc:X.calm=true)(hi:PI X tg iter wi)(S:CS sc X.env.scope)(a3:cL js Nc X.N sc.names=true)
  (hg:∀ C s₂ H₂ fp pins,PG (cxC X Nc sc C s₂ H₂ fp pins) tg g)
  (l:∀ C s₂ H₂ fp pins D L,PTl (cxC X Nc sc C s₂ H₂ fp pins) (xZ ifs (cxC X Nc sc C s₂ H₂ fp pins).env (do let _ <-call (.builtin "list.append") [.ref D,<-eval el (cxC X Nc sc C s₂ H₂ fp pins).env]) L) L (bd D))
  (hs:∀ x,foldedSetIterable iter X.env x=pure x:=by intro _;rfl) :
  PE X (.ListComp el [⟨tg,iter,ifs,0⟩] sc pos) (tLC js wi g bd):=by
 intro pins s σ H Q I h;rw[eval_ListComp];have a1:closureFor sc X.env=pure (aK sc X.env):=yL λ y hy hf=>I.ok.has y.1 (.inl (S.free y hy hf));refine ox (use:=none) rfl hs a1 S.kind S.names (thn (hi pins s σ H _ I h) λ v s1 h1=>thn h1 λ a5 d h2=>?_);obtain⟨it,fp,tn,J,O,e,Z,T,Y,f2,hw⟩:=h2;subst e;have r:∀ b∈fp,b<d.heap.objs.size:=λ b l=>let ⟨o,ho,_⟩:=T.obj _ _ Y b l;cg ho;refine jh (sd S.nocell (by intro y hy;simp at hy) (λ i f a=>?_) S.kind);dsimp only at f a ⊢;generalize n:d.heap.push {cls:=.type "list",dict:=none,data:=.seq ([]:List ar).toArray}=G at f a ⊢;have a6:G.objs.size=d.heap.objs.size+1:=by rw[<-n,ip]
 have M:d.heap.objs.size≠G.objs.size:=by omega
 have j:d.heap.objs.size<=G.objs.size:=by omega
 have B:∀ b o,d.heap.get? b=some o->i.get? b=some o:=λ b o e=>a.extBut b o (eA (cv (cg e) j)) (au _ (n ▸ au _ e));have u:i.get? d.heap.objs.size=some {cls:=.type "list",dict:=none,data:=.seq ([]:List ar).toArray}:=a.extBut _ _ M (au _ (n ▸ cj _ rfl));have new:ObjOk X.prog X.w (upd O d.heap.objs.size (.lst [])) i d.heap.objs.size (.lst []):=⟨iG _,[],_,.nil,u⟩;have I4:=wS (js:=js) (Nc:=Nc) (tk:=d.toks+([]:List (Str×ar)).length) Z S f2 r a3 j (be _) M B f new;have hn:O d.heap.objs.size=none:=Z.fresh
 have f4:∀ b∈fp,yX (cxC X Nc sc G.objs.size d O fp pins) [] (upd O d.heap.objs.size (.lst [])) b:=λ b l=>by
  obtain⟨h0,h1,h2,h3,h4,h5⟩:=f2 b l;refine⟨?_,eA (cv (r b l) j),λ z=>?_,.inl l,λ x c z=>?_,λ p hp=>?_⟩
  ·rw[kM (eA (r b l))];exact h0
  ·rcases eK.mp (Z.stkSub b z) with q | q
   ·exact h1 q
   ·exact h2 q
  ·exact h4 x c (cK sc.names [] (λ z=>nomatch z) z)
  ·rcases cf.mp hp with z | z
   ·exact h5 p z
   ·exact absurd z (by simp)
 have U:tn 0 i:=T.keep _ _ _ Y λ b l o e=>B b o e
 have m:codeAny (model X.prog X.w) X.A (.compLoop (.ListComp el [⟨tg,iter,ifs,0⟩] sc pos) 0 (.ref it) (.ref d.heap.objs.size) (compEnvC sc (aK sc X.env) G.objs.size X.env))
   (compPost (model X.prog X.w) X.A X.xe none (EP X pins σ Q) (.ref d.heap.objs.size) G.objs.size) {d with heap:=i,toks:=d.toks+([]:List (Str×ar)).length}:=by
  refine yK (X:=cxC X Nc sc G.objs.size d O fp pins) (.inl ⟨el,rfl⟩) hx hc (kEX _ _ _ _ _ _ _ _ _) T (hg _ _ _ _ _) (l _ _ _ _ _ _ _) I4 U f4 (hw _ hn) λ a4 H' s' I' q=>?_;obtain⟨m',a0,_⟩:=I'.loc;exact⟨m',a0,λ h' a2=>⟨.ref d.heap.objs.size,H',wU Z f2 j I' a2,rfl,q⟩⟩
 exact xV (.inl ⟨el,rfl⟩) rfl rfl m (T.self _ _ _ _ _ U m)
end
section
variable {X:Cx}
inductive kFW(x:V)(vs:List V)(H:Hp)(Q:VK):Prop
 | mk:∀ l xs i y,(x=.ref l)->(vs=[.int i,y])->(H l=some (.lst xs))->(0<=i)->(i<2 ^ 62)->(xs.length<sizeLine)->(Q .non (upd H l (.lst (xs.take i.toNat++y::xs.drop i.toNat))))->kFW x vs H Q
def pK:MtM X "list.insert" kFW:=by
 intro d s J H x A v B Q I m j h;obtain⟨l,G,i,y,rfl,rfl,f,h1,D,p,q⟩:=h;cases m
 obtain⟨u,w,rfl,⟨t,rfl⟩,c⟩:=j.two;obtain⟨z,a,n,r,C,e⟩:=I.lstM f
 refine AX F.slot_list_insert ⟨_,e,rfl⟩ F.entry_list_insert (F.args_list_insert_3 _ _ _)
  (AutoSeq1.list_insert_list_int_val_1 l a.toArray n i t w (by rw[Em (by omega) (by omega)];decide) (by rw[fe];omega)) ⟨e,?_⟩
 refine⟨.non,_,I.lset (its':=a.take i.toNat++w::a.drop i.toNat) f e ?_ ((r.take i.toNat).append (.cons c (r.drop i.toNat))) ?_,rfl,q⟩
 ·have o:¬ i<0:=by omega
  simp only[o,if_false,fe];apply Array.toList_inj.mp;simp;by_cases g:i.toNat<=a.length
  ·rw[kq g,ky (l:=Gj i.toNat a) (by rw[iP];omega)]
  ·have b:a.length<=i.toNat:=by omega
   rw[Nat.min_eq_right b,ky (be _),ky b,oq (be _),oq b,List.take_nil]
 ·simp only[bu,de,iQ,iP]
  omega
def cR(a:List Int)(n:Int)(j:Nat):Prop:=a[j]?=some n/\∀ m:Nat,m<j->a[m]?≠some n
def wF{b:List Int}{a:List ar}(r:Vals (b.map V.int) a){m:Nat}(g:m<a.length):∃ k t,b[m]?=some k/\a[m]=uk k t:=by
 have f:=r.length;rw[ak]at f;have d:m<b.length:=by omega
 obtain⟨u,c,q⟩:=r.get (i:=m) (x:=.int b[m]) (by rw[bg,ae d];rfl);obtain⟨t,rfl⟩:=q;refine⟨b[m],t,ae d,?_⟩;rw[ae g]at c;exact bq c
def fJ(n:Int)(v:ar):Bool:=match v with | .int k _=>k == n | _=>false
def vC{b:List Int}{a:List ar}(r:Vals (b.map V.int) a)(n:Int)(t:Tok):∀ y,y∈a.toArray->MeetsSeq.EqGives y (.int n t) (fJ n y):=λ y c=>by
 obtain⟨m,d,rfl⟩:=eV.mp (List.mem_toArray.mp c);obtain⟨k,f,_,e⟩:=wF r d;rw[e];exact GS _ _ _ _
def dM{d:List Int}{a:List ar}(r:Vals (d.map V.int) a){n:Int}{j:Nat}(h:cR d n j):∃ hj:j<a.toArray.size,fJ n a.toArray[j]=true/\∀ m (i:m<a.toArray.size),m<j->fJ n a.toArray[m]=false:=by
 have l:=r.length;rw[ak]at l;have hj:j<d.length:=(ao.mp h.1).1;have b:j<a.length:=by omega
 refine⟨by rw[fe];exact b,?_,λ m i f=>?_⟩
 ·obtain⟨k,t,c,g⟩:=wF r b
  rw[h.1]at c;cases c
  simp[g,fJ]
 ·rw[fe]at i
  obtain⟨k,t,c,g⟩:=wF r i;have:k≠n:=λ z=>h.2 m f (by rw[c,z]);simp[g,fJ,this]
inductive kMD(x:V)(vs:List V)(H:Hp)(Q:VK):Prop
 | mk:∀(l:av)(ns:List Int)(n:Int)(j:Nat),(x=.ref l)->(vs=[.int n])->(H l=some (.lst (ns.map V.int)))->(cR ns n j)->(Q (.int j) H)->kMD x vs H Q
def zM:MtM X "list.index" kMD:=by
 intro b s D H x y v A Q I f c h;obtain⟨l,C,n,j,rfl,rfl,o,d,q⟩:=h;cases f
 obtain⟨u,rfl,t,rfl⟩:=c.one;obtain⟨z,a,m,r,B,e⟩:=I.lstM o;obtain⟨h1,g,p⟩:=dM r d
 have i:(j:Int)<2 ^ 63-1:=by
  have:=dG;rw[fe]at h1;omega
 refine AX F.slot_list_index ⟨_,e,rfl⟩ F.entry_list_index (F.args_list_index_2 _ _) (MeetsSeq.list_index l a.toArray m (.int n t) (fJ n) (vC r n t) j h1 i g p) ⟨e,?_⟩;exact⟨.int j,H,I.tok _,⟨_,rfl⟩,q⟩
inductive kFV(x:V)(vs:List V)(H:Hp)(Q:VK):Prop
 | mk:∀(l:av)(ns:List Int)(n:Int)(j:Nat),(x=.ref l)->(vs=[.int n])->(H l=some (.lst (ns.map V.int)))->(cR ns n j)->(Q .non (upd H l (.lst ((ns.eraseIdx j).map V.int))))->kFV x vs H Q
theorem vJ{α β:Type}(f:α->β):∀(l:List α)(j:Nat),(l.eraseIdx j).map f=(l.map f).eraseIdx j
 | [],j=>by simp
 | x::r,0=>by simp
 | x::r,j+1=>by simp[vJ f r j]
def pI:MtM X "list.remove" kFV:=by
 intro b s C H x y v A Q I g d h;obtain⟨l,o,n,j,rfl,rfl,c,f,q⟩:=h;cases g
 obtain⟨u,rfl,t,rfl⟩:=d.one;obtain⟨z,a,m,r,B,e⟩:=I.lstM c;obtain⟨h1,i,p⟩:=dM r f;refine AX F.slot_list_remove ⟨_,e,rfl⟩ F.entry_list_remove (F.args_list_remove_2 _ _) (MeetsSeq.list_remove l a.toArray m (.int n t) (fJ n) (vC r n t) j h1 i p (by rw[fe];omega)) ⟨e,?_⟩;refine⟨.non,_,I.lset (its':=a.eraseIdx j) c e ?_ (by rw[vJ];exact r.eraseIdx j) ?_,rfl,q⟩
 ·show a.toArray.eraseIdxIfInBounds j=(a.eraseIdx j).toArray
  rw[List.eraseIdxIfInBounds_toArray]
 ·rw[ak]
  have:=pL o j;rw[ak]at z;omega
end
def vB{lo:Int}{n:Nat}{g:TG}{b:TB}{c:St->Hp->Prop}{a:St}{H:Hp}(Pv:Nat->St->Hp->Prop)(h0:Pv 0 a H)
  (l:∀ i a H,i<n->Pv i a H->g (.int (lo+i)) a H λ σ2 H2=>b (Pv (i+1)) σ2 H2) (f:∀ a H,Pv n a H->c a H):uG (Itr lo n) g b c a H:=by
 refine⟨λ i m a H=>m=n-i/\i<=n/\Pv i a H,⟨n,by simp,iG _,h0⟩,?_⟩;rintro i m a H ⟨rfl,h,p⟩;by_cases d:i<n
 ·refine .inr ⟨d,Pv (i+1),λ r o q=>⟨n-(i+1),by omega,rfl,by omega,q⟩,λ x o j=>?_⟩
  obtain⟨rfl,rfl⟩:=j;exact l i a _ d p
 ·have:i=n:=by omega
  subst this;exact .inl ⟨be _,f a H p⟩
def jJ{K:az}{a:av}{xs:List V}{g:TG}{b:TB}{j:St->Hp->Prop}{c:St}{H:Hp}(Pv:Nat->St->Hp->Prop)(h0:Pv 0 c H)(f:∀ i c H,i<=xs.length->Pv i c H->SqL K H a xs)
  (o:∀ i x c H,xs[i]?=some x->Pv i c H->g x c H λ σ2 H2=>b (Pv (i+1)) σ2 H2) (l:∀ c H,Pv xs.length c H->j c H):uG (Itl K a) g b j c H:=by
 refine⟨λ i m c H=>m=xs.length-i/\i<=xs.length/\Pv i c H,⟨xs.length,by simp,iG _,h0⟩,?_⟩;rintro i m c H ⟨rfl,d,p⟩;by_cases n:i<xs.length
 ·refine .inr ⟨⟨xs,xs[i],f i c H d p,by simp[n]⟩,Pv (i+1),λ s r q=>⟨xs.length-(i+1),by omega,rfl,by omega,q⟩,λ x r h=>?_⟩
  obtain⟨rfl,h⟩:=h;exact o i x c _ (h xs (f i c _ d p)) p
 ·have:i=xs.length:=by omega
  subst this;exact .inl ⟨⟨xs,f _ c H d p,be _⟩,l c H p⟩
def zH{K:az}{a:av}{xs:List V}{g:TG}{b:TB}{j:St->Hp->Prop}{c:St}{H:Hp}(Pv:Nat->St->Hp->Prop)(h0:Pv 0 c H)(f:∀ i c H,i<=xs.length->Pv i c H->SqT K H a xs)
  (o:∀ i x c H,xs[i]?=some x->Pv i c H->g x c H λ σ2 H2=>b (Pv (i+1)) σ2 H2) (l:∀ c H,Pv xs.length c H->j c H):uG (Itt K a) g b j c H:=by
 refine⟨λ i m c H=>m=xs.length-i/\i<=xs.length/\Pv i c H,⟨xs.length,by simp,iG _,h0⟩,?_⟩;rintro i m c H ⟨rfl,d,p⟩;by_cases n:i<xs.length
 ·refine .inr ⟨⟨xs,xs[i],f i c H d p,by simp[n]⟩,Pv (i+1),λ s r q=>⟨xs.length-(i+1),by omega,rfl,by omega,q⟩,λ x r h=>?_⟩
  obtain⟨rfl,h⟩:=h;exact o i x c _ (h xs (f i c _ d p)) p
 ·have:i=xs.length:=by omega
  subst this;exact .inl ⟨⟨xs,f _ c H d p,be _⟩,l c H p⟩
section
variable {prog:fb} {w:iI} {A:fq} {E:ar->ay->Prop}
end
section
variable {X:Cx} {pos:Pos}
theorem gJ:∀{b:List Int}{a:List ar},Vals (b.map V.int) a->Dj a b
 | [],_,r=>by cases r;exact .nil
 | n::b,_,r=>by
  cases r with
  | cons r1 r2 =>
   obtain⟨t,rfl⟩:=r1;exact .cons n t (gJ r2)
end
mutual
def Dt(K:az)(H:Hp):Cu->V->Prop
 | .none,v=>v=.non
 | .bool b,v=>v=.bl b
 | .int i,v=>v=.int i
 | .str x,v=>v=.str x
 | .tuple xs,v=>∃ a c,v=.ref a/\SqT K H a c/\DtAll K H xs c
 | .list xs,v=>∃ a c,v=.ref a/\SqL K H a c/\DtAll K H xs c
 | .dict _,_=>False
def DtAll(K:az)(H:Hp):List Cu->List V->Prop
 | [],vs=>vs=[]
 | d::ds,vs=>∃ v a,vs=v::a/\Dt K H d v/\DtAll K H ds a
end
section
variable {X:Cx} {pins:List (av×Obj)} {σ:St} {H:Hp} {s:ay}
mutual
theorem Dt.reads(I:Inv X pins σ H s):∀(d:Cu)(v:V)(u:ar),RelV v u->Dt X.K H d v->∃ as,Reads s.heap u d as
 | .none,v,u,r,h=>by unfold Dt at h;subst h;cases r;exact⟨_,.none⟩
 | .bool b,v,u,r,h=>by unfold Dt at h;subst h;cases r;exact⟨_,.bool b⟩
 | .int i,v,u,r,h=>by unfold Dt at h;subst h;obtain⟨t,rfl⟩:=r;exact⟨_,.int i t⟩
 | .str x,v,u,r,h=>by unfold Dt at h;subst h;obtain⟨t,rfl⟩:=r;exact⟨_,.str x t⟩
 | .tuple xs,v,u,r,h=>by
  unfold Dt at h;obtain⟨a,j,rfl,p,f⟩:=h;cases r
  obtain⟨c,m,⟨o,y,q,n,l⟩,A⟩:=I.tuple p;obtain⟨as,g⟩:=DtAll.reads I xs j c m f;exact⟨_,.tuple y q l (by simpa using g)⟩
 | .list xs,v,u,r,h=>by
  unfold Dt at h;obtain⟨a,j,rfl,p,f⟩:=h;cases r
  obtain⟨c,m,B,A⟩:=I.list p;obtain⟨as,g⟩:=DtAll.reads I xs j c m f;obtain⟨o,y,q,n,l⟩:=B.isList;exact⟨_,.list y q l (by simpa using g)⟩
 | .dict _,v,u,r,h=>by unfold Dt at h;exact h.elim
theorem DtAll.reads(I:Inv X pins σ H s):∀(c:List Cu)(b:List V)(a:List ar),Vals b a->DtAll X.K H c b->∃ as,ReadsAll s.heap a c as
 | [],b,a,r,h=>by unfold DtAll at h;subst h;cases r;exact⟨_,.nil⟩
 | d::c,b,a,r,h=>by
  unfold DtAll at h;obtain⟨v,g,rfl,h1,i⟩:=h
  cases r with
  | cons r1 r2 =>
   obtain⟨as,f⟩:=Dt.reads I d v _ r1 h1;obtain⟨bs,j⟩:=DtAll.reads I c g _ r2 i;exact⟨_,.cons f j⟩
end
end
section
variable {X:Cx}
inductive kSJ(K:az)(neg:Bool)(x:V)(y:V)(H:Hp)(Q:VK):Prop
 | mk:∀ d e,(Dt K H d x)->(Dt K H e y)->(kj d=true)->(kj e=true)->(Q (.bl (if neg then !PyData.eqv d e else ja d e)) H)->kSJ K neg x y H Q
def kDT(j:X.A.units+64<cLine):OpR X (compareOp .Eq) (kSJ X.K false):=by
 intro a s m H x y v u Q I c i h;obtain⟨d,e,h1,f,b,g,q⟩:=h;obtain⟨l,p1⟩:=Dt.reads I d x v c h1;obtain⟨bs,p2⟩:=Dt.reads I e y u i f;exact SeqAt.compareEq_shaped p1 p2 b g j ⟨.bl _,H,I,rfl,q⟩
def cZ(j:X.A.units+64<cLine):OpR X (compareOp .NotEq) (kSJ X.K true):=by
 intro a s m H x y v u Q I c i h;obtain⟨d,e,h1,f,b,g,q⟩:=h;obtain⟨l,p1⟩:=Dt.reads I d x v c h1;obtain⟨bs,p2⟩:=Dt.reads I e y u i f;exact SeqAt.compareNe_shaped p1 p2 b g j ⟨.bl _,H,I,rfl,q⟩
end
def kWK(a b:wc):Bool:=(a.names.all λ y=>(y.2 != .local || a.names.lookup y.1 == some .local) && y.2 != .cell && (y.2 != .free || b.names.lookup y.1 == some .cell))
def CS.of{a f:wc}(k:a.kind=.function)(h:kWK a f=true):CS a f:=by
 have q:∀ y∈a.names,_:=wo.mp h;refine⟨k,λ y b e=>?_,λ y b e=>?_,λ y b e=>?_⟩<;>have z:=q y b<;>rw[iK,iK]at z<;>obtain⟨⟨g,d⟩,c⟩:=z
 ·rw[e]at g;simpa using g
 ·rw[e]at d;simp at d
 ·rw[e]at c;simpa using c
section
variable {prog:fb} {w:iI} {A:fq} {E:ar->ay->Prop} {s:ay}
def kEA{it t:av}{i:Nat}{a:Array ar}{x:ar}{Q:ar->ay->Prop}(b:s.heap.IsTupleIter it t i)(l:s.heap.IsTuple t a)(m:a[i]?=some x)
  (h:∀ h',h'.IsTupleIter it t (i+1)->jb it s.heap h'->Q x {s with heap:=h'}):dr (model prog w) A (gv (.ref it)) Q E s:=by
 obtain⟨o,d,j,c⟩:=id b;obtain⟨p,g,_,n,f⟩:=l;unfold gv;refine ai (ka (name:=xa "__next__") b.typeIs ue (mo ue b.typeIs BE ?_ (Au _)));show dr _ _ (field (.ref it) 0 >>= _) _ _ s;refine ai (iY d c (x:=.ref t) rfl ?_);show dr _ _ (if(jz t == zt)=true then _ else _) _ _ s;rw[if_neg (show ¬ ((jz t == zt)=true) from dw)];show dr _ _ (field (.ref it) 1 >>= _) _ _ s;refine ai (iY d c (x:=.int i 0) rfl ?_);show dr _ _ (seqItems? (.ref t) >>= _) _ _ s;refine ai (kg g f ?_);simp only[iw,m];refine ai (Ep d c (by simp) (bj ⟨x,rfl,bj (h _ ?_ (jw ..))⟩));refine⟨_,qz _ d (Obj.isFreed_of_fields (DU c _)),(Obj.cls_mapFields ..).trans j,?_⟩;rw[DU c];simp[rawInt]
def mN{it t:av}{i:Nat}{b:Array ar}{Q:ar->ay->Prop}(j:A.handled=none)(c:s.heap.IsTupleIter it t i)(n:s.heap.IsTuple t b)(p:b[i]?=none)
  (l:∀ h' e,Heap.ExtBut it s.heap h'->(∃ o,h'.get? e=some o/\o.cls=.type "StopIteration")->E (.ref e) {s with heap:=h'}):dr (model prog w) A (gv (.ref it)) Q E s:=by
 obtain⟨o,f,q,d⟩:=id c;obtain⟨u,h,_,r,g⟩:=n;unfold gv;refine ai (ka (name:=xa "__next__") c.typeIs ue (mo ue c.typeIs BE ?_ (Au _)));show dr _ _ (field (.ref it) 0 >>= _) _ _ s;refine ai (iY f d (x:=.ref t) rfl ?_);show dr _ _ (if(jz t == zt)=true then _ else _) _ _ s;rw[if_neg (show ¬ ((jz t == zt)=true) from dw)];show dr _ _ (field (.ref it) 1 >>= _) _ _ s;refine ai (iY f d (x:=.int i 0) rfl ?_);show dr _ _ (seqItems? (.ref t) >>= _) _ _ s;refine ai (kg h g ?_);simp only[iw,p];refine ai (xb (ai (Ep f d (by simp) ?_)));show dr _ _ (newExc (.type "StopIteration") [] >>= _) _ _ _;refine ai ?_;simp only[newExc,newTuple];refine ai (jh ?_ (by size_fits));refine ai (m:=firstArgMember _ _) (wpAny_of_eq (a:=zt) (by first | rfl | (simp only[firstArgMember];rfl)) ?_);refine jh ?_ (by size_fits);simp only[raiseNew];refine ai (wpAny_handled ?_)
 first | rw[show A.in1.handled=none from j] | rw[j]
 refine ai (bj (wpAny_throw ?_));exact l _ _ (((jw ..).extBut.push _).push _) ⟨_,cj _ rfl,rfl⟩
end
def ItOf(k:Bool)(h:iO)(it a:av)(i:Nat):Prop:=match k with | true=>h.IsListIter it a i | false=>h.IsTupleIter it a i
def SqOf(k:Bool)(h:iO)(a:av)(b:Array ar):Prop:=match k with | true=>h.IsList a b | false=>h.IsTuple a b
def yW(k:Bool):String:=match k with | true=>"list_iterator" | false=>"tuple_iterator"
def SqX(K:az)(k:Bool)(H:Hp)(a:av)(xs:List V):Prop:=match k with | true=>SqL K H a xs | false=>SqT K H a xs
def ItOf.at{k:Bool}{h h':iO}{it a:av}{i:Nat}(x:ItOf k h it a i)(g:∀ o,h.get? it=some o->h'.get? it=some o):ItOf k h' it a i:=by
 cases k
 ·obtain⟨o,e,r⟩:=x;exact⟨o,g o e,r⟩
 ·obtain⟨o,e,r⟩:=x;exact⟨o,g o e,r⟩
def ItOf.live{k:Bool}{h:iO}{it a:av}{i:Nat}(x:ItOf k h it a i):∃ o,h.get? it=some o/\∀ v,o.data≠.cell v:=by
 cases k
 ·obtain⟨o,e,c,d⟩:=x;exact⟨o,e,λ v z=>by rw[d]at z;cases z⟩
 ·obtain⟨o,e,c,d⟩:=x;exact⟨o,e,λ v z=>by rw[d]at z;cases z⟩
def SqOf.at{k:Bool}{h h':iO}{a:av}{b:Array ar}(x:SqOf k h a b)(g:∀ o,h.get? a=some o->h'.get? a=some o):SqOf k h' a b:=by
 cases k
 ·obtain⟨o,e,r⟩:=x;exact⟨o,g o e,r⟩
 ·obtain⟨o,e,r⟩:=x;exact⟨o,g o e,r⟩
def SqOf.there{k:Bool}{h:iO}{a:av}{b:Array ar}(x:SqOf k h a b):∃ o,h.get? a=some o:=by
 cases k
 ·obtain⟨o,e,r⟩:=x;exact⟨o,e⟩
 ·obtain⟨o,e,r⟩:=x;exact⟨o,e⟩
def SqOf.lt{k:Bool}{h:iO}{a:av}{b:Array ar}(x:SqOf k h a b):a<h.objs.size:=let ⟨_,e⟩:=x.there;cg e
def ItOf.new(k:Bool)(h:iO)(a:av):ItOf k (h.push {cls:=.type (yW k),data:=.fields #[.ref a,.int 0 0]}) h.objs.size a 0:=by
 cases k
 ·exact⟨_,cj _ rfl,rfl,rfl⟩
 ·exact⟨_,cj _ rfl,rfl,rfl⟩
def Inv.sq{X:Cx}{b:List (av×Obj)}{c:St}{H:Hp}{s:ay}{k:Bool}{a:av}{xs:List V}(I:Inv X b c H s)(h:SqX X.K k H a xs):∃ its:List ar,Vals xs its/\SqOf k s.heap a its.toArray:=by
 cases k
 ·obtain⟨its,r,p,_⟩:=I.tuple h
  exact⟨its,r,p⟩
 ·obtain⟨its,r,p,_⟩:=I.list h
  exact⟨its,r,p.isList⟩
def Inv.sq_inj{X:Cx}{b:List (av×Obj)}{c:St}{H:Hp}{s:ay}{k:Bool}{a:av}{xs ys:List V}(I:Inv X b c H s)(h:SqX X.K k H a xs)(h':SqX X.K k H a ys):xs=ys:=by
 cases k
 ·exact I.tuple_inj h h'
 ·exact I.list_inj h h'
section
variable {prog:fb} {w:iI} {A:fq} {E:ar->ay->Prop} {s:ay}
def cB{k:Bool}{a:av}{b:Array ar}{Q:ar->ay->Prop}(h:SqOf k s.heap a b)(c:Q (.ref s.heap.objs.size) {s with heap:=s.heap.push {cls:=.type (yW k),data:=.fields #[.ref a,.int 0 0]}}) :
  dr (model prog w) A (pyIter (.ref a)) Q E s:=by
 cases k
 ·exact wy h c
 ·exact Bj h c
def xR(p:A.handled=none)(k:Bool)(it a:av)(f:a≠it)(b:Array ar):EL prog w A it [it,a] b.size (λ i v=>b[i]?=some v) (λ i h=>ItOf k h it a i/\SqOf k h a b) where
 live:=λ _ _ st=>let ⟨o,ho,_⟩:=st.1.live;⟨o,ho⟩
 frame:=λ _ _ _ st m=>⟨st.1.at λ o e=>m it (by simp) o e,st.2.at λ o e=>m a (by simp) o e⟩
 item:=λ i s Q E q st l=>by
  have g:b[i]?=some b[i]:=by simp[q]
  cases k
  ·exact kEA st.1 st.2 g λ j d c=>l _ j s.toks g ⟨d,st.2.at λ o e=>c.extBut a o f e⟩ c
  ·exact wpAny_nextOf_list_item st.1 st.2 g λ j d c=>l _ j s.toks g ⟨d,st.2.at λ o e=>c.extBut a o f e⟩ c
 done:=λ s Q E st n=>by
  cases k
  ·exact mN p st.1 st.2 (by simp) n
  ·exact wpAny_nextOf_list_end p st.1 st.2 (by simp) n
end
def Inv.turnedL{X:Cx}{a:List (av×Obj)}{h:St}{H:Hp}{s:ay}{h':iO}{t':Nat}{ch:List av}(I:Inv X a h H s)(k:∀ b o,b∉ch->s.heap.get? b=some o->h'.get? b=some o)(g:∀ b∈ch,yX X a H b) :
  Inv X a h H {s with heap:=h',toks:=t'}:=by
 have f:∀ b u,H b=some u->b∉ch:=λ b u e z=>by rw[(g b z).1]at e;cases e
 refine I.step (g':=s.gens) (d':=s.drawn) (ch:=ch) (λ b A=>?_) (λ b o _ _ d e _=>k b o d e) (λ b o _ _ d e _=>⟨o.slots,k b o d e⟩) (λ _ _ _ _ n=>n)
  (λ b o d e=>⟨o,k b o d e⟩) (λ _ _ e=>e) (λ _ _ _ e=>e) (λ b ps e=>⟨#[],by rw[e];simp⟩) (λ m j=>?_) (λ b u e=>?_) I.bare
 ·obtain⟨G,l,D,y,p,x⟩:=g b A
  exact⟨y,l,p,x⟩
 ·obtain⟨o,i,C,B,r⟩:=j
  exact⟨o,i,C,k _ o (λ z=>(g _ z).2.1 rfl) B,r⟩
 ·refine(I.hok b u e).stay (λ c v d q=>k c v ?_ q) (λ _ q=>q) λ _ _ q=>q
  rcases d with z | z
  ·rw[z];exact f b u e
  ·exact f c _ z
open AutoSeq1 (wpAny_loadPart')
def tM(l:av)(a:Array ar)(n:Nat)(i:Option av)(o:Array (Option ar)) :
  Meets (zo.«enumerate.__new__» ⟨[.type "enumerate",.ref l],[]⟩) (λ _ R s=>s.heap.get? l=some {cls:=.type "tuple",dict:=i,data:=.seq a n,slots:=o} /\
   R (.ok (.ret (.ref (s.heap.push {cls:=.type "tuple_iterator",data:=.fields #[.ref l,.int 0 0]}).objs.size)))
    {s with heap:=(s.heap.push {cls:=.type "tuple_iterator",data:=.fields #[.ref l,.int 0 0]}).push {cls:=.type "enumerate",data:=.fields #[.none,.bool false,.ref s.heap.objs.size,rawInt 0,.none,.none]}}) :=
 .of_wp λ j w A R s h=>by
  obtain⟨hp,g,d,tk,os⟩:=s;obtain⟨b,h⟩:=h;have m:=sub_enumerate;have f:Heap.IsTuple (Aj ⟨hp,g,d,tk,os⟩) l a:=⟨_,b,rfl,n,rfl⟩
  wp_walk using zq b
  refine wpAny_stack_any λ st=>bj ?_
  split
  ·rename_i c _ _ _ _ _
   cases(c == BJ "enumerate")
   ·wp_walk using zq b,wy f
    exact⟨_,rfl,h⟩
   ·wp_walk using zq b,wy f
    exact⟨_,rfl,h⟩
  ·wp_walk using zq b,wy f
   exact⟨_,rfl,h⟩
section
variable {prog:fb} {w:iI} {A:fq} {E:ar->ay->Prop} {s:ay}
def tR{k:Bool}{l:av}{a:Array ar}{Q:ar->ay->Prop}(m:SqOf k s.heap l a)
  (h:∀ h',IsEnum h' (s.heap.objs.size+1) s.heap.objs.size 0 .none->ItOf k h' s.heap.objs.size l 0->(∀ b o,s.heap.get? b=some o->h'.get? b=some o)->Q (.ref (s.heap.objs.size+1)) {s with heap:=h'}) :
  dr (model prog w) A (call (.type "enumerate") [.ref l]) Q E s:=by
 cases k
 ·obtain⟨⟨c,i,dt,u⟩,q,g,n,f⟩:=m
  replace g:c=.type "tuple":=g
  replace f:dt=.seq a n:=f
  subst g f;refine Dl F.called_enumerate (by decide) (F.typeCall_enumerate_1 _) (F.newCall_enumerate_1 _) (λ obj=>F.args_object_init_2 obj _) F.entry_enumerate_new (tM l a n i u) ⟨q,?_⟩;have j:(s.heap.push {cls:=.type "tuple_iterator",data:=.fields #[.ref l,.int 0 0]}).objs.size=s.heap.objs.size+1:=ip ..;show _/\_;rw[j];have d:=cj (s.heap.push {cls:=.type "tuple_iterator",data:=.fields #[.ref l,.int 0 0]}) (o:={cls:=.type "enumerate",data:=.fields #[.none,.bool false,.ref s.heap.objs.size,rawInt 0,.none,.none]}) rfl;rw[j]at d;exact⟨⟨_,d,rfl⟩,h _ d ⟨_,au _ (cj _ rfl),rfl,rfl⟩ λ b o x=>au _ (au _ x)⟩
 ·exact call_enumerate_list m λ h' d p _ r=>h h' d p r
end
def aL{k g:Bool}{h:iO}{a it b:av}{i:Nat}{d:Array ar}(x:SqOf k h a d)(y:ItOf g h it b i):a≠it:=by
 intro z;subst z
 cases k<;>cases g<;>obtain⟨o,e,c,_⟩:=x<;>obtain⟨l,j,f,_⟩:=y<;>rw[e]at j<;>cases j<;>rw[c]at f<;>revert f<;>decide
def kOK{h:iO}{a b:av}{o u:Obj}{m n:String}(h1:h.get? a=some o)(f:h.get? b=some u)(g:o.cls=.type m)(c:u.cls=.type n)(d:m≠n):a≠b:=by
 intro z;subst z;rw[h1]at f;cases f
 rw[g]at c;injection c with e
 exact d e
theorem ItOf.cls{k:Bool}{h:iO}{it a:av}{i:Nat}(x:ItOf k h it a i):∃ o,h.get? it=some o/\o.cls=.type (yW k):=by
 cases k<;>obtain⟨o,e,c,_⟩:=x<;>exact⟨o,e,c⟩
def kSB(k:Bool):String:=match k with | true=>"list" | false=>"tuple"
theorem SqOf.cls{k:Bool}{h:iO}{a:av}{b:Array ar}(x:SqOf k h a b):∃ o,h.get? a=some o/\o.cls=.type (kSB k):=by
 cases k<;>obtain⟨o,e,c,_⟩:=x<;>exact⟨o,e,c⟩
def Inv.handed{X:Cx}{a:List (av×Obj)}{d:St}{H:Hp}{s:ay}{h':iO}{t':Nat}{ch:List av}{x y:V}{u v:ar}(I:Inv X a d H s)(m:RelV x u)(A:RelV y v)
  (i:h'.get? s.heap.objs.size=some {cls:=.type "tuple",data:=.seq #[u,v]}) (k:∀ b o,b∉ch->s.heap.get? b=some o->h'.get? b=some o) (h:∀ b∈ch,yX X a H b) (f:∀ b∈ch,b<s.heap.objs.size) :
  Inv X a d (upd H s.heap.objs.size (.tup [x,y])) {s with heap:=h',toks:=t'}/\(∀ b∈ch,upd H s.heap.objs.size (.tup [x,y]) b=none):=by
 have g:∀ b∈ch,upd H s.heap.objs.size (.tup [x,y]) b=none:=λ b c=>by rw[kM (eA (f b c))];exact(h b c).1
 have r:Inv X a d (upd H s.heap.objs.size (.tup [x,y])) {s with heap:=s.heap.push {cls:=.type "tuple",data:=.seq #[u,v]},toks:=s.toks} :=
  I.laid (λ b o e=>au _ e) (be _) ⟨by simp only[iQ,yh];rw[Bk];decide,[u,v],.cons m (.cons A .nil),⟨_,cj _ rfl,rfl,0,rfl,rfl⟩⟩
 have l:=Inv.turnedL (h':=h') (t':=t') (ch:=ch) r (λ b o c e=>by
  rcases Cv e with⟨rfl,rfl⟩ | e
  ·exact i
  ·exact k b o c e) (λ b c=>by
  obtain⟨C,B,j,q,p,n⟩:=h b c;exact⟨g b c,B,j,q,p,n⟩)
 exact⟨l,g⟩
def Ite(k:Bool)(K:az)(a:av):It :=
 ⟨λ i H=>∃ b x,SqX K k H a b/\b[i]?=some x,λ i H v c=>∃ T x,H T=none/\v=.ref T/\(∀ b,SqX K k H a b->b[i]?=some x)/\c=upd H T (.tup [.int i,x]),λ i H=>∃ b,SqX K k H a b/\b.length=i⟩
def kIG{P:fb}{w:iI}{K:az}{C:List iS} {x1} {U:Pos} (k:Bool) (a e it:av):Turn P w K (.Tuple C x1 U) (Ite k K a) [e,it] e (λ i h=>(∃ old,IsEnum h e it i old)/\ItOf k h it a i) where
 mem:=by simp
 obj:=λ i h st b c=>by
  obtain⟨⟨old,f⟩,g⟩:=st;rcases eK.mp c with rfl | c
  ·exact⟨_,f,λ v z=>by cases z⟩
  ·have:b=it:=by simpa using c
   subst this;exact g.live
 keep:=λ i h h' st kk=>by
  obtain⟨⟨old,f⟩,g⟩:=st;exact⟨⟨old,kk e (by simp) _ f⟩,g.at λ o q=>kk it (by simp) o q⟩
 item:=by
  intro X Q T Y N i n s σ H E I hf st hg;subst Q T Y;obtain⟨⟨old,f⟩,g⟩:=st;obtain⟨xs,x,G,J⟩:=hg;obtain⟨d,O,p⟩:=I.sq G;obtain⟨u,hu,ru⟩:=O.get J;have m:=aL p g;obtain⟨oi,ei,ci⟩:=g.cls;obtain⟨oa,ea,ca⟩:=p.cls;have l:e≠it:=kOK f ei rfl ci (by cases k<;>decide);have M:e≠a:=kOK f ea rfl ca (by cases k<;>decide);have D:=xR (prog:=X.prog) (w:=X.w) (A:=X.A.in1) (I.ok.hd N) k it a m d.toArray
  have S:i<d.toArray.size:=by
   have:=(ao.mp hu).1;simpa using this
  refine wpAny_pyNext_enum_itemD D f ⟨g,p⟩ S l (by simp[l,M]) λ y h' tk hy ho a0 hT hz hk=>?_
  have ey:y=u:=by
   have r:d[i]?=some y:=by simpa using hy
   rw[hu]at r;exact(bq r).symm
  subst ey;refine⟨_,rfl,wpAny_letOwnedTupleGo_enum ho λ h2 L j=>?_⟩;have B:e<s.heap.objs.size:=cg f;have Z:it<s.heap.objs.size:=cg ei;have a2:h2.get? s.heap.objs.size=some {cls:=.type "tuple",data:=.seq #[.int i tk,y]}:=j.extBut _ _ (jc B) hT
  obtain⟨I2,n2⟩:=I.handed (x:=.int i) (u:=.int i tk) (t':=tk+1) (ch:=[e,it]) ⟨tk,rfl⟩ ru a2 (λ b o c q=>j.extBut b o (λ z=>c (by simp[z])) (hk b o (λ z=>c (by simp[z])) (λ z=>c (by simp[z])) q)) hf
   (λ b c=>by rcases eK.mp c with rfl | c;exact B;rw[bz.mp c];exact Z)
  refine⟨.ref s.heap.objs.size,_,I2,rfl,⟨_,x,I.hok.fresh (be _),rfl,λ ys a1=>by rw[I.sq_inj a1 G];exact J,rfl⟩,⟨⟨_,by simpa using L⟩,a0.1.at λ o q=>j.extBut it o l.symm q⟩,n2⟩
 done:=by
  intro X Q T Y N i n s σ H E I hf st hg;subst Q T Y;obtain⟨⟨old,f⟩,g⟩:=st;obtain⟨xs,G,J⟩:=hg;obtain⟨d,O,p⟩:=I.sq G;have m:=aL p g;have D:=xR (prog:=X.prog) (w:=X.w) (A:=X.A.in1) (I.ok.hd N) k it a m d.toArray;have hl:d.toArray.size=i:=by rw[<-J,O.length];simp
  refine wpAny_pyNext_enum_endD D f ⟨hl ▸ g,p⟩ λ h' eb=>⟨rfl,I.turnedL (t':=s.toks) (ch:=[it]) (λ b o c q=>eb b o (λ z=>c (by simp[z])) q) λ b c=>hf b (by simp at c ⊢;exact .inr c)⟩
 self:=λ _ _ _ _ _ st h=>by
  obtain⟨⟨old,f⟩,_⟩:=st;exact Dm f h
section
variable {X:Cx}
inductive kNM(k:Bool)(K:az)(R:It->Hp->Prop)(vs:List V)(H1:Hp):Prop
 | mk:∀ a,(vs=[.ref a])->((∃ xs,SqX K k H1 a xs))->(R (Ite k K a) H1)->kNM k K R vs H1
def kVG(k:Bool)(K:az)(a:TA):TI:=λ d H R=>a d H λ c b=>kNM k K R c b
def kGB(k:Bool){a:iS}{x:TA}{p j g:Pos}{m:List iS} {x1} (N:Gl X "enumerate") (B:X.mg "enumerate" = none) (D:PA X [a] x) (J:starEach [a] X.env=[(false,eval a X.env)]:=by rfl) :
  PI X (.Tuple m x1 g) (.Call (.Name "enumerate" p) [a] [] j) (kVG k X.K x):=by
 intro c s O H R I h;refine Fn (wK I N B boot_enumerate (ir (thn (D j c s O H _ I h) λ Y i ⟨U,o,n,C,y⟩=>?_) J rfl));obtain⟨l,rfl,⟨Z,S⟩,q⟩:=y;obtain⟨u,rfl,r⟩:=vS C;cases r
 obtain⟨Q,T,M⟩:=n.sq S;refine tR M λ A v L G=>?_;refine Dm (s:={i with heap:=A}) v ?_
 have f:∀ b,i.heap.objs.size<=b->yX X c o b:=λ b d=>n.fpOk d (n.hok.fresh d);refine⟨_,[i.heap.objs.size+1,i.heap.objs.size],_,_,o,rfl,n.kept (t':=i.toks) G,kIG k l _ _,⟨⟨_,v⟩,L⟩,λ b d=>?_,q⟩;rcases eK.mp d with rfl | d
 ·exact f _ (by omega)
 ·rw[bz.mp d];exact f _ (be _)
end
end L2
namespace L2
open PySem PySem.Spec PyProof.Rows
structure ZAp(z TI TO i1 i2:av)(fp1 fp2:List av):Prop where
 zTI:z≠TI
 zTO:z≠TO
 zi1:z≠i1
 zi2:z≠i2
 TOi1:TO≠i1
 TOi2:TO≠i2
 i12:i1≠i2
 TITO:TI≠TO
 TIi1:TI≠i1
 TIi2:TI≠i2
 z1:z∉fp1
 z2:z∉fp2
 t1:TO∉fp1
 t2:TO∉fp2
 i2f:i2∉fp1
 i1f:i1∉fp2
section
variable {prog:fb} {w:iI} {A:fq} {E:ar->ay->Prop} {s:ay} {z TI TO i1 i2:av} {fp1 fp2:List av} {n1 n2 j:Nat} {P1 P2:Nat->ar->Prop} {S1 S2:Nat->iO->Prop} {a b:ar}
def kHV{Q:ar->ay->Prop}(D1:EL prog w A i1 fp1 n1 P1 S1)(D2:EL prog w A i2 fp2 n2 P2 S2)(d:ZAp z TI TO i1 i2 fp1 fp2)
  (hz:wq s.heap z TI TO .none) (T:xu s.heap TI (.ref i1) (.ref i2)) (X:xu s.heap TO a b) (h1:S1 j s.heap) (h2:S2 j s.heap) (l1:j<n1) (l2:j<n2)
  (hQ:∀ x y h' tk,P1 j x->P2 j y->wq h' z TI TO (rawInt s.heap.objs.size)->xu h' TO x y->S1 (j+1) h'->S2 (j+1) h'->xu h' s.heap.objs.size x y ->
   (∀ c o,c≠z->c≠TO->c≠i1->c≠i2->s.heap.get? c=some o->h'.get? c=some o)->Q (.ref s.heap.objs.size) {s with heap:=h',toks:=tk}) :
  dr (model prog w) A (zo.«zip.__next__» ⟨[.ref z],[]⟩) (λ fin s'=>∃ v,fin=.done (.ret v)/\Q v s') E s:=by
 have g:∀{i:Nat}{h h':iO}{c:av},S1 i h->jb c h h'->c∉fp1->S1 i h':=λ st S O=>D1.frame _ _ _ st λ b n o e=>S.extBut b o (λ q=>O (q ▸ n)) e;have l:∀{i:Nat}{h h':iO}{c:av},S2 i h->jb c h h'->c∉fp2->S2 i h':=λ st S O=>D2.frame _ _ _ st λ b n o e=>S.extBut b o (λ q=>O (q ▸ n)) e;show dr _ _ (field (.ref z) 2 >>= _) _ _ _;refine ai (iY hz rfl (x:=.bool false) rfl ?_);show dr _ _ (field (.ref z) 3 >>= _) _ _ _;refine ai (iY hz rfl (x:=.ref TI) rfl ?_);refine ai (kg T rfl ?_);show dr _ _ (iA (.ref z) >>= _) _ _ _;refine ai ?_;unfold iA;refine ai (iY hz rfl (x:=.none) rfl (bj ?_));simp only[if_true];refine ai (xb ?_);refine ai (iY hz rfl (x:=.ref TO) rfl ?_);refine ai (kl hz (by simp) λ g1 H u=>?_)
 replace H:wq g1 z TI TO .ellipsis:=H
 refine ai ?_
 simp only[yp,Av,zm,BQ]
 refine ai (ai (vt ?_));show dr _ _ (gv (.ref i1) >>= _) _ _ _;refine ai (D1.item j _ _ _ l1 (g h1 u d.z1) λ x g2 a2 px Z C=>bj ?_);have o2:xu g2 TO a b:=C.extBut _ _ d.TOi1 (u.extBut _ _ d.zTO.symm X);refine ai (kg o2 rfl ?_);refine ai (Ak o2 λ g3 U D=>?_)
 replace U:xu g3 TO x b:=U
 refine ai (Al (bj ?_))
 refine ai (ai (vt ?_));show dr _ _ (gv (.ref i2) >>= _) _ _ _;refine ai (D2.item j _ _ _ l2 (l (l (l h2 u d.z2) C d.i1f) D d.t2) λ y g4 a3 py a0 B=>bj ?_);have o4:xu g4 TO x b:=B.extBut _ _ d.TOi2 U;refine ai (kg o4 rfl ?_);refine ai (Ak o4 λ f M G=>?_)
 replace M:xu f TO x y:=M
 refine ai (Al (bj (bj ?_)))
 refine ai (kg M rfl ?_);refine ai (Cw ?_);have sz:f.objs.size=s.heap.objs.size:=by rw[G.1,B.1,D.1,C.1,u.1]
 have z5:wq f z TI TO .ellipsis:=G.extBut _ _ d.zTO (B.extBut _ _ d.zi2 (D.extBut _ _ d.zTO (C.extBut _ _ d.zi1 H)))
 have k5:∀ c o,c≠z->c≠TO->c≠i1->c≠i2->s.heap.get? c=some o->f.get? c=some o:=λ c o m I c3 Y e =>
  G.extBut _ _ I (B.extBut _ _ Y (D.extBut _ _ I (C.extBut _ _ c3 (u.extBut _ _ m e))))
 have a1:S1 (j+1) f:=g (g (g Z D d.t1) B d.i2f) G d.t1;have p:S2 (j+1) f:=l a0 G d.t2;have r:z<f.objs.size:=cg z5;show dr _ _ (om (.ref z) (.ref f.objs.size) >>= _) _ _ _;refine ai ?_;unfold om;have z6:wq (f.push {cls:=.type "tuple",data:=.seq #[x,y]}) z TI TO .ellipsis:=au _ z5;refine ai (kl z6 (by simp) λ g7 z7 s7=>?_)
 replace z7:wq g7 z TI TO (rawInt f.objs.size):=z7
 refine kl z7 (by simp) λ J L s8=>?_
 replace L:wq J z TI TO (rawInt f.objs.size):=L
 have N:∀ c o,c≠z->f.get? c=some o->J.get? c=some o:=λ c o m e=>s8.extBut _ _ m (s7.extBut _ _ m (au _ e));have t8:xu J f.objs.size x y:=s8.extBut _ _ (jc r) (s7.extBut _ _ (jc r) (cj _ rfl));rw[sz]at L t8;refine bj ⟨_,rfl,?_⟩;show Q (.ref f.objs.size) _;rw[sz];exact hQ x y J _ px py L (N _ _ d.zTO.symm M) (D1.frame _ _ _ a1 λ b n o e=>N b o (λ q=>d.z1 (q ▸ n)) e) (D2.frame _ _ _ p λ b n o e=>N b o (λ q=>d.z2 (q ▸ n)) e) t8 λ c o m I c3 Y e=>N c o m (k5 c o m I c3 Y e)
end
def kCP(c r:Bool)(a b:av)(xs ys:Array ar) :
  Meets (zo.«zip.__new__» ⟨[.type "zip",.ref a,.ref b],[]⟩) (λ _ R s=>SqOf c s.heap a xs/\SqOf r s.heap b ys /\
   ∀(j n l p v:iO),j=s.heap.push {cls:=.type (yW c),data:=.fields #[.ref a,.int 0 0]}->n=j.push {cls:=.type (yW r),data:=.fields #[.ref b,.int 0 0]} ->
    l=n.push {cls:=.type "tuple",data:=.seq #[.ref s.heap.objs.size,.ref j.objs.size]}->p=l.push {cls:=.type "tuple",data:=.seq #[.none,.none]} ->
    v=p.push {cls:=.type "zip",data:=.fields #[.none,.bool false,.bool false,.ref n.objs.size,.ref l.objs.size]}->R (.ok (.ret (.ref p.objs.size))) {s with heap:=v}) :=
 .of_wp λ u w A R s h=>by
  obtain⟨hp,g,d,tk,os⟩:=s;obtain⟨i,m,h⟩:=h;have x:=sub_zip;have f:SqOf c (Aj ⟨hp,g,d,tk,os⟩) a xs:=i;have q:SqOf r (Aj ⟨hp.push {cls:=.type (yW c),data:=.fields #[.ref a,.int 0 0]},g,d,tk,os⟩) b ys:=m.at λ o e=>au _ e;have h:=h _ _ _ _ _ rfl rfl rfl rfl rfl
  wp_walk using cB f,cB q
  exact⟨_,rfl,h⟩
section
variable {prog:fb} {w:iI} {A:fq} {E:ar->ay->Prop} {s:ay}
def kCL{m l:Bool}{f b:av}{xs ys:Array ar}{Q:ar->ay->Prop}(h1:SqOf m s.heap f xs)(S:SqOf l s.heap b ys)
  (h:∀ h',wq h' (s.heap.objs.size+4) (s.heap.objs.size+2) (s.heap.objs.size+3) .none->xu h' (s.heap.objs.size+2) (.ref s.heap.objs.size) (.ref (s.heap.objs.size+1)) ->
   xu h' (s.heap.objs.size+3) .none .none->ItOf m h' s.heap.objs.size f 0->ItOf l h' (s.heap.objs.size+1) b 0->(∀ c o,s.heap.get? c=some o->h'.get? c=some o)->Q (.ref (s.heap.objs.size+4)) {s with heap:=h'}) :
  dr (model prog w) A (call (.type "zip") [.ref f,.ref b]) Q E s:=by
 refine Dl GA (by decide) (F.typeCall_zip_2 _ _) (F.newCall_zip_2 _ _) (λ obj=>F.args_object_init_3 obj _ _) ES (kCP m l f b xs ys) ⟨h1,S,?_⟩;intro a d i p g y u B D H;have G:a.objs.size=s.heap.objs.size+1:=by rw[y];exact ip ..
 have r:d.objs.size=s.heap.objs.size+2:=by rw[u,ip,G]
 have v:i.objs.size=s.heap.objs.size+3:=by rw[B,ip,r]
 have I:p.objs.size=s.heap.objs.size+4:=by rw[D,ip,v]
 have T:∀ c o,s.heap.get? c=some o->a.get? c=some o:=λ c o e=>by rw[y];exact au _ e
 have M:∀ c o,a.get? c=some o->d.get? c=some o:=λ c o e=>by rw[u];exact au _ e
 have C:∀ c o,d.get? c=some o->i.get? c=some o:=λ c o e=>by rw[B];exact au _ e
 have n:∀ c o,i.get? c=some o->p.get? c=some o:=λ c o e=>by rw[D];exact au _ e
 have j:∀ c o,p.get? c=some o->g.get? c=some o:=λ c o e=>by rw[H];exact au _ e
 have q:wq g p.objs.size d.objs.size i.objs.size .none:=by rw[H];exact cj _ rfl
 have J:xu g i.objs.size .none .none:=j _ _ (by rw[D];exact cj _ rfl);have N:xu g d.objs.size (.ref s.heap.objs.size) (.ref a.objs.size):=j _ _ (n _ _ (by rw[B];exact cj _ rfl));have O:ItOf m g s.heap.objs.size f 0:=ItOf.at (h:=a) (by rw[y];exact ItOf.new m s.heap f) λ o e=>j _ _ (n _ _ (C _ _ (M _ _ e)));have L:ItOf l g a.objs.size b 0:=ItOf.at (h:=d) (by rw[u];exact ItOf.new l a b) λ o e=>j _ _ (n _ _ (C _ _ e));show _/\_;rw[r,v,I]at q;rw[G,r]at N;rw[v]at J;rw[G]at L;rw[I];exact⟨⟨_,q,rfl⟩,h _ q N J O L λ c o x=>j _ _ (n _ _ (C _ _ (M _ _ (T _ _ x))))⟩
end
def zap(n a b:Nat)(g:a<n)(i:b<n):ZAp (n+4) (n+2) (n+3) n (n+1) [n,a] [n+1,b]:=by
 have q:∀{x y u:Nat},x≠y->x≠u->¬ x∈[y,u]:=λ h1 c f=>by
  rcases eK.mp f with e | e
  ·exact h1 e
  ·exact c (bz.mp e)
 have d:∀{x y:Nat},x<y->y≠x:=λ h=>jc h;have e:∀{x y:Nat},x<y->x≠y:=λ h=>eA h
 exact⟨d (by omega),d (by omega),d (by omega),d (by omega),d (by omega),d (by omega),e (by omega),e (by omega),d (by omega),d (by omega),
  q (d (by omega)) (d (by omega)),q (d (by omega)) (d (by omega)),q (d (by omega)) (d (by omega)),q (d (by omega)) (d (by omega)),q (d (by omega)) (d (by omega)),q (e (by omega)) (d (by omega))⟩
section
variable {X:Cx}
end
section
variable {X:Cx} {tg iter el:iS} {ifs:List iS} {sc:wc} {pos py spos:Pos} {Nc:List Str} {js:List (Option Nat)} {wi:TI} {i:Nat} {y:Str}
def bO{g:TG}{bd:av->TB}(hx:X.xe=λ _ _=>False)(hc:X.calm=true)(hN:X.N.Nodup)(a7:X.N[i]?=some y)(Y:Loc X.env.scope y)(hi:PI X tg iter wi)(S:CS sc X.env.scope)(a9:cL js Nc X.N sc.names=true)
  (hg:∀ C s₂ H₂ fp pins,PG (cxC X Nc sc C s₂ H₂ fp pins) tg g)
  (n:∀ C s₂ H₂ fp pins D L,PTl (cxC X Nc sc C s₂ H₂ fp pins) (xZ ifs (cxC X Nc sc C s₂ H₂ fp pins).env (do let _ <-call (.builtin "list.append") [.ref D,<-eval el (cxC X Nc sc C s₂ H₂ fp pins).env]) L) L (bd D))
  (hs:∀ x,foldedSetIterable iter X.env x=pure x:=by intro _;rfl)
  (a4:swapsWith (.ListComp el [⟨tg,iter,ifs,0⟩] sc pos) (some (.Name y py)) spos.line X.env=pure true:=by rfl)
  (hf:X.fn y=true\/X.env.scope.names.lookup y=some .local:=by first | exact .inl rfl | exact .inr rfl | assumption) :
  PS X (.Assign [.Name y py] (.ListComp el [⟨tg,iter,ifs,0⟩] sc pos) spos) (kKZ (tLC js wi g bd) (mV i)):=by
 intro pins s σ H D0 I h;have a5:closureFor sc X.env=pure (aK sc X.env):=yL λ y Y hf=>I.ok.has y.1 (.inl (S.free y Y hf));rw[Cp _ _ _ _ a4];refine ai (xm (ai ?_));show dr _ X.A (do let _ <-comprehension (.ListComp el [⟨tg,iter,ifs,0⟩] sc pos) sc X.env _ (newList []) false (eval iter X.env) (some (assign (.Name y py) X.env))) _ _ s
 refine ai (vi (ox (use:=some (assign (.Name y py) X.env)) (Q:=λ _ u=>SP X pins D0 .next u) rfl hs a5 S.kind S.names
  (thn (hi pins s σ H _ I h) λ v s1 h1=>thn h1 λ ac f h2=>?_)) (λ _ u hq=>bj (bj hq)) λ _ _ e=>e)
 obtain⟨it,fp,tn,J,H2,e,I2,T,a1,f2,hw⟩:=h2;subst e;have M:∀ b∈fp,b<f.heap.objs.size:=λ b n=>let ⟨o,ho,_⟩:=T.obj _ _ a1 b n;cg ho;refine jh (sd S.nocell (by intro y Y;simp at Y) (λ m j d=>?_) S.kind);dsimp only at j d ⊢;generalize B:f.heap.push {cls:=.type "list",dict:=none,data:=.seq ([]:List ar).toArray}=G at j d ⊢;have af:G.objs.size=f.heap.objs.size+1:=by rw[<-B,ip]
 have a0:f.heap.objs.size≠G.objs.size:=by omega
 have l:f.heap.objs.size<=G.objs.size:=by omega
 have Z:∀ b o,f.heap.get? b=some o->m.get? b=some o:=λ b o e=>d.extBut b o (eA (cv (cg e) l)) (au _ (B ▸ au _ e));have U:m.get? f.heap.objs.size=some {cls:=.type "list",dict:=none,data:=.seq ([]:List ar).toArray}:=d.extBut _ _ a0 (au _ (B ▸ cj _ rfl));have new:ObjOk X.prog X.w (upd H2 f.heap.objs.size (.lst [])) m f.heap.objs.size (.lst []):=⟨iG _,[],_,.nil,U⟩;have I4:=wS (js:=js) (Nc:=Nc) (tk:=f.toks+([]:List (Str×ar)).length) I2 S f2 M a9 l (be _) a0 Z j new;have hn:H2 f.heap.objs.size=none:=I2.fresh
 have f4:∀ b∈fp,yX (cxC X Nc sc G.objs.size f H2 fp pins) [] (upd H2 f.heap.objs.size (.lst [])) b:=λ b n=>by
  obtain⟨h0,h1,h2,h3,h4,h5⟩:=f2 b n;refine⟨?_,eA (cv (M b n) l),λ z=>?_,.inl n,λ x c z=>?_,λ p hp=>?_⟩
  ·rw[kM (eA (M b n))];exact h0
  ·rcases eK.mp (I2.stkSub b z) with q | q
   ·exact h1 q
   ·exact h2 q
  ·exact h4 x c (cK sc.names [] (λ z=>nomatch z) z)
  ·rcases cf.mp hp with z | z
   ·exact h5 p z
   ·exact absurd z (by simp)
 have a2:tn 0 m:=T.keep _ _ _ a1 λ b n o e=>Z b o e
 have r:codeAny (model X.prog X.w) X.A (.compLoop (.ListComp el [⟨tg,iter,ifs,0⟩] sc pos) 0 (.ref it) (.ref f.heap.objs.size) (compEnvC sc (aK sc X.env) G.objs.size X.env))
   (compPost (model X.prog X.w) X.A X.xe (some (assign (.Name y py) X.env)) (λ _ u=>SP X pins D0 .next u) (.ref f.heap.objs.size) G.objs.size) {f with heap:=m,toks:=f.toks+([]:List (Str×ar)).length}:=by
  refine yK (X:=cxC X Nc sc G.objs.size f H2 fp pins) (.inl ⟨el,rfl⟩) hx hc (kEX _ _ _ _ _ _ _ _ _) T (hg _ _ _ _ _) (n _ _ _ _ _ _ _) I4 a2 f4 (hw _ hn) λ ab H' u I' q=>?_;obtain⟨m',a3,_⟩:=I'.loc;have IB:Inv X pins σ H' {u with heap:=u.heap}:=wU I2 f2 l I' (AJ ..)
  have nC:H' G.objs.size=none:=I'.free;have fC:yX X pins H' G.objs.size:=I2.fpOk l nC;show dr _ X.A (assign (.Name y py) X.env (.ref f.heap.objs.size)) _ _ u;refine Bi (cU (v:=.ref f.heap.objs.size) IB hN a7 Y rfl (λ aa IC a8=>?_) hf);obtain⟨a,sb,ha⟩:=a8
  have aC:G.objs.size≠a:=by
   rcases ha with rfl | ha
   ·exact fC.2.1
   ·exact λ z=>fC.2.2.2.2.1 y a ha z.symm
  refine⟨m',a3.sameBut sb aC,λ h' a6=>?_⟩;exact⟨_,H',IC.turnedL (t':=aa.toks) (ch:=[G.objs.size]) (λ b o O e=>a6.extBut b o (λ z=>O (by simp[z])) e) (λ b O=>by rw[bz.mp O];exact fC),q⟩
 exact xV (.inl ⟨el,rfl⟩) rfl rfl r (T.self _ _ _ _ _ a2 r)
end
def kNT{k:Bool}{K:az}{a:av}{xs:List V}{g:TG}{f:TS}{D:Ends}{b:St}{H:Hp}(Pv:Nat->St->Hp->Prop)(h0:Pv 0 b H)(n:∀ i b H,i<=xs.length->Pv i b H->SqX K k H a xs)
  (r:∀ i x T b H,xs[i]?=some x->H T=none->Pv i b H->g (.ref T) b (upd H T (.tup [.int i,x])) λ σ2 H2=>f {D with nx:=Pv (i+1),ct:=Pv (i+1),bk:=D.nx} σ2 H2) (h:∀ b H,Pv xs.length b H->D.nx b H) :
  ∃ W:Nat->Nat->St->Hp->Prop,(∃ m,W 0 m b H)/\∀ i m b H,W i m b H ->
   ((Ite k K a).stop i H/\D.nx b H)\/((Ite k K a).go i H/\∃ N:St->Hp->Prop,(∀ σ' H',N σ' H'->∃ m',m'<m/\W (i+1) m' σ' H')/\∀ x H',(Ite k K a).yld i H x H'->g x b H' λ σ2 H2=>f {D with nx:=N,ct:=N,bk:=D.nx} σ2 H2):=by
 refine⟨λ i m b H=>m=xs.length-i/\i<=xs.length/\Pv i b H,⟨xs.length,by simp,iG _,h0⟩,?_⟩;rintro i m b H ⟨rfl,d,p⟩;have c:=n i b H d p;by_cases j:i<xs.length
 ·refine .inr ⟨⟨xs,xs[i],c,by simp[j]⟩,Pv (i+1),λ σ' H' q=>⟨xs.length-(i+1),by omega,rfl,by omega,q⟩,λ x H' o=>?_⟩
  obtain⟨T,l,s,rfl,u,rfl⟩:=o;exact r i l T b H (u xs c) s p
 ·have:i=xs.length:=by omega
  subst this;exact .inl ⟨⟨xs,c,rfl⟩,h b H p⟩
def kIT(bs:List Bool):(cw bs.length).all (λ i=>bs.getD i false)=bs.all id:=by
 rw[iL,wo,wo];constructor
 ·intro h b d
  obtain⟨i,a,rfl⟩:=eV.mp d;have:=h i (jr.mpr a);simpa[aj,a] using this
 ·intro h i a
  have c:i<bs.length:=jr.mp a;have:=h bs[i] (ie c);simpa[aj,c] using this
theorem kEV:∀{bs:List Bool}{a:List ar},Vals (bs.map V.bl) a->a=bs.map BI
 | [],_,r=>by cases r;rfl
 | b::bs,_,r=>by
  cases r with
  | cons r1 r2 =>
   cases r1
   rw[kEV r2]
   rfl
section
variable {X:Cx}
def kKP{prog:fb}{w:iI}{A:fq}{bs:List Bool}{a:Array ar}(e:a=(bs.map BI).toArray):TruthOf prog w A (λ i v=>a[i]?=some v) (λ i=>bs.getD i false):=by
 intro i v s Q E h q;rw[e]at h;have c:(bs.map BI)[i]?=some v:=by simpa using h
 rw[bg]at c
 cases z:bs[i]? with
 | none=>rw[z]at c;cases c
 | some b =>
  rw[z]at c
  cases c
  refine qj ?_;simpa[aj,z] using q
inductive nL(K:az)(xs:List V)(H:Hp)(Q:VK):Prop
 | mk:∀(a:av)(bs:List Bool),(xs=[.ref a])->(SqL K H a (bs.map V.bl))->(Q (.bl (bs.all id)) H)->nL K xs H Q
def rA(l:X.calm=true):yY X (.builtin "all") (nL X.K):=by
 intro j s G H D C Q I r h;obtain⟨a,bs,rfl,x,q⟩:=h;obtain⟨u,rfl,p⟩:=vS r;cases p
 obtain⟨d,m,n,B⟩:=I.list x;have g:=n.isList;have i:a≠s.heap.objs.size:=by obtain⟨o,e,_⟩:=g;exact eA (cg e)
 have c:=kEV m;refine call_all_walk (Bj g ⟨_,_,_,_,_,_,_,rfl,Walks.list (A:=X.A.in1) (I.ok.hd l) _ a i d.toArray,⟨⟨_,cj _ rfl,rfl,rfl⟩,g.push _⟩,kKP (bs:=bs) (by rw[c]),λ y tk v=>?_⟩);have e:d.toArray.size=bs.length:=by rw[c];simp
 rw[e,kIT];refine⟨.bl _,H,I.kept λ b o f=>v b o (λ z=>?_) (au _ f),rfl,q⟩;rw[bz.mp z]at f;exact absurd (cg f) (rj _)
inductive nJ(K:az)(xs:List V)(H:Hp)(Q:VK):Prop
 | mk:∀(a:av)(ns:List Int),(xs=[.ref a])->(SqL K H a (ns.map V.int))->(0<ns.length)->(∀ M,M∈ns->(∀ i∈ns,M<=i)->Q (.int M) H)->nJ K xs H Q
def kKC(o:X.calm=true):yY X (.builtin "min") (nJ X.K):=by
 intro g s S H c O Q I r h;obtain⟨a,J,rfl,G,f,q⟩:=h;obtain⟨u,rfl,y⟩:=vS r;cases y
 obtain⟨L,p,x,N⟩:=I.list G;have m:=gJ p;obtain⟨c,e⟩:=m.allInts.items;have b:J=c.toList.map (·.1):=by rw[<-m.numsOf,<-nums_intItems,<-e]
 have d:0<c.size:=by
  have n:=f;rw[b,ak,iB]at n;exact n
 have l:=x.isList;rw[e]at l;refine min_intList (I.ok.hd o) l d λ v M tk B C=>?_;obtain⟨t,rfl⟩:=intItems_at B;obtain⟨h1,D⟩:=argBest_lt (numAt c) (c.size-1);refine⟨.int _,H,I.kept C,⟨_,rfl⟩,q _ ?_ λ a i=>?_⟩
 ·rw[b,numAt_eq];exact getD_mem (by rw[ak,iB];omega)
 ·rw[b]at i
  obtain⟨j,A,rfl⟩:=mem_getD i;rw[ak,iB]at A;rw[<-numAt_eq];exact D j (by omega)
end
section
variable {X:Cx} {tg iter el tg2 iter2:iS} {ifs ifs2:List iS} {sc:wc} {pos:Pos} {Nc:List Str} {js:List (Option Nat)} {wi wi2:TI} {g g2:TG}
def kRN(a:TI)(f:TG)(d:TB):TB:=λ N b H=>a b H λ J c=>uG J f d N b c
def kMH{D:av}{l:TB}{L:Gi}{e:iS}(p:e=.ListComp el [⟨tg,iter,[],0⟩,⟨tg2,iter2,ifs2,0⟩] sc pos)(S:X.xe=λ _ _=>False)(m:X.calm=true)(hi:PI X tg2 iter2 wi2)(M:PG X tg2 g2)
  (U:∀ L,PTl X (xZ ifs2 X.env (do let _ <-call (.builtin "list.append") [.ref D,<-eval el X.env]) L) L l) (B:∀ x,foldedSetIterable iter2 X.env x=pure x) :
  PTl X (kKS [] X.env iter2 (λ i=>.compStart e 1 i (.ref D) X.env) L) L (kRN wi2 g2 l):=by
 subst p;intro b s O H N I h;unfold kKS;refine ai (ER ?_);show dr _ _ (eval iter2 X.env >>= _) _ _ s;refine ai (thn (hi b s O H _ I h) λ v Y h1=>?_);refine ai (xm (ai (wpAny_of_eq (B v) (ai (mj (thn h1 λ C G y=>?_))))));obtain⟨it,fp,Z,J,H2,e,Q,T,d,n,o⟩:=y;subst e;refine ai (wpAny_runOwn ?_)
 have c:codeAny (model X.prog X.w) X.A (.compLoop (.ListComp el [⟨tg,iter,[],0⟩,⟨tg2,iter2,ifs2,0⟩] sc pos) 1 (.ref it) (.ref D) X.env)
   (λ r f=>match r with | .ok _=>dr (model X.prog X.w) X.A (again L) (λ j f=>j=.again L/\∃ a g,Inv X b a g f/\N a g) X.xe f | .error e=>cameBackBy (model X.prog X.w) X.A X.env X.xe e f) G :=
  yK (.inl ⟨el,rfl⟩) S m (kKN _ _ _ _ _ _ _ _ _ _ _ _) T M (U _) Q d n o λ a g f u q=>bj ⟨rfl,a,g,u,q⟩
 exact xV (.inl ⟨el,rfl⟩) rfl rfl c (T.self _ _ _ _ _ d c)
def sK{bd:av->TB}(hx:X.xe=λ _ _=>False)(hc:X.calm=true)(hi:PI X tg iter wi)(S:CS sc X.env.scope)(a6:cL js Nc X.N sc.names=true)
  (hg:∀ C s₂ H₂ fp pins,PG (cxC X Nc sc C s₂ H₂ fp pins) tg g) (a5:∀ C s₂ H₂ fp pins,PI (cxC X Nc sc C s₂ H₂ fp pins) tg2 iter2 wi2) (a2:∀ C s₂ H₂ fp pins,PG (cxC X Nc sc C s₂ H₂ fp pins) tg2 g2)
  (l:∀ C s₂ H₂ fp pins D L,PTl (cxC X Nc sc C s₂ H₂ fp pins) (xZ ifs2 (cxC X Nc sc C s₂ H₂ fp pins).env (do let _ <-call (.builtin "list.append") [.ref D,<-eval el (cxC X Nc sc C s₂ H₂ fp pins).env]) L) L (bd D))
  (hs:∀ x,foldedSetIterable iter X.env x=pure x:=by intro _;rfl) (a0:∀ C s₂ H₂ fp pins x,foldedSetIterable iter2 (cxC X Nc sc C s₂ H₂ fp pins).env x=pure x:=by intro _ _ _ _ _ _;rfl) :
  PE X (.ListComp el [⟨tg,iter,[],0⟩,⟨tg2,iter2,ifs2,0⟩] sc pos) (tLC js wi g λ D=>kRN wi2 g2 (bd D)):=by
 intro pins s σ H Q I h;rw[eval_ListComp];have a3:closureFor sc X.env=pure (aK sc X.env):=yL λ y hy hf=>I.ok.has y.1 (.inl (S.free y hy hf));refine ox (use:=none) rfl hs a3 S.kind S.names (thn (hi pins s σ H _ I h) λ v s1 h1=>thn h1 λ a8 d h2=>?_);obtain⟨it,fp,tn,J,u,e,Z,T,Y,f2,hw⟩:=h2;subst e;have r:∀ b∈fp,b<d.heap.objs.size:=λ b l=>let ⟨o,ho,_⟩:=T.obj _ _ Y b l;cg ho;refine jh (sd S.nocell (by intro y hy;simp at hy) (λ i f a=>?_) S.kind);dsimp only at f a ⊢;generalize n:d.heap.push {cls:=.type "list",dict:=none,data:=.seq ([]:List ar).toArray}=G at f a ⊢;have a9:G.objs.size=d.heap.objs.size+1:=by rw[<-n,ip]
 have O:d.heap.objs.size≠G.objs.size:=by omega
 have j:d.heap.objs.size<=G.objs.size:=by omega
 have M:∀ b o,d.heap.get? b=some o->i.get? b=some o:=λ b o e=>a.extBut b o (eA (cv (cg e) j)) (au _ (n ▸ au _ e));have B:i.get? d.heap.objs.size=some {cls:=.type "list",dict:=none,data:=.seq ([]:List ar).toArray}:=a.extBut _ _ O (au _ (n ▸ cj _ rfl));have new:ObjOk X.prog X.w (upd u d.heap.objs.size (.lst [])) i d.heap.objs.size (.lst []):=⟨iG _,[],_,.nil,B⟩;have I4:=wS (js:=js) (Nc:=Nc) (tk:=d.toks+([]:List (Str×ar)).length) Z S f2 r a6 j (be _) O M f new;have hn:u d.heap.objs.size=none:=Z.fresh
 have f4:∀ b∈fp,yX (cxC X Nc sc G.objs.size d u fp pins) [] (upd u d.heap.objs.size (.lst [])) b:=λ b l=>by
  obtain⟨h0,h1,h2,h3,h4,h5⟩:=f2 b l;refine⟨?_,eA (cv (r b l) j),λ z=>?_,.inl l,λ x c z=>?_,λ p hp=>?_⟩
  ·rw[kM (eA (r b l))];exact h0
  ·rcases eK.mp (Z.stkSub b z) with q | q
   ·exact h1 q
   ·exact h2 q
  ·exact h4 x c (cK sc.names [] (λ z=>nomatch z) z)
  ·rcases cf.mp hp with z | z
   ·exact h5 p z
   ·exact absurd z (by simp)
 have U:tn 0 i:=T.keep _ _ _ Y λ b l o e=>M b o e
 have m:codeAny (model X.prog X.w) X.A (.compLoop (.ListComp el [⟨tg,iter,[],0⟩,⟨tg2,iter2,ifs2,0⟩] sc pos) 0 (.ref it) (.ref d.heap.objs.size) (compEnvC sc (aK sc X.env) G.objs.size X.env))
   (compPost (model X.prog X.w) X.A X.xe none (EP X pins σ Q) (.ref d.heap.objs.size) G.objs.size) {d with heap:=i,toks:=d.toks+([]:List (Str×ar)).length}:=by
  refine yK (X:=cxC X Nc sc G.objs.size d u fp pins) (.inl ⟨el,rfl⟩) hx hc (kKO _ _ _ _ _ _ _ _ _ _ _ _) T (hg _ _ _ _ _)
   (kMH (X:=cxC X Nc sc G.objs.size d u fp pins) rfl hx hc (a5 _ _ _ _ _) (a2 _ _ _ _ _) (λ L=>l _ _ _ _ _ _ L) (a0 _ _ _ _ _)) I4 U f4 (hw _ hn) λ a7 H' s' I' q=>?_
  obtain⟨m',a1,_⟩:=I'.loc;exact⟨m',a1,λ h' a4=>⟨.ref d.heap.objs.size,H',wU Z f2 j I' a4,rfl,q⟩⟩
 exact xV (.inl ⟨el,rfl⟩) rfl rfl m (T.self _ _ _ _ _ U m)
end
open AutoSeq1 (wpAny_loadPart')
def kIH(l:av)(a:Array ar)(n:Nat)(N:Option av)(G:Array (Option ar))(x:ar)(e:ar->Bool)(j:Nat)(S:j<a.size)(C:e a[j]=true)(u:∀ m (O:m<a.size),m<j->e a[m]=false) :
  Meets (zo.«tuple.index» ⟨[.ref l,x],[]⟩) (λ A R s=>s.heap.get? l=some {cls:=.type "tuple",dict:=N,data:=.seq a n,slots:=G}/\(∀ y,y∈a->Ej A.in1 s y x (e y))/\R (.ok (.ret (.int j s.toks))) {s with toks:=s.toks+1}) :=
 .of_wp λ o w A R s h=>by
  obtain⟨hp,g,d,tk,os⟩:=s;obtain⟨H,D,h⟩:=h
  wp_walk using zq H
  have I:∀(f:Nat->Option uq×PUnit->Sem (ForInStep (Option uq×PUnit)))(Q:Option uq×PUnit->ay->Prop)(E:ar->ay->Prop)(v:ay),
    dr (model o w) A.in1 (forIn (AC 0 a.size) ((none:Option uq),Ga) f) Q E v->dr (model o w) A.in1 (forIn [:min a.size a.size] ((none:Option uq),Ga) f) Q E v:=λ f Q E v z=>by
   rw[sh];simpa[AU] using z
  refine I (λ i __s=>match a[i]? with
      | some y=>do
       if <-eqBool y x then do
         let r <-retInt (i:Nat)
         pure (yi (some r,()))
        else pure (jg (none,()))
      | _=>pure (jg (none,()))) _ _ _ ?_
  refine AZ _ (λ rest b B=>b.1=none/\B=⟨hp,g,d,tk,os⟩/\∃ i,i<=j/\rest=AC i (a.size-i)) _ ?_ ?_ _ _ ⟨rfl,rfl,0,iG _,by simp⟩
  ·rintro y rest b B ⟨M,rfl,i,J,q⟩
   have p:i<a.size:=by omega
   rw[show a.size-i=(a.size-(i+1))+1 by omega,we]at q;injection q with e1 e2
   subst e1;have L:a[y]?=some a[y]:=by simp[p]
   simp only[L];refine ai (D _ (Bm p) o w _ _ ?_);by_cases c:y=j
   ·subst c
    rw[C]
    wp_walk
    exact⟨_,rfl,h⟩
   ·rw[u y p (by omega)]
    wp_walk
    exact⟨rfl,rfl,y+1,by omega,e2⟩
  ·rintro b B ⟨M,rfl,i,J,q⟩
   have:jd ([]:List Nat)=a.size-i:=by rw[q,List.length_range']
   simp at this;omega
section
variable {X:Cx}
inductive kFX(K:az)(x:V)(vs:List V)(H:Hp)(Q:VK):Prop
 | mk:∀(l:av)(ns:List Int)(n:Int)(j:Nat),(x=.ref l)->(vs=[.int n])->(SqT K H l (ns.map V.int))->(cR ns n j)->(Q (.int j) H)->kFX K x vs H Q
def dE:MtM X "tuple.index" (kFX X.K):=by
 intro c s O H x L v M Q I o g h;obtain⟨l,N,n,j,rfl,rfl,C,i,q⟩:=h;cases o
 obtain⟨u,rfl,t,rfl⟩:=g.one;obtain⟨a,r,⟨⟨cls,G,dt,A⟩,f,b,m,d⟩,J⟩:=I.tuple C;simp only at b d;subst b d;obtain⟨h1,B,D⟩:=dM r i;refine AX F.slot_tuple_index ⟨_,f,rfl⟩ F.entry_tuple_index (F.args_tuple_index_2 _ _) (kIH l a.toArray m G A (.int n t) (fJ n) j h1 B D) ⟨f,λ y p=>(vC r n t y p).at _ _,?_⟩;exact⟨.int j,H,I.tok _,⟨_,rfl⟩,q⟩
end
def qJ{N P:List Str}{f:wc}(a:f.kind=.function:=by rfl)(b:f.isCoroutine=false:=by rfl)(c:f.isGenerator=false:=by rfl)(d:N.Nodup:=by decide +kernel)(e:N.take P.length=P:=by rfl)
  (g:∀ x∈P,f.names.lookup x=some .local\/f.names.lookup x=some .cell:=by decide +kernel) (h:∀ y∈f.names,y.2≠.free:=by decide +kernel):FnScope N P f:=⟨a,b,c,d,e,g,h⟩
def kVA{α:Type}{a:List α}(h:a.length=0):a=[]:=qb.mp h
def kPY{α:Type}{b:List α}{n:Nat}(h:b.length=n+1):∃ a r,b=a::r/\r.length=n:=by
 cases b with
 | nil=>exact nomatch h
 | cons a r=>exact⟨a,r,rfl,Nat.succ.inj h⟩
def kUZ{α:Type}{b:List α}(h:b.length=1):∃ a,b=[a]:=by
 obtain⟨a,r,rfl,g⟩:=kPY h;exact⟨a,by rw[kVA g]⟩
def kUY{α:Type}{c:List α}(h:c.length=2):∃ a b,c=[a,b]:=by
 obtain⟨a,r,rfl,g⟩:=kPY h;obtain⟨b,rfl⟩:=kUZ g;exact⟨a,b,rfl⟩
def kUX{α:Type}{d:List α}(h:d.length=3):∃ a b c,d=[a,b,c]:=by
 obtain⟨a,r,rfl,g⟩:=kPY h;obtain⟨b,c,rfl⟩:=kUY g;exact⟨a,b,c,rfl⟩
def kWH{α:Type}{f:List α}(h:f.length=4):∃ a b c d,f=[a,b,c,d]:=by
 obtain⟨a,r,rfl,g⟩:=kPY h;obtain⟨b,c,d,rfl⟩:=kUX g;exact⟨a,b,c,d,rfl⟩
section
variable {P:fb} {w:iI} {K:az} {mg:Str->Option ar} {base:iO}
def qM{n:Str}{st:qa}{N ps:List Str}{k:Nat}{sp:Sp}(X:∃ h:iO,K.In h/\h.Ns gn mg)(d:jI K n st)(S:FnScope N ps (kL st))
  (i:∀(f:av)(a:ar)(A:fq)(outer:List Env)(s:ay)(H:Hp)(c:List V)(Q:VK)(E:XK),N.Nodup->Room k (A.deeper (envOfC n (kL st) s.heap.objs.size f a))->sp c H Q E ->
   ∃ t,PSs (qW CX0 P w K mg base N n (kL st) f a A outer s H E).nox (zE st) t/\t {nx:=λ _ H'=>Q .non H',rt:=Q} (start N c) H)
  (len:∀ c H Q E,sp c H Q E->c.length=ps.length:=by intro _ _ _ _ h;first | (cases h;subst_vars;rfl) | (rcases h with h | h<;>cases h<;>subst_vars<;>rfl))
  (b:∀(kV l o:ar)(m:Option av)(a ct:ar)(j:List ar),j.length=ps.length->bindArgs (uw n n (vN st) (zE st) (kL st) .none kV l o m a ct) ⟨j,[]⟩=pure (ps.zip j):=by
   intro _ _ _ _ _ _ j hl;first | (obtain⟨_,rfl⟩:=kUZ hl;rfl) | (obtain⟨_,_,rfl⟩:=kUY hl;rfl) | (obtain⟨_,_,_,rfl⟩:=kUX hl;rfl) | (obtain⟨_,_,_,_,rfl⟩:=kWH hl;rfl) | (obtain⟨_,_,_,_,_,rfl⟩:=len5 hl;rfl) | (obtain rfl:=kVA hl;rfl)):Own.Has P w K mg base n ps (k+1) sp:=by
 obtain⟨h,x,g⟩:=X;exact kTL x g d (λ f p F=>F.ok S len λ a A outer s H c Q E=>i f a A outer s H c Q E S.nd) b
end
inductive oP(K:az)(vs:List V)(H:Hp)(Q:VK)(E:XK):Prop
 | mk (a:av) (ns:List Int):vs=[.ref a]->SqL K H a (ns.map V.int)->ns.length<=63->(∀ H',Q (.bl true) H')->oP K vs H Q E
structure Cn where
 P:fb
 w:iI
 K:az
 mg:Str->Option ar
 base:iO
instance:Nonempty Cn:=⟨⟨default,⟨λ _ _=>0,{strHash:=λ _=>0,shareClass:=id,mergeTok:=id,idOf:=λ _=>0,idOfShared:=λ _ _=>0,followText:=λ _=>true,idOfImm:=λ _=>0}⟩,default,λ _=>none,default⟩⟩
section
variable {X:Cx} {e:iS} {es:List iS} {te:TE} {t:TA} {p pos pos':Pos} {x:Str}
def pf{j k:Nat}{ps:List Str}{sp:Sp}(h:Own.Has X.prog X.w X.K X.mg X.base x ps j sp)(g:Room k X.A)(d:PA X (e::es) t)(i:j<=k:=by decide)(f:Gl X x:=by rfl)
  (b:(x == ("__debug__" : Str))=false:=by decide) (c:starEach (e::es) X.env=(false,eval e X.env)::starEach es X.env:=by rfl) (a:(backTo pos (starEach es X.env)).any (·.1)=false:=by rfl) :
  PE X (.Call (.Name x p) (e::es) [] pos) (kKY sp [] E0 t):=Own.pe_has h (g.mono i) f d b c a
def pst(i:Nat)(a:X.N.Nodup)(b:PE X e te)(hi:X.N[i]?=some x:=by rfl)(f:Loc X.env.scope x:=by first | exact yw rfl | exact EF rfl)(c:swapsWith e (some (.Name x pos')) pos.line X.env=pure false:=by rfl)
  (d:X.fn x=true\/X.env.scope.names.lookup x=some .local:=by first | exact .inl rfl | exact .inr rfl):PS X (.Assign [.Name x pos'] e pos) (kKZ te (mV i)):=kSL a hi f b c d
def pgn(i:Nat)(a:X.N.Nodup)(hi:X.N[i]?=some x:=by rfl)(c:Loc X.env.scope x:=by first | exact yw rfl | exact EF rfl)(b:X.fn x=true\/X.env.scope.names.lookup x=some .local:=by first | exact .inl rfl | exact .inr rfl):PG X (.Name x pos) (mV i):=zV a hi c b
def nV{b iter:iS}{a:List qa}{c:TI}{g:TG}{d:TS}(hi:PI X b iter c)(h:PG X b g)(j:PSs X a d)(hp:Fk (model X.prog X.w) X.A X.env X.xe:=by exact ET)(f:X.calm=true:=by rfl)
  (i:∀ x,foldedSetIterable iter X.env x=pure x:=by intro _;rfl):PS X (.For b iter a [] pos) (kUE c g d):=kSM hp f hi h j i
variable {a b c d:iS} {ta tb tc td:TE}
def pix{r:R2}(f:IxR X r)(c:PE X a ta)(g:PE X b tb)(d:kHU b:=by exact λ _ _=>rfl):PE X (.Subscript a b pos) (tOp r ta tb):=kUS f c g d
def p1(b:PE X a ta)(h1:starEach [a] X.env=(false,eval a X.env)::starEach [] X.env:=by rfl):PA X [a] (kEZ ta kRY):=kE b kW h1
def p2(d:PE X a ta)(c:PE X b tb)(h1:starEach [a,b] X.env=(false,eval a X.env)::starEach [b] X.env:=by rfl)(f:starEach [b] X.env=(false,eval b X.env)::starEach [] X.env:=by rfl):PA X [a,b] (kEZ ta (kEZ tb kRY)):=kE d (kE c kW f) h1
def nd1{a:Str}:[a].Nodup:=fu.mpr ⟨si,yo⟩
def nd2{a b:Str}(h:a≠b):[a,b].Nodup:=fu.mpr ⟨λ m=>h (bz.mp m),nd1⟩
def nd3{a b c:Str}(h:a≠b)(h':a≠c)(d:b≠c):[a,b,c].Nodup:=fu.mpr ⟨λ m=>(eK.mp m).elim h λ m=>h' (bz.mp m),nd2 d⟩
def pgc(i:Nat)(a:X.N.Nodup:=by first | exact nd1 | exact nd2 (by decide) | exact nd3 (by decide) (by decide) (by decide))(hi:X.N[i]?=some x:=by rfl)(c:Loc X.env.scope x:=by first | exact yw rfl | exact EF rfl)(b:X.fn x=true\/X.env.scope.names.lookup x=some .local:=by first | exact .inl rfl | exact .inr rfl):PG X (.Name x pos) (mV i):=zV a hi c b
section
variable {o:iS} {to:TE} {r:V->List V->Hp->VK->Prop} {apos cpos:Pos}
def jQ{n:Str}{id:String}(d:Slot "list" n id)(g:typeOf (.builtin id)=pure (.type "method_descriptor"))(l:MtR X id r)(h:PE X o to)(i:PA X (e::es) t)
  (c:attributeBase o n X.env (eval o X.env)=eval o X.env:=by rfl)
  (f:((backTo cpos (starEach (e::es) X.env)).all (λ x=>!x.1) && (backToKw cpos (keywordEach [] X.env)).all (λ x=>x.1.isSome)
   && decide ((e::es).length+([]:List EY).length+(if([]:List EY).isEmpty then 0 else 1)<30))=true:=by rfl)
  (b:(apos.endLine == cpos.line)=true:=by rfl) (j:starEach (e::es) X.env=(false,eval e X.env)::starEach es X.env:=by rfl) (a:(backTo cpos (starEach es X.env)).any (·.1)=false:=by rfl) :
  PE X (.Call (.Attribute o n apos) (e::es) [] cpos) (tBM X.K "list" r to t):=kBA PySem.F.plainAttrs_list d g l h i c f b j a
end
end
def snoc{α:Type}{xs:List α}{x y:α}{i:Nat}(h:(xs++[x])[i]?=some y):(i<xs.length/\xs[i]?=some y)\/(i=xs.length/\some x=some y):=by
 rcases iV i xs.length with c | c
 ·rw[bb c]at h
  exact .inl ⟨c,h⟩
 ·have e:i=xs.length:=by
   have:=(ao.mp h).1;rw[bu,fk]at this;omega
  rw[e,dq]at h;exact .inr ⟨e,h⟩
def fZ{X:Cx}{st:qa}:PS X st (λ _ _ _=>False):=λ _ _ _ _ _ _ h=>h.elim
section
variable {X:Cx} {tg iter kx vx:iS} {ifs:List iS} {sc:wc} {pos:Pos} {Nc:List Str} {js:List (Option Nat)} {wi:TI}
def pX(c b:iS)(env:Env)(a:ar):Sem Unit:=do
 let kv <-eval c env
 let vv <-holding [kv] (eval b env)
 match a with
 | .ref d=>do
  standAt (have __src:=c.pos;{line:=__src.line,col:=__src.col,endLine:=b.pos.endLine,endCol:=b.pos.endCol})
  holding [kv,vv] (dictSet d kv vv)
 | _=>unsupported "internal:dictcomp"
def rH(f g d iter:iS)(a:List iS)(h:wc)(b:Pos)(it c:ar)(env:Env) :
  compTurn (.DictComp f g [⟨d,iter,a,0⟩] h b) 0 it c env=(standAt iter.pos >>= λ _=>pyNext it >>= λ r=>match r with
   | none=>pure (.done .next)
   | some v=>letOwnedTupleGo d it v >>= λ _=>assign d env v >>= λ _=>xZ a env (pX f g env c) (.compLoop (.DictComp f g [⟨d,iter,a,0⟩] h b) 0 it c env)):=by rfl
def tDC(js:List (Option Nat))(c:TI)(g:TG)(bd:av->TB):TE:=λ b H Q=>c b H λ J a=>∀ D,a D=none->uG J g (bd D) (λ _ d=>Q (.ref D) d) (dN js b) (upd a D (.dK []))
def kGC{g:TG}{bd:av->TB}(hx:X.xe=λ _ _=>False)(hc:X.calm=true)(hi:PI X tg iter wi)(S:CS sc X.env.scope)(a3:cL js Nc X.N sc.names=true)
  (hg:∀ C s₂ H₂ fp pins,PG (cxC X Nc sc C s₂ H₂ fp pins) tg g)
  (l:∀ C s₂ H₂ fp pins D L,PTl (cxC X Nc sc C s₂ H₂ fp pins) (xZ ifs (cxC X Nc sc C s₂ H₂ fp pins).env (pX kx vx (cxC X Nc sc C s₂ H₂ fp pins).env (.ref D)) L) L (bd D))
  (hs:∀ x,foldedSetIterable iter X.env x=pure x:=by intro _;rfl) :
  PE X (.DictComp kx vx [⟨tg,iter,ifs,0⟩] sc pos) (tDC js wi g bd):=by
 intro pins s σ H Q I h;rw[Do];have a1:closureFor sc X.env=pure (aK sc X.env):=yL λ y hy hf=>I.ok.has y.1 (.inl (S.free y hy hf));refine ox (use:=none) rfl hs a1 S.kind S.names (thn (hi pins s σ H _ I h) λ v s1 h1=>thn h1 λ a5 d O=>?_);obtain⟨it,fp,tn,J,U,e,I2,T,Y,f2,hw⟩:=O;subst e;have r:∀ b∈fp,b<d.heap.objs.size:=λ b l=>let ⟨o,ho,_⟩:=T.obj _ _ Y b l;cg ho;refine jh (sd S.nocell (by intro y hy;simp at hy) (λ i f a=>?_) S.kind);dsimp only at f a ⊢;generalize n:d.heap.push {cls:=.type "dict",dict:=none,data:=.dict #[]}=G at f a ⊢;have a6:G.objs.size=d.heap.objs.size+1:=by rw[<-n,ip]
 have M:d.heap.objs.size≠G.objs.size:=by omega
 have j:d.heap.objs.size<=G.objs.size:=by omega
 have B:∀ b o,d.heap.get? b=some o->i.get? b=some o:=λ b o e=>a.extBut b o (eA (cv (cg e) j)) (au _ (n ▸ au _ e));have u:i.get? d.heap.objs.size=some {cls:=.type "dict",dict:=none,data:=.dict #[]}:=a.extBut _ _ M (au _ (n ▸ cj _ rfl))
 have new:ObjOk X.prog X.w (upd U d.heap.objs.size (.dK [])) i d.heap.objs.size (.dK []):=by
  refine⟨iG _,beq_eq_false_iff_ne.mpr (sj (eA I2.big)),[],.nil,?_⟩;obtain⟨o,es,ep,h1,rest⟩:=EU (knd:=qG X.prog X.w) d.heap;have O:(d.heap.push {cls:=.type "dict",dict:=none,data:=.dict #[]}).get? d.heap.objs.size=some {cls:=.type "dict",dict:=none,data:=.dict #[]}:=cj _ rfl;have h3:=h1.symm.trans O;exact⟨o,es,ep,u.trans h3.symm,rest⟩
 have I4:=wS (js:=js) (Nc:=Nc) (tk:=d.toks+([]:List (Str×ar)).length) I2 S f2 r a3 j (be _) M B f new;have hn:U d.heap.objs.size=none:=I2.fresh
 have f4:∀ b∈fp,yX (cxC X Nc sc G.objs.size d U fp pins) [] (upd U d.heap.objs.size (.dK [])) b:=λ b l=>by
  obtain⟨h0,h1,O,h3,h4,h5⟩:=f2 b l;refine⟨?_,eA (cv (r b l) j),λ z=>?_,.inl l,λ x c z=>?_,λ p hp=>?_⟩
  ·rw[kM (eA (r b l))];exact h0
  ·rcases eK.mp (I2.stkSub b z) with q | q
   ·exact h1 q
   ·exact O q
  ·exact h4 x c (cK sc.names [] (λ z=>nomatch z) z)
  ·rcases cf.mp hp with z | z
   ·exact h5 p z
   ·exact absurd z (by simp)
 have Z:tn 0 i:=T.keep _ _ _ Y λ b l o e=>B b o e
 have m:codeAny (model X.prog X.w) X.A (.compLoop (.DictComp kx vx [⟨tg,iter,ifs,0⟩] sc pos) 0 (.ref it) (.ref d.heap.objs.size) (compEnvC sc (aK sc X.env) G.objs.size X.env))
   (compPost (model X.prog X.w) X.A X.xe none (EP X pins σ Q) (.ref d.heap.objs.size) G.objs.size) {d with heap:=i,toks:=d.toks+([]:List (Str×ar)).length}:=by
  refine yK (X:=cxC X Nc sc G.objs.size d U fp pins) (.inr ⟨kx,vx,rfl⟩) hx hc (rH _ _ _ _ _ _ _ _ _ _) T (hg _ _ _ _ _) (l _ _ _ _ _ _ _) I4 Z f4 (hw _ hn) λ a4 H' s' I' q=>?_;obtain⟨m',a0,_⟩:=I'.loc;exact⟨m',a0,λ h' a2=>⟨.ref d.heap.objs.size,H',wU I2 f2 j I' a2,rfl,q⟩⟩
 exact xV (.inr ⟨kx,vx,rfl⟩) rfl rfl m (T.self _ _ _ _ _ Z m)
def cF{prog:fb}{w:iI}{A:fq}{E:ar->ay->Prop}{s:ay}{t f:av}{a:Array ar}{l m:ar}{lo hi:Option Int}{Q:ar->ay->Prop}(b:Eb s.heap t a)(i:s.heap.IsSliceOf f l m .none)(pl:CM l lo)(o:CM m hi)
  (j:HT.sIx a.size 0 lo=0/\HT.sIx a.size a.size hi=a.size) (h:Q (.ref t) s):dr (model prog w) A (getItem (.ref t) (.ref f)) Q E s:=by
 obtain⟨os,c,d,n⟩:=id i;have g:s.TypeIs (.ref f) "slice":=⟨os,c,d⟩;unfold getItem
 try with_reducible refine mj ?_
 first | refine ai (bj ?_) | skip
 refine ai (Dg b.typeIs (by decide) ?_)
 refine ai (ka (name:=xa "__getitem__") b.typeIs jt
  (mo jt b.typeIs DF ?_ (DR _ _)))
 show dr _ _ (BP (.ref t) >>= _) _ _ s;refine ai (tupleItemsOf_ b ?_);refine ai (AH g ?_);rw[if_pos (by decide)];refine ai (HT.sliceApplied_gen i pl o ?_);show dr _ _ (if(((HT.sIx a.size 0 lo:Nat):Int) == 0 && (1:Int) == 1 && (HT.sIx a.size a.size hi-HT.sIx a.size 0 lo) == a.size)=true then _ else _) _ _ s;rw[if_pos (by rw[j.1,j.2];simp)];unfold Er
 first
  | refine ai (ai (AH b.typeIs (bj ?_)))
  | refine ai (AH b.typeIs (bj ?_))
 rw[if_pos (by decide)];exact ai (xb (bj ⟨_,rfl,bj h⟩))
inductive kSH(K:az)(x:V)(lo:Option Int)(hi:Option Int)(H:Hp)(Q:VK):Prop
 | mk:∀ a xs,(x=.ref a)->(SqT K H a xs)->((HT.sIx xs.length 0 lo=0/\HT.sIx xs.length xs.length hi=xs.length))->(Q (.ref a) H)->kSH K x lo hi H Q
def kPB:SlR X (kSH X.K):=by
 intro f s B H x v C y lo A u Q I j l i o h;obtain⟨a,m,rfl,n,g,q⟩:=h;cases j
 obtain⟨c,r,d,p⟩:=I.tuple n;have b:c.toArray.size=m.length:=by rw[fe];exact r.length.symm
 refine⟨"tuple",_,jt.lookup,d.typeIs,?_⟩;exact cF d l i o (by rw[b];exact g) ⟨.ref a,H,I,rfl,q⟩
def kWG(K:az):V->Option Int->Option Int->Hp->VK->Prop:=λ x lo a H Q=>kSG K x lo a H Q\/kSH K x lo a H Q
def kPA:SlR X (kWG X.K):=sl_tup.or kPB
end
end L2
namespace Cyc
def Adj:List Nat->Nat->Nat->Prop
 | x::y::r,a,b=>(a=x/\b=y)\/Adj (y::r) a b
 | _,_,_=>False
def Nx(row:List Nat)(a b:Nat):Prop:=Adj (row++row.head?.toList) a b
def kHS(x a b:Nat):¬ Adj [x] a b:=id
def cP(x y:Nat)(r:List Nat)(a b:Nat):Adj (x::y::r) a b↔(a=x/\b=y)\/Adj (y::r) a b:=Bn
theorem jB:∀(l:List Nat)(x:Nat)(r:List Nat)(a b:Nat),Adj (l++x::r) a b↔Adj (l++[x]) a b\/Adj (x::r) a b
 | [],x,r,a,b=>⟨.inr,λ h=>h.elim (λ z=>(kHS x a b z).elim) id⟩
 | [y],x,r,a,b=>by
  show(a=y/\b=x)\/Adj (x::r) a b↔((a=y/\b=x)\/Adj [x] a b)\/Adj (x::r) a b;have:=kHS x a b;exact⟨λ h=>h.elim (λ z=>.inl (.inl z)) .inr,λ h=>h.elim (λ z=>z.elim .inl λ q=>(this q).elim) .inr⟩
 | y::z::l,x,r,a,b=>by
  have c:=jB (z::l) x r a b;show(a=y/\b=z)\/Adj (z::l++x::r) a b↔((a=y/\b=z)\/Adj (z::l++[x]) a b)\/Adj (x::r) a b;rw[c];exact⟨λ h=>h.elim (λ q=>.inl (.inl q)) λ q=>q.elim (λ q=>.inl (.inr q)) .inr,λ h=>h.elim (λ q=>q.elim .inl λ q=>.inr (.inl q)) λ q=>.inr (.inr q)⟩
theorem qH:∀{l:List Nat}{a b:Nat},Adj l a b->a∈l/\b∈l.tail
 | [],_,_,h=>h.elim
 | [_],_,_,h=>h.elim
 | x::y::r,a,b,h=>by
  rcases h with⟨rfl,rfl⟩ | h
  ·exact⟨eW,eW⟩
  ·have:=qH h
   exact⟨dh _ this.1,dh _ this.2⟩
def sU(x:Nat)(r:List Nat)(a b:Nat):Nx (x::r) a b↔Adj (x::r++[x]) a b:=Bn
def jH(A C:List Nat)(a b:Nat):Nx (A++C) a b↔Nx (C++A) a b:=by
 cases A with
 | nil=>rw[kb,iU]
 | cons a0 A' =>
  cases C with
  | nil=>rw[kb,iU]
  | cons c0 C' =>
   have d:Nx (a0::A'++c0::C') a b↔Adj ((a0::A')++c0::(C'++[a0])) a b:=by
    show Adj ((a0::A'++c0::C')++[a0]) a b↔_;rw[bp];exact Bn
   have c:Nx (c0::C'++a0::A') a b↔Adj ((c0::C')++a0::(A'++[c0])) a b:=by
    show Adj ((c0::C'++a0::A')++[c0]) a b↔_;rw[bp];exact Bn
   rw[d,c,jB (a0::A') c0,jB (c0::C') a0];exact Or.comm
def zY(v:Nat)(R:List Nat)(a b:Nat):Nx (v::R) a b↔(a=v/\b=(R++[v]).headD 0)\/Adj (R++[v]) a b:=by
 rw[sU]
 cases R with
 | nil=>exact Bn
 | cons y r=>exact Bn
theorem xY:∀{R:List Nat}{v a b:Nat},v∉R->Adj (R++[v]) a b->a≠v
 | [],_,_,_,_,h=>h.elim
 | x::r,v,a,b,hv,h=>by
  have c:v∉r:=λ z=>hv (dh _ z);have d:x≠v:=λ z=>hv (by rw[z];exact eW)
  cases r with
  | nil =>
   rcases h with⟨rfl,_⟩ | h
   ·exact d
   ·exact h.elim
  | cons y r' =>
   rcases h with⟨rfl,_⟩ | h
   ·exact d
   ·exact xY c h
def kSW{A B:List Nat}{v w:Nat}(nd:(A++v::B).Nodup)(f:w∉A++v::B)(a b:Nat) :
  Nx (A++v::w::B) a b↔(a=v/\b=w)\/(a=w/\Nx (A++v::B) v b)\/(a≠v/\Nx (A++v::B) a b):=by
 rw[jH A (v::w::B),jH A (v::B),jH A (v::B)];simp only[ji]
 have c:v∉B++A:=λ z=>by
  rw[cu]at nd;rcases cf.mp z with z | z
  ·exact(fu.mp nd.2.1).1 z
  ·exact nd.2.2 v z v eW rfl
 have j:w≠v:=λ z=>f (by rw[z];simp);generalize l:B++A=R at c;rw[zY,zY,zY];have i:(w::R++[v]).headD 0=w:=rfl
 have g:Adj (w::R++[v]) a b↔(a=w/\b=(R++[v]).headD 0)\/Adj (R++[v]) a b:=by
  cases R with
  | nil=>exact Bn
  | cons y r=>exact Bn
 rw[i,g];constructor
 ·rintro(h | h | h)
  ·exact .inl h
  ·exact .inr (.inl ⟨h.1,.inl ⟨rfl,h.2⟩⟩)
  ·exact .inr (.inr ⟨xY c h,.inr h⟩)
 ·rintro(h | ⟨h,d⟩ | ⟨h,d⟩)
  ·exact .inl h
  ·rcases d with⟨_,z⟩ | z
   ·exact .inr (.inl ⟨h,z⟩)
   ·exact(xY c z rfl).elim
  ·rcases d with⟨z,_⟩ | z
   ·exact(h z).elim
   ·exact .inr (.inr z)
theorem fQ:∀{l:List Nat}{a f b:Nat},l.tail.Nodup->Adj l a b->Adj l f b->a=f
 | [],_,_,_,_,h,_=>h.elim
 | [_],_,_,_,_,h,_=>h.elim
 | x::y::r,a,f,b,nd,h,d=>by
  have c:(y::r).Nodup:=nd;rcases h with⟨rfl,rfl⟩ | h
  ·rcases d with⟨rfl,_⟩ | d
   ·rfl
   ·exact((fu.mp c).1 (qH d).2).elim
  ·rcases d with⟨rfl,rfl⟩ | d
   ·exact((fu.mp c).1 (qH h).2).elim
   ·exact fQ (l:=y::r) (fu.mp c).2 h d
def uI{row:List Nat}{v:Nat}(h:v∈row):∃ A B,row=A++v::B:=rm h
def aE{A B:List Nat}{v:Nat}(nd:(A++v::B).Nodup):v∉B++A/\(B++A).Nodup:=by
 rw[cu]at nd;obtain⟨g,i,c⟩:=nd;obtain⟨d,h⟩:=fu.mp i;refine⟨λ z=>?_,?_⟩
 ·rcases cf.mp z with z | z
  ·exact d z
  ·exact c v z v eW rfl
 ·rw[cu]
  exact⟨h,g,λ a f b j e=>c b j a (dh _ f) e.symm⟩
def kT{row:List Nat}{a b:Nat}(h:Nx row a b):a∈row/\b∈row:=by
 cases row with
 | nil=>exact h.elim
 | cons x r =>
  have q:=qH h;constructor
  ·rcases cf.mp q.1 with z | z
   ·exact z
   ·exact eK.mpr (.inl (by simpa using z))
  ·rcases cf.mp q.2 with z | z
   ·exact dh _ z
   ·exact eK.mpr (.inl (by simpa using z))
def jS{row:List Nat}{a b c:Nat}(nd:row.Nodup)(h:Nx row a b)(h':Nx row a c):b=c:=by
 obtain⟨A,B,rfl⟩:=uI (kT h).1;rw[jH]at h h';simp only[ji]at h h';obtain⟨d,f⟩:=aE nd;rw[zY]at h h';rcases h with⟨_,rfl⟩ | h
 ·rcases h' with⟨_,rfl⟩ | h'
  ·rfl
  ·exact(xY d h' rfl).elim
 ·exact(xY d h rfl).elim
def yD{row:List Nat}{a d b:Nat}(nd:row.Nodup)(h:Nx row a b)(h':Nx row d b):a=d:=by
 obtain⟨A,B,rfl⟩:=uI (kT h).2;rw[jH]at h h';simp only[ji]at h h';obtain⟨f,i⟩:=aE nd;rw[sU]at h h';refine fQ ?_ h h';show(B++A++[b]).Nodup;rw[cu];exact⟨i,by simp,λ x g y c e=>f (by simp at c;rw[<-c,<-e];exact g)⟩
def kSX{A B:List Nat}{q:Nat}(nd:(A++q::B).Nodup)(a b:Nat) :
  Nx (A++B) a b↔(a≠q/\b≠q/\Nx (A++q::B) a b)\/(a≠q/\b≠q/\Nx (A++q::B) a q/\Nx (A++q::B) q b):=by
 rw[jH A B,jH A (q::B),jH A (q::B),jH A (q::B)];simp only[ji];obtain⟨i,n⟩:=aE nd;generalize B++A=R at i n;clear nd
 cases R with
 | nil =>
  constructor
  ·intro h;exact h.elim
  ·rintro(⟨h1,f,g⟩ | ⟨h1,f,g,_⟩)
   ·rcases g with⟨z,_⟩ | z
    ·exact(h1 z).elim
    ·exact z.elim
   ·rcases g with⟨z,_⟩ | z
    ·exact(h1 z).elim
    ·exact z.elim
 | cons x T =>
  rw[zY q (x::T) a b,zY q (x::T) a q,zY q (x::T) q b,sU x T];have m:(x::T++[q]).headD 0=x:=rfl;rw[m]
  have l:x≠q:=λ z=>i (by rw[z];exact eW)
  have key:∀(T:List Nat)(x z a b:Nat),Adj (x::T++[z]) a b↔Adj (x::T) a b\/(a=(x::T).getLast (by simp)/\b=z):=by
   intro T
   induction T with
   | nil=>intro x z a b;exact⟨λ h=>h.elim .inr λ q=>q.elim,λ h=>h.elim (λ q=>q.elim) .inl⟩
   | cons y r ih =>
    intro x z a b;show(a=x/\b=y)\/Adj (y::r++[z]) a b↔((a=x/\b=y)\/Adj (y::r) a b)\/_;rw[ih y z a b,List.getLast_cons (Am y r)];exact or_assoc.symm
  rw[key T x x,key T x q,key T x q,key T x q]
  have mem:∀{c d},Adj (x::T) c d->c≠q/\d≠q:=λ{c d} h=>by
   have:=qH h;exact⟨λ z=>i (z ▸ this.1),λ z=>i (z ▸ dh _ this.2)⟩
  have j:(x::T).getLast (by simp)≠q:=λ z=>i (z ▸ List.getLast_mem _);constructor
  ·rintro(h | ⟨h1,f⟩)
   ·exact .inl ⟨(mem h).1,(mem h).2,.inr (.inl h)⟩
   ·refine .inr ⟨by rw[h1];exact j,by rw[f];exact l,.inr (.inr ⟨h1,rfl⟩),.inl ⟨rfl,f⟩⟩
  ·rintro(⟨h1,f,g⟩ | ⟨h1,f,g,p⟩)
   ·rcases g with⟨z,_⟩ | z | ⟨_,z⟩
    ·exact(h1 z).elim
    ·exact .inl z
    ·exact(f z).elim
   ·have s:a=(x::T).getLast (by simp):=by
     rcases g with⟨z,_⟩ | z | ⟨z,_⟩
     ·exact(h1 z).elim
     ·exact((mem z).2 rfl).elim
     ·exact z
    have o:b=x:=by
     rcases p with⟨_,z⟩ | z | ⟨z,_⟩
     ·exact z
     ·exact((mem z).1 rfl).elim
     ·exact(j z.symm).elim
    exact .inr ⟨s,o⟩
end Cyc
namespace Tri
open Cyc
abbrev Rows:=List (List Nat)
def R(L:Rows)(q a b:Nat):Prop:=∃ row,L[q]?=some row/\Nx row a b
def E(L:Rows)(a b:Nat):Prop:=∃ row,L[a]?=some row/\b∈row
inductive Reach(L:Rows):Nat->Nat->Prop
 | here (a:Nat):Reach L a a
 | more {a b c:Nat}:Reach L a b->E L b c->Reach L a c
def Reach.trans{L:Rows}{a b c:Nat}(h:Reach L a b)(h':Reach L b c):Reach L a c:=by
 induction h' with
 | here=>exact h
 | more _ e ih=>exact .more ih e
theorem Reach.by{L c:Rows}(h:∀ a b,E L a b->Reach c a b){a b:Nat}(r:Reach L a b):Reach c a b:=by
 induction r with
 | here=>exact .here _
 | more _ e ih=>exact ih.trans (h _ _ e)
structure Good(L:Rows):Prop where
 three:3<=L.length
 ne:∀(p:Nat)(row:List Nat),L[p]?=some row->row≠[]
 nd:∀(p:Nat)(row:List Nat),L[p]?=some row->row.Nodup
 rng:∀(p:Nat)(row:List Nat)(a:Nat),L[p]?=some row->a∈row->a<L.length/\a≠p
 tri:∀ q a b,R L q a b->R L a b q
 con:∀ p,p<L.length->Reach L 0 p
 tot:(L.map jd).sum+12=6*L.length
def lZ{L:Rows}{p:Nat}{row:List Nat}(hp:p<L.length)(x a b:Nat):R (L.set p row) x a b↔(x=p/\Nx row a b)\/(x≠p/\R L x a b):=by
 unfold R;by_cases h:x=p
 ·subst h
  simp[ki hp]
 ·simp[eZ (sj h),h]
def kUN{L:Rows}{row:List Nat}(x a b:Nat):R (L++[row]) x a b↔R L x a b\/(x=L.length/\Nx row a b):=by
 unfold R;rcases ya x L.length with h | h | h
 ·rw[bb h]
  constructor
  ·exact .inl
  ·rintro(z | ⟨z,_⟩)
   ·exact z
   ·omega
 ·subst h
  rw[bf (be _),uh (be _)];simp
 ·rw[uh (by simp;omega),uh (by omega)]
  constructor
  ·rintro⟨_,z,_⟩;cases z
  ·rintro(⟨_,z,_⟩ | ⟨z,_⟩)
   ·cases z
   ·omega
def zQ{L:Rows}{q a b:Nat}(h:R L q a b):E L q a/\E L q b:=by
 obtain⟨row,e,n⟩:=h;exact⟨⟨row,e,(kT n).1⟩,⟨row,e,(kT n).2⟩⟩
def yA{L:Rows}(G:Good L){q a b d:Nat}(h:R L q a b)(h':R L q a d):b=d:=by
 obtain⟨row,e,n⟩:=h;obtain⟨c,f,g⟩:=h';rw[e]at f
 cases f
 exact jS (G.nd q row e) n g
def kMC{L:Rows}(G:Good L){q a d b:Nat}(h:R L q a b)(h':R L q d b):a=d:=by
 obtain⟨row,e,n⟩:=h;obtain⟨c,f,g⟩:=h';rw[e]at f
 cases f
 exact yD (G.nd q row e) n g
def wQ{L:Rows}(G:Good L){q a b:Nat}(h:R L q a b):q<L.length/\a<L.length/\b<L.length/\a≠q/\b≠q:=by
 obtain⟨row,e,n⟩:=h;have m:=kT n;have:=G.rng q row a e m.1;have:=G.rng q row b e m.2;have:q<L.length:=(ao.mp e).1;omega
def kRI{row:List Nat}{b:Nat}(h:b∈row):∃ a,Nx row a b:=by
 obtain⟨A,B,rfl⟩:=uI h
 have key:∀(R:List Nat),∃ a,Nx (b::R) a b:=by
  intro R
  cases R with
  | nil=>exact⟨b,.inl ⟨rfl,rfl⟩⟩
  | cons y r =>
   have:∀(r:List Nat)(y:Nat),∃ a,Adj (y::r++[b]) a b:=by
    intro r
    induction r with
    | nil=>intro y;exact⟨y,.inl ⟨rfl,rfl⟩⟩
    | cons z r ih=>intro y;obtain⟨a,q⟩:=ih z;exact⟨a,.inr q⟩
   obtain⟨a,q⟩:=this r y;exact⟨a,.inr q⟩
 obtain⟨a,q⟩:=key (B++A);exact⟨a,(jH A (b::B) a b).mpr q⟩
def dD{row:List Nat}{a:Nat}(h:a∈row):∃ b,Nx row a b:=by
 obtain⟨A,B,rfl⟩:=uI h;refine⟨(B++A++[a]).headD 0,(jH A (a::B) _ _).mpr ?_⟩;exact(zY a (B++A) a _).mpr (.inl ⟨rfl,rfl⟩)
def Good.sym{L:Rows}(G:Good L){a b:Nat}(h:E L a b):E L b a:=by
 obtain⟨row,e,m⟩:=h;obtain⟨c,n⟩:=dD m;have:=G.tri a b c ⟨row,e,n⟩;exact(zQ this).2
def jE(row:List Nat)(v w:Nat):List Nat:=row.take (row.idxOf v+1)++w::row.drop (row.idxOf v+1)
def jU(row:List Nat)(q:Nat):List Nat:=row.eraseIdx (row.idxOf q)
def dI{A B:List Nat}{v:Nat}(h:v∉A):(A++v::B).idxOf v=A.length:=by
 rw[yc,if_neg h];simp
def jZ{row:List Nat}{v:Nat}(h:v∈row)(nd:row.Nodup):∃ A B,row=A++v::B/\v∉A/\v∉B:=by
 obtain⟨A,B,rfl⟩:=uI h;have q:=aE nd;exact⟨A,B,rfl,λ z=>q.1 (cm _ z),λ z=>q.1 (dc _ z)⟩
def sY{A B:List Nat}{v w:Nat}(h:v∉A):jE (A++v::B) v w=A++v::w::B:=by
 unfold jE;rw[dI h];have e:A++v::B=(A++[v])++B:=by simp
 rw[e,yj (by simp),Ci (by simp)];simp
def tL{A B:List Nat}{q:Nat}(h:q∉A):jU (A++q::B) q=A++B:=by
 unfold jU;rw[dI h,AE (be _)];simp
def xP{row:List Nat}{v w:Nat}(h:v∈row):(jE row v w).length=row.length+1:=by
 unfold jE;simp only[bu,de,iQ,iP];have:=gj h;omega
def kCB{row:List Nat}{q:Nat}(h:q∈row):(jU row q).length+1=row.length:=by
 unfold jU;have:=gj h;rw[List.length_eraseIdx_of_lt this];omega
def xN{row:List Nat}{v w x:Nat}(h:v∈row)(nd:row.Nodup):x∈jE row v w↔x∈row\/x=w:=by
 obtain⟨A,B,rfl,hA,hB⟩:=jZ h nd;rw[sY hA];simp only[cf,eK]
 grind
def wZ{row:List Nat}{q x:Nat}(h:q∈row)(nd:row.Nodup):x∈jU row q↔x∈row/\x≠q:=by
 obtain⟨A,B,rfl,hA,hB⟩:=jZ h nd;rw[tL hA];simp only[cf,eK]
 grind
def cC{row:List Nat}{v w:Nat}(h:v∈row)(nd:row.Nodup)(a:w∉row):(jE row v w).Nodup:=by
 obtain⟨A,B,rfl,hA,hB⟩:=jZ h nd;rw[sY hA];simp only[cu,fu,eK,cf]at nd a ⊢
 grind
def kGY{row:List Nat}{q:Nat}(h:q∈row)(nd:row.Nodup):(jU row q).Nodup:=by
 obtain⟨A,B,rfl,hA,hB⟩:=jZ h nd;rw[tL hA];simp only[cu,fu,eK]at nd ⊢
 grind
def bU{row:List Nat}{v w:Nat}(h:v∈row)(nd:row.Nodup)(c:w∉row)(a b:Nat):Nx (jE row v w) a b↔(a=v/\b=w)\/(a=w/\Nx row v b)\/(a≠v/\Nx row a b):=by
 obtain⟨A,B,rfl,hA,hB⟩:=jZ h nd;rw[sY hA];exact kSW nd c a b
def kGI{row:List Nat}{q:Nat}(h:q∈row)(nd:row.Nodup)(a b:Nat):Nx (jU row q) a b↔(a≠q/\b≠q/\Nx row a b)\/(a≠q/\b≠q/\Nx row a q/\Nx row q b):=by
 obtain⟨A,B,rfl,hA,hB⟩:=jZ h nd;rw[tL hA];exact kSX nd a b
theorem yZ:∀(L:Rows)(p:Nat)(row new:List Nat),L[p]?=some row->((L.set p new).map jd).sum+row.length=(L.map jd).sum+new.length
 | [],p,row,new,h=>by simp at h
 | x::r,0,row,new,h=>by
  simp at h;subst h;simp;omega
 | x::r,p+1,row,new,h=>by
  simp at h;have q:=yZ r p row new h;simp only[List.set_cons_succ,gh,Ah];omega
def bI(L:Rows)(p q r:Nat)(b a c:List Nat):Rows :=
 ((L.set p (jE b q L.length)).set q (jE a r L.length)).set r (jE c p L.length)++[[p,q,r]]
def nx3(p q r a b:Nat):Nx [p,q,r] a b↔(a=p/\b=q)\/(a=q/\b=r)\/(a=r/\b=p):=by
 show((a=p/\b=q)\/(a=q/\b=r)\/(a=r/\b=p)\/False)↔_;simp
def wB{L:Rows}{p:Nat}{new:List Nat}(hp:p<L.length){x:Nat}{row:List Nat}(h:(L.set p new)[x]?=some row):(x=p/\row=new)\/(x≠p/\L[x]?=some row):=by
 by_cases e:x=p
 ·subst e
  rw[ki hp]at h;exact .inl ⟨rfl,(bq h).symm⟩
 ·rw[eZ (sj e)]at h
  exact .inr ⟨e,h⟩
def nA{L:Rows}{p:Nat}{new:List Nat}(hp:p<L.length)(x b:Nat):E (L.set p new) x b↔(x=p/\b∈new)\/(x≠p/\E L x b):=by
 unfold E;by_cases h:x=p
 ·subst h
  simp[ki hp]
 ·simp[eZ (sj h),h]
def kTS{L:Rows}{row:List Nat}{x b:Nat}(h:E L x b):E (L++[row]) x b:=by
 obtain⟨r,e,m⟩:=h;exact⟨r,by rw[bb (ao.mp e).1];exact e,m⟩
section
variable {L:Rows} {p q r:Nat} {rp rq rr:List Nat}
def kOO(G:Good L)(hp:L[p]?=some rp)(B:L[q]?=some rq)(y:L[r]?=some rr)(f:Nx rq r p):Good (bI L p q r rp rq rr):=by
 have Fq:R L q r p:=⟨rq,B,f⟩;have Fr:R L r p q:=G.tri _ _ _ Fq;have Fp:R L p q r:=G.tri _ _ _ Fr;have O:Nx rr p q:=by obtain⟨x,e,n⟩:=Fr;rw[y]at e;cases e;exact n
 have S:Nx rp q r:=by obtain⟨x,e,n⟩:=Fp;rw[hp]at e;cases e;exact n
 obtain⟨Y,lr,lp,o,j⟩:=wQ G Fq;obtain⟨-,-,-,l,-⟩:=wQ G Fr;have J:=G.nd p rp hp;have I:=G.nd q rq B;have H:=G.nd r rr y;have U:L.length∉rp:=λ z=>rj _ (G.rng p rp _ hp z).1;have Z:L.length∉rq:=λ z=>rj _ (G.rng q rq _ B z).1;have X:L.length∉rr:=λ z=>rj _ (G.rng r rr _ y z).1;have mp:=(kT S).1;have D:=(kT f).1;have C:=(kT O).1;have T:p<L.length:=lp;have N:q<(L.set p (jE rp q L.length)).length:=by simpa using Y
 have Q:r<((L.set p (jE rp q L.length)).set q (jE rq r L.length)).length:=by simpa using lr
 have len:(bI L p q r rp rq rr).length=L.length+1:=by simp[bI]
 have g:(((L.set p (jE rp q L.length)).set q (jE rq r L.length)).set r (jE rr p L.length)).length=L.length:=by simp
 have look:∀(x:Nat)(row:List Nat),(bI L p q r rp rq rr)[x]?=some row->(x=L.length/\row=[p,q,r])\/(x=r/\row=jE rr p L.length)\/(x=q/\row=jE rq r L.length)\/(x=p/\row=jE rp q L.length)\/(x≠p/\x≠q/\x≠r/\L[x]?=some row):=by
  intro x row h;unfold bI at h;by_cases hx:x<L.length
  ·rw[bb (by rw[g];exact hx)]at h
   rcases wB Q h with z | ⟨n3,h⟩
   ·exact .inr (.inl z)
   ·rcases wB N h with z | ⟨n2,h⟩
    ·exact .inr (.inr (.inl z))
    ·rcases wB T h with z | ⟨n1,h⟩
     ·exact .inr (.inr (.inr (.inl z)))
     ·exact .inr (.inr (.inr (.inr ⟨n1,n2,n3,h⟩)))
  ·rw[bf (by rw[g];omega),g]at h
   have:x-L.length=0:=by
    rcases Nat.eq_zero_or_pos (x-L.length) with z | z
    ·exact z
    ·rw[uh (by simp;omega)]at h;cases h
   rw[this]at h;exact .inl ⟨by omega,(bq h).symm⟩
 have s:∀ x a b,R (bI L p q r rp rq rr) x a b↔(x=L.length/\((a=p/\b=q)\/(a=q/\b=r)\/(a=r/\b=p)))\/(x=r/\((a=p/\b=L.length)\/(a=L.length/\b=q)\/(a≠p/\R L r a b)))\/(x=q/\((a=r/\b=L.length)\/(a=L.length/\b=p)\/(a≠r/\R L q a b)))\/(x=p/\((a=q/\b=L.length)\/(a=L.length/\b=r)\/(a≠q/\R L p a b)))\/(x≠p/\x≠q/\x≠r/\R L x a b):=by
  intro x a b;have e1:Nx rp q b↔b=r:=⟨λ z=>jS J z S,λ z=>z ▸ S⟩;have e2:Nx rq r b↔b=p:=⟨λ z=>jS I z f,λ z=>z ▸ f⟩;have e3:Nx rr p b↔b=q:=⟨λ z=>jS H z O,λ z=>z ▸ O⟩;have g1:R L p a b↔Nx rp a b:=⟨λ⟨z,e,n⟩=>by rw[hp]at e;cases e;exact n,λ n=>⟨rp,hp,n⟩⟩;have g2:R L q a b↔Nx rq a b:=⟨λ⟨z,e,n⟩=>by rw[B]at e;cases e;exact n,λ n=>⟨rq,B,n⟩⟩;have g3:R L r a b↔Nx rr a b:=⟨λ⟨z,e,n⟩=>by rw[y]at e;cases e;exact n,λ n=>⟨rr,y,n⟩⟩;unfold bI;rw[kUN,lZ Q,lZ N,lZ T,bU mp J U,bU D I Z,bU C H X,nx3,g,e1,e2,e3,g1,g2,g3];have no:¬ R L L.length a b:=λ z=>by have:=wQ G z;omega
  clear Fq Fr Fp O S J I H U Z X mp D C T N Q len g look hp B y f e1 e2 e3 g1 g2 g3 G;by_cases x0:x=L.length
  ·subst x0
   have n1:¬ L.length=p:=jc lp;have n2:¬ L.length=q:=jc Y;have n3:¬ L.length=r:=jc lr;simp only[n1,n2,n3,no,ne_eq,not_false_eq_true,false_and,true_and,and_false,or_false,false_or,not_true_eq_false]
  ·by_cases A:x=r
   ·subst A
    have n1:¬ x=q:=o;have n2:¬ x=p:=λ z=>l z.symm;simp only[x0,n1,n2,ne_eq,not_false_eq_true,false_and,true_and,and_false,or_false,false_or,not_true_eq_false]
   ·by_cases M:x=q
    ·subst M
     have n2:¬ x=p:=λ z=>j z.symm;simp only[x0,A,n2,ne_eq,not_false_eq_true,false_and,true_and,and_false,or_false,false_or,not_true_eq_false]
    ·by_cases x1:x=p
     ·subst x1
      simp only[x0,A,M,ne_eq,not_false_eq_true,false_and,true_and,and_false,or_false,false_or,not_true_eq_false]
     ·simp only[x0,A,M,x1,ne_eq,not_false_eq_true,false_and,true_and,and_false,or_false,false_or,not_true_eq_false]
 have v1:L.length≠p:=jc lp;have v2:L.length≠q:=jc Y
 have v3:L.length≠r:=jc lr
 have u:∀ x a b,R L x a b->¬ (x=p/\a=q)->¬ (x=q/\a=r)->¬ (x=r/\a=p)->R (bI L p q r rp rq rr) x a b:=by
  intro x a b h h1 h2 h3;rw[s];clear Fq Fr Fp O S Y lr lp o j l J I H U Z X mp D C T N Q len g look hp B y f s G v1 v2 v3;by_cases A:x=r
  ·subst A;exact .inr (.inl ⟨rfl,.inr (.inr ⟨λ z=>h3 ⟨rfl,z⟩,h⟩)⟩)
  ·by_cases M:x=q
   ·subst M;exact .inr (.inr (.inl ⟨rfl,.inr (.inr ⟨λ z=>h2 ⟨rfl,z⟩,h⟩)⟩))
   ·by_cases x1:x=p
    ·subst x1;exact .inr (.inr (.inr (.inl ⟨rfl,.inr (.inr ⟨λ z=>h1 ⟨rfl,z⟩,h⟩)⟩)))
    ·exact .inr (.inr (.inr (.inr ⟨x1,M,A,h⟩)))
 have d:∀ x a b,R L x a b->¬ (x=p/\a=q)->¬ (x=q/\a=r)->¬ (x=r/\a=p)->R (bI L p q r rp rq rr) a b x:=by
  intro x a b h h1 h2 h3;have i:=G.tri _ _ _ h;clear O S Y lr lp o j l J I H U Z X mp D C T N Q len g look hp B y f s v1 v2 v3;refine u _ _ _ i (λ z=>?_) (λ z=>?_) (λ z=>?_)
  ·obtain⟨rfl,rfl⟩:=z
   exact h3 ⟨yA G i Fp,rfl⟩
  ·obtain⟨rfl,rfl⟩:=z
   exact h1 ⟨yA G i Fq,rfl⟩
  ·obtain⟨rfl,rfl⟩:=z
   exact h2 ⟨yA G i Fr,rfl⟩
 have c:∀ x a b,((x=L.length/\((a=p/\b=q)\/(a=q/\b=r)\/(a=r/\b=p)))\/(x=r/\((a=p/\b=L.length)\/(a=L.length/\b=q)))\/(x=q/\((a=r/\b=L.length)\/(a=L.length/\b=p)))\/(x=p/\((a=q/\b=L.length)\/(a=L.length/\b=r))))->R (bI L p q r rp rq rr) x a b:=by
  intro x a b h;rw[s];rcases h with h | ⟨h,i | i⟩ | ⟨h,i | i⟩ | ⟨h,i | i⟩
  ·exact .inl h
  ·exact .inr (.inl ⟨h,.inl i⟩)
  ·exact .inr (.inl ⟨h,.inr (.inl i)⟩)
  ·exact .inr (.inr (.inl ⟨h,.inl i⟩))
  ·exact .inr (.inr (.inl ⟨h,.inr (.inl i)⟩))
  ·exact .inr (.inr (.inr (.inl ⟨h,.inl i⟩)))
  ·exact .inr (.inr (.inr (.inl ⟨h,.inr (.inl i)⟩)))
 have v:∀ a b,E L a b->E (bI L p q r rp rq rr) a b:=by
  intro a b h;unfold bI;refine kTS ?_;rw[nA Q,nA N,nA T,xN mp J,xN D I,xN C H];obtain⟨row,e,m⟩:=h;clear Fq Fr Fp O S Y lr lp o j l J I H U Z X mp D C T N Q len g look f s u d c G v1 v2 v3;by_cases A:a=r
  ·subst A;rw[y]at e;cases e;exact .inl ⟨rfl,.inl m⟩
  ·by_cases M:a=q
   ·subst M;rw[B]at e;cases e;exact .inr ⟨A,.inl ⟨rfl,.inl m⟩⟩
   ·by_cases x1:a=p
    ·subst x1;rw[hp]at e;cases e;exact .inr ⟨A,.inr ⟨M,.inl ⟨rfl,.inl m⟩⟩⟩
    ·exact .inr ⟨A,.inr ⟨M,.inr ⟨x1,row,e,m⟩⟩⟩
 refine⟨by rw[len];have:=G.three;omega,?_,?_,?_,?_,?_,?_⟩
 ·intro x row h
  rcases look x row h with⟨_,rfl⟩ | ⟨_,rfl⟩ | ⟨_,rfl⟩ | ⟨_,rfl⟩ | ⟨_,_,_,h⟩
  ·simp
  ·intro z;have:=xP (w:=L.length) C;rw[z]at this;simp at this
  ·intro z;have:=xP (w:=L.length) D;rw[z]at this;simp at this
  ·intro z;have:=xP (w:=L.length) mp;rw[z]at this;simp at this
  ·exact G.ne _ _ h
 ·intro x row h
  rcases look x row h with⟨_,rfl⟩ | ⟨_,rfl⟩ | ⟨_,rfl⟩ | ⟨_,rfl⟩ | ⟨_,_,_,h⟩
  ·simp only[fu,eK,si,or_false,yo,and_true,not_false_eq_true]
   exact⟨λ z=>z.elim j l,λ z=>o z.symm⟩
  ·exact cC C H X
  ·exact cC D I Z
  ·exact cC mp J U
  ·exact G.nd _ _ h
 ·intro x row a h m
  rw[len]
  replace h:=look x row h
  clear Fq Fr Fp O S U Z X T N Q len g look f s u d c v;rcases h with⟨rfl,rfl⟩ | ⟨rfl,rfl⟩ | ⟨rfl,rfl⟩ | ⟨rfl,rfl⟩ | ⟨_,_,_,h⟩
  ·simp only[eK,si,or_false]at m
   clear o j l v1 v2 v3;omega
  ·rcases(xN C H).mp m with z | z
   ·have:=G.rng _ _ _ y z
    exact⟨yd this.1,this.2⟩
   ·subst z
    exact⟨CC _,jc lr⟩
  ·rcases(xN D I).mp m with z | z
   ·have:=G.rng _ _ _ B z
    exact⟨yd this.1,this.2⟩
   ·subst z
    exact⟨CC _,jc Y⟩
  ·rcases(xN mp J).mp m with z | z
   ·have:=G.rng _ _ _ hp z
    exact⟨yd this.1,this.2⟩
   ·subst z
    exact⟨CC _,jc lp⟩
  ·have:=G.rng _ _ _ h m
   exact⟨yd this.1,this.2⟩
 ·intro x a b h
  rw[s]at h;clear Fq Fr Fp O S Y lr lp J I H U Z X mp D C T N Q len g look hp B y f s u v G v1 v2 v3;rcases h with⟨rfl,⟨rfl,rfl⟩ | ⟨rfl,rfl⟩ | ⟨rfl,rfl⟩⟩ | ⟨rfl,⟨rfl,rfl⟩ | ⟨rfl,rfl⟩ | ⟨h,i⟩⟩ | ⟨rfl,⟨rfl,rfl⟩ | ⟨rfl,rfl⟩ | ⟨h,i⟩⟩ | ⟨rfl,⟨rfl,rfl⟩ | ⟨rfl,rfl⟩ | ⟨h,i⟩⟩ | ⟨h1,h2,h3,i⟩
  ·exact c _ _ _ (.inr (.inr (.inr ⟨rfl,.inl ⟨rfl,rfl⟩⟩)))
  ·exact c _ _ _ (.inr (.inr (.inl ⟨rfl,.inl ⟨rfl,rfl⟩⟩)))
  ·exact c _ _ _ (.inr (.inl ⟨rfl,.inl ⟨rfl,rfl⟩⟩))
  ·exact c _ _ _ (.inr (.inr (.inr ⟨rfl,.inr ⟨rfl,rfl⟩⟩)))
  ·exact c _ _ _ (.inl ⟨rfl,.inr (.inl ⟨rfl,rfl⟩)⟩)
  ·exact d _ _ _ i (λ z=>l z.1.symm) (λ z=>o z.1) λ z=>h z.2
  ·exact c _ _ _ (.inr (.inl ⟨rfl,.inr ⟨rfl,rfl⟩⟩))
  ·exact c _ _ _ (.inl ⟨rfl,.inl ⟨rfl,rfl⟩⟩)
  ·exact d _ _ _ i (λ z=>j z.1.symm) (λ z=>h z.2) λ z=>o z.1.symm
  ·exact c _ _ _ (.inr (.inr (.inl ⟨rfl,.inr ⟨rfl,rfl⟩⟩)))
  ·exact c _ _ _ (.inl ⟨rfl,.inr (.inr ⟨rfl,rfl⟩)⟩)
  ·exact d _ _ _ i (λ z=>h z.2) (λ z=>j z.1) λ z=>l z.1
  ·exact d _ _ _ i (λ z=>h1 z.1) (λ z=>h2 z.1) λ z=>h3 z.1
 ·intro x hx
  rw[len]at hx;by_cases h:x=L.length
  ·subst h
   refine .more ((G.con p lp).by λ a b e=>.more (.here _) (v a b e)) ?_;exact(zQ (c p q L.length (.inr (.inr (.inr ⟨rfl,.inl ⟨rfl,rfl⟩⟩))))).2
  ·exact(G.con x (by omega)).by λ a b e=>.more (.here _) (v a b e)
 ·rw[len]
  unfold bI;have t:=G.tot;have s1:=yZ L p rp (jE rp q L.length) hp;have a1:(L.set p (jE rp q L.length))[q]?=some rq:=by rw[eZ j];exact B
  have s2:=yZ _ q rq (jE rq r L.length) a1;have a0:((L.set p (jE rp q L.length)).set q (jE rq r L.length))[r]?=some rr:=by rw[eZ (λ z=>o z.symm),eZ l];exact y
  have s3:=yZ _ r rr (jE rr p L.length) a0;rw[xP mp]at s1;rw[xP D]at s2;rw[xP C]at s3;rw[du,EV];simp only[gh,CQ,Ah,List.sum_nil,iQ,yh];omega
end
def zP(L:Rows)(p q r s:Nat)(d a b c:List Nat):Rows :=
 (((L.set p (jU d q)).set q (jU a p)).set r (jE b p s)).set s (jE c q r)
section
variable {L:Rows} {p q r s:Nat} {rp rq rr rs:List Nat}
def kJT(G:Good L)(hp:L[p]?=some rp)(T:L[q]?=some rq)(Q:L[r]?=some rr)(S:L[s]?=some rs)(f:Nx rq r p)(g:Nx rp s q)(D:r≠s)(sr:s∉rr):Good (zP L p q r s rp rq rr rs):=by
 have C:R L q r p:=⟨rq,T,f⟩;have A:R L r p q:=G.tri _ _ _ C;have H:R L p q r:=G.tri _ _ _ A;have B:R L p s q:=⟨rp,hp,g⟩;have o:R L s q p:=G.tri _ _ _ B;have I:R L q p s:=G.tri _ _ _ o;have un:∀{x row a b},L[x]?=some row->R L x a b->Nx row a b:=λ{x row a b} e ⟨z,e',n⟩=>by rw[e]at e';cases e';exact n
 obtain⟨lq,lr,lp,i,v⟩:=wQ G C;obtain⟨-,-,-,u,-⟩:=wQ G A;obtain⟨-,ls,-,j,-⟩:=wQ G B;obtain⟨-,-,-,y,-⟩:=wQ G o;have np:=G.nd p rp hp;have nq:=G.nd q rq T;have nr:=G.nd r rr Q;have ns:=G.nd s rs S;have mp:q∈rp:=(kT (un hp H)).1;have Z:p∈rq:=(kT f).2;have U:p∈rr:=(kT (un Q A)).1;have X:q∈rs:=(kT (un S o)).1
 have M:r∉rs:=λ z=>by
  obtain⟨row,e,m⟩:=G.sym (a:=s) (b:=r) ⟨rs,S,z⟩;rw[Q]at e;cases e;exact sr m
 have l1:p<L.length:=lp;have l2:q<(L.set p (jU rp q)).length:=by simpa using lq
 have l3:r<((L.set p (jU rp q)).set q (jU rq p)).length:=by simpa using lr
 have l4:s<(((L.set p (jU rp q)).set q (jU rq p)).set r (jE rr p s)).length:=by simpa using ls
 have len:(zP L p q r s rp rq rr rs).length=L.length:=by simp[zP]
 have look:∀(x:Nat)(row:List Nat),(zP L p q r s rp rq rr rs)[x]?=some row->(x=s/\row=jE rs q r)\/(x=r/\row=jE rr p s)\/(x=q/\row=jU rq p)\/(x=p/\row=jU rp q)\/(x≠p/\x≠q/\x≠r/\x≠s/\L[x]?=some row):=by
  intro x row h;unfold zP at h;rcases wB l4 h with z | ⟨n4,h⟩
  ·exact .inl z
  ·rcases wB l3 h with z | ⟨n3,h⟩
   ·exact .inr (.inl z)
   ·rcases wB l2 h with z | ⟨n2,h⟩
    ·exact .inr (.inr (.inl z))
    ·rcases wB l1 h with z | ⟨n1,h⟩
     ·exact .inr (.inr (.inr (.inl z)))
     ·exact .inr (.inr (.inr (.inr ⟨n1,n2,n3,n4,h⟩)))
 have J:∀ x a b,R (zP L p q r s rp rq rr rs) x a b↔(x=s/\((a=q/\b=r)\/(a=r/\b=p)\/(a≠q/\R L s a b)))\/(x=r/\((a=p/\b=s)\/(a=s/\b=q)\/(a≠p/\R L r a b)))\/(x=q/\((a≠p/\b≠p/\R L q a b)\/(a=r/\b=s)))\/(x=p/\((a≠q/\b≠q/\R L p a b)\/(a=s/\b=r)))\/(x≠p/\x≠q/\x≠r/\x≠s/\R L x a b):=by
  intro x a b;have g1:∀ a b,Nx rp a b↔R L p a b:=λ a b=>⟨λ n=>⟨rp,hp,n⟩,un hp⟩;have g2:∀ a b,Nx rq a b↔R L q a b:=λ a b=>⟨λ n=>⟨rq,T,n⟩,un T⟩;have g3:∀ a b,Nx rr a b↔R L r a b:=λ a b=>⟨λ n=>⟨rr,Q,n⟩,un Q⟩;have g4:∀ a b,Nx rs a b↔R L s a b:=λ a b=>⟨λ n=>⟨rs,S,n⟩,un S⟩;have e1:R L p a q↔a=s:=⟨λ z=>kMC G z B,λ z=>z ▸ B⟩;have e2:R L p q b↔b=r:=⟨λ z=>yA G z H,λ z=>z ▸ H⟩;have e3:R L q a p↔a=r:=⟨λ z=>kMC G z C,λ z=>z ▸ C⟩;have e4:R L q p b↔b=s:=⟨λ z=>yA G z I,λ z=>z ▸ I⟩;have e5:R L r p b↔b=q:=⟨λ z=>yA G z A,λ z=>z ▸ A⟩;have e6:R L s q b↔b=p:=⟨λ z=>yA G z o,λ z=>z ▸ o⟩;unfold zP;rw[lZ l4,lZ l3,lZ l2,lZ l1,kGI mp np,kGI Z nq,bU U nr sr,bU X ns M];simp only[g1,g2,g3,g4,e1,e2,e3,e4,e5,e6];have c1:(a≠q/\b≠q/\a=s/\b=r)↔(a=s/\b=r):=⟨λ z=>z.2.2,λ z=>⟨λ h=>y (h.symm.trans z.1),λ h=>i (z.2.symm.trans h),z⟩⟩;have c2:(a≠p/\b≠p/\a=r/\b=s)↔(a=r/\b=s):=⟨λ z=>z.2.2,λ z=>⟨λ h=>u (h.symm.trans z.1),λ h=>j (z.2.symm.trans h),z⟩⟩;rw[c1,c2];clear look g1 g2 g3 g4 e1 e2 e3 e4 e5 e6 c1 c2 C A H B o I un np nq nr ns mp Z U X M l1 l2 l3 l4 len hp T Q S f g sr lq lr lp ls;by_cases O:x=s
  ·subst O
   have n1:¬ x=r:=λ z=>D z.symm;have n2:¬ x=q:=λ z=>y z.symm;have n3:¬ x=p:=j;simp only[n1,n2,n3,ne_eq,not_false_eq_true,false_and,true_and,and_false,or_false,false_or,not_true_eq_false]
  ·by_cases Y:x=r
   ·subst Y
    have n1:¬ x=q:=i;have n2:¬ x=p:=λ z=>u z.symm;simp only[O,n1,n2,ne_eq,not_false_eq_true,false_and,true_and,and_false,or_false,false_or,not_true_eq_false]
   ·by_cases x2:x=q
    ·subst x2
     have n2:¬ x=p:=λ z=>v z.symm;simp only[O,Y,n2,ne_eq,not_false_eq_true,false_and,true_and,and_false,or_false,false_or,not_true_eq_false]
    ·by_cases x1:x=p
     ·subst x1
      simp only[O,Y,x2,ne_eq,not_false_eq_true,false_and,true_and,and_false,or_false,false_or,not_true_eq_false]
     ·simp only[O,Y,x2,x1,ne_eq,not_false_eq_true,false_and,true_and,and_false,or_false,false_or,not_true_eq_false]
 have N:∀ x a b,R L x a b->¬ (x=p/\a=q)->¬ (x=p/\b=q)->¬ (x=q/\a=p)->¬ (x=q/\b=p)->¬ (x=r/\a=p)->¬ (x=s/\a=q)->R (zP L p q r s rp rq rr rs) x a b:=by
  intro x a b h h1 h2 h3 h4 h5 h6;rw[J];clear C A H B o I un np nq nr ns mp Z U X M l1 l2 l3 l4 len hp T Q S f g sr lq lr lp ls D i v u j y look J G;by_cases O:x=s
  ·subst O;exact .inl ⟨rfl,.inr (.inr ⟨λ z=>h6 ⟨rfl,z⟩,h⟩)⟩
  ·by_cases Y:x=r
   ·subst Y;exact .inr (.inl ⟨rfl,.inr (.inr ⟨λ z=>h5 ⟨rfl,z⟩,h⟩)⟩)
   ·by_cases x2:x=q
    ·subst x2;exact .inr (.inr (.inl ⟨rfl,.inl ⟨λ z=>h3 ⟨rfl,z⟩,λ z=>h4 ⟨rfl,z⟩,h⟩⟩))
    ·by_cases x1:x=p
     ·subst x1;exact .inr (.inr (.inr (.inl ⟨rfl,.inl ⟨λ z=>h1 ⟨rfl,z⟩,λ z=>h2 ⟨rfl,z⟩,h⟩⟩)))
     ·exact .inr (.inr (.inr (.inr ⟨x1,x2,Y,O,h⟩)))
 have c:∀ x a b,R L x a b->¬ (x=p/\a=q)->¬ (x=p/\b=q)->¬ (x=q/\a=p)->¬ (x=q/\b=p)->¬ (x=r/\a=p)->¬ (x=s/\a=q)->R (zP L p q r s rp rq rr rs) a b x:=by
  intro x a b h h1 h2 h3 h4 h5 h6;have l:=G.tri _ _ _ h;clear C B un np nq nr ns mp Z U X M l1 l2 l3 l4 len hp T Q S f g sr lq lr lp ls D i v u j y look J;refine N _ _ _ l (λ z=>?_) (λ z=>?_) (λ z=>?_) (λ z=>?_) (λ z=>?_) (λ z=>?_)
  ·obtain⟨rfl,rfl⟩:=z
   exact h5 ⟨yA G l H,rfl⟩
  ·obtain⟨rfl,rfl⟩:=z
   exact h3 ⟨rfl,rfl⟩
  ·obtain⟨rfl,rfl⟩:=z
   exact h6 ⟨yA G l I,rfl⟩
  ·obtain⟨rfl,rfl⟩:=z
   exact h1 ⟨rfl,rfl⟩
  ·obtain⟨rfl,rfl⟩:=z
   exact h4 ⟨yA G l A,rfl⟩
  ·obtain⟨rfl,rfl⟩:=z
   exact h2 ⟨yA G l o,rfl⟩
 have d:∀ x a b,((x=s/\((a=q/\b=r)\/(a=r/\b=p)))\/(x=r/\((a=p/\b=s)\/(a=s/\b=q)))\/(x=q/\(a=r/\b=s))\/(x=p/\(a=s/\b=r)))->R (zP L p q r s rp rq rr rs) x a b:=by
  intro x a b h;rw[J];rcases h with⟨h,l | l⟩ | ⟨h,l | l⟩ | ⟨h,l⟩ | ⟨h,l⟩
  ·exact .inl ⟨h,.inl l⟩
  ·exact .inl ⟨h,.inr (.inl l)⟩
  ·exact .inr (.inl ⟨h,.inl l⟩)
  ·exact .inr (.inl ⟨h,.inr (.inl l)⟩)
  ·exact .inr (.inr (.inl ⟨h,.inr l⟩))
  ·exact .inr (.inr (.inr (.inl ⟨h,.inr l⟩)))
 have a0:∀ a b,E L a b->¬ (a=p/\b=q)->¬ (a=q/\b=p)->E (zP L p q r s rp rq rr rs) a b:=by
  intro a b h h1 h2;unfold zP;rw[nA l4,nA l3,nA l2,nA l1,wZ mp np,wZ Z nq,xN U nr,xN X ns];obtain⟨row,e,m⟩:=h;clear C A H B o I un np nq nr ns mp Z U X M l1 l2 l3 l4 len f g sr lq lr lp ls D i v u j y look J N c d G;by_cases O:a=s
  ·subst O;rw[S]at e;cases e;exact .inl ⟨rfl,.inl m⟩
  ·by_cases Y:a=r
   ·subst Y;rw[Q]at e;cases e;exact .inr ⟨O,.inl ⟨rfl,.inl m⟩⟩
   ·by_cases x2:a=q
    ·subst x2;rw[T]at e;cases e;exact .inr ⟨O,.inr ⟨Y,.inl ⟨rfl,m,λ z=>h2 ⟨rfl,z⟩⟩⟩⟩
    ·by_cases x1:a=p
     ·subst x1;rw[hp]at e;cases e;exact .inr ⟨O,.inr ⟨Y,.inr ⟨x2,.inl ⟨rfl,m,λ z=>h1 ⟨rfl,z⟩⟩⟩⟩⟩
     ·exact .inr ⟨O,.inr ⟨Y,.inr ⟨x2,.inr ⟨x1,row,e,m⟩⟩⟩⟩
 have a1:∀ a b,E L a b->Reach (zP L p q r s rp rq rr rs) a b:=by
  intro a b h;clear C A H B o I un np nq nr ns mp Z U X M l1 l2 l3 l4 len hp T Q S f g sr lq lr lp ls D i v u j y look J N c G;by_cases h1:a=p/\b=q
  ·obtain⟨rfl,rfl⟩:=h1
   refine Reach.more (b:=r) (Reach.more (Reach.here _) ?_) ?_
   ·exact(zQ (d a s r (.inr (.inr (.inr ⟨rfl,rfl,rfl⟩))))).2
   ·exact(zQ (d r s b (.inr (.inl ⟨rfl,.inr ⟨rfl,rfl⟩⟩)))).2
  ·by_cases h2:a=q/\b=p
   ·obtain⟨rfl,rfl⟩:=h2
    refine Reach.more (b:=r) (Reach.more (Reach.here _) ?_) ?_
    ·exact(zQ (d a r s (.inr (.inr (.inl ⟨rfl,rfl,rfl⟩))))).1
    ·exact(zQ (d r b s (.inr (.inl ⟨rfl,.inl ⟨rfl,rfl⟩⟩)))).1
   ·exact .more (.here _) (a0 a b h h1 h2)
 refine⟨by rw[len];exact G.three,?_,?_,?_,?_,?_,?_⟩
 ·intro x row h
  rcases look x row h with⟨_,rfl⟩ | ⟨_,rfl⟩ | ⟨_,rfl⟩ | ⟨_,rfl⟩ | ⟨_,_,_,_,h⟩
  ·intro z;have:=xP (w:=r) X;rw[z]at this;simp at this
  ·intro z;have:=xP (w:=s) U;rw[z]at this;simp at this
  ·intro z
   have:s∈jU rq p:=(wZ Z nq).mpr ⟨(kT (un T I)).2,j⟩;rw[z]at this;cases this
  ·intro z
   have:r∈jU rp q:=(wZ mp np).mpr ⟨(kT (un hp H)).2,i⟩;rw[z]at this;cases this
  ·exact G.ne _ _ h
 ·intro x row h
  rcases look x row h with⟨_,rfl⟩ | ⟨_,rfl⟩ | ⟨_,rfl⟩ | ⟨_,rfl⟩ | ⟨_,_,_,_,h⟩
  ·exact cC X ns M
  ·exact cC U nr sr
  ·exact kGY Z nq
  ·exact kGY mp np
  ·exact G.nd _ _ h
 ·intro x row a h m
  rw[len]
  replace h:=look x row h
  clear C A H B o I un M l1 l2 l3 l4 len f g sr lq lp i v u j y look J N c d a0 a1;rcases h with⟨rfl,rfl⟩ | ⟨rfl,rfl⟩ | ⟨rfl,rfl⟩ | ⟨rfl,rfl⟩ | ⟨_,_,_,_,h⟩
  ·rcases(xN X ns).mp m with z | z
   ·exact G.rng _ _ _ S z
   ·subst z
    exact⟨lr,D⟩
  ·rcases(xN U nr).mp m with z | z
   ·exact G.rng _ _ _ Q z
   ·subst z
    exact⟨ls,λ h=>D h.symm⟩
  ·exact G.rng _ _ _ T ((wZ Z nq).mp m).1
  ·exact G.rng _ _ _ hp ((wZ mp np).mp m).1
  ·exact G.rng _ _ _ h m
 ·intro x a b h
  rw[J]at h;clear C A H B o I un np nq nr ns mp Z U X M l1 l2 l3 l4 len hp T Q S f g sr lq lr lp ls look J N a0 a1 G;rcases h with⟨rfl,⟨rfl,rfl⟩ | ⟨rfl,rfl⟩ | ⟨h,l⟩⟩ | ⟨rfl,⟨rfl,rfl⟩ | ⟨rfl,rfl⟩ | ⟨h,l⟩⟩ | ⟨rfl,⟨h,k,l⟩ | ⟨rfl,rfl⟩⟩ | ⟨rfl,⟨h,k,l⟩ | ⟨rfl,rfl⟩⟩ | ⟨h1,h2,h3,h4,l⟩
  ·exact d _ _ _ (.inr (.inr (.inl ⟨rfl,rfl,rfl⟩)))
  ·exact d _ _ _ (.inr (.inl ⟨rfl,.inl ⟨rfl,rfl⟩⟩))
  ·exact c _ _ _ l (λ z=>j z.1) (λ z=>j z.1) (λ z=>y z.1.symm) (λ z=>y z.1.symm) (λ z=>D z.1.symm) λ z=>h z.2
  ·exact d _ _ _ (.inr (.inr (.inr ⟨rfl,rfl,rfl⟩)))
  ·exact d _ _ _ (.inl ⟨rfl,.inl ⟨rfl,rfl⟩⟩)
  ·exact c _ _ _ l (λ z=>u z.1.symm) (λ z=>u z.1.symm) (λ z=>i z.1) (λ z=>i z.1) (λ z=>h z.2) λ z=>D z.1
  ·exact c _ _ _ l (λ z=>v z.1.symm) (λ z=>v z.1.symm) (λ z=>h z.2) (λ z=>k z.2) (λ z=>i z.1.symm) λ z=>y z.1
  ·exact d _ _ _ (.inr (.inl ⟨rfl,.inr ⟨rfl,rfl⟩⟩))
  ·exact c _ _ _ l (λ z=>h z.2) (λ z=>k z.2) (λ z=>v z.1) (λ z=>v z.1) (λ z=>u z.1) λ z=>j z.1.symm
  ·exact d _ _ _ (.inl ⟨rfl,.inr ⟨rfl,rfl⟩⟩)
  ·exact c _ _ _ l (λ z=>h1 z.1) (λ z=>h1 z.1) (λ z=>h2 z.1) (λ z=>h2 z.1) (λ z=>h3 z.1) λ z=>h4 z.1
 ·intro x hx
  rw[len]at hx;exact(G.con x hx).by a1
 ·rw[len]
  unfold zP;have t:=G.tot;have s1:=yZ L p rp (jU rp q) hp;have a4:(L.set p (jU rp q))[q]?=some rq:=by rw[eZ v];exact T
  have s2:=yZ _ q rq (jU rq p) a4;have a3:((L.set p (jU rp q)).set q (jU rq p))[r]?=some rr:=by rw[eZ (λ z=>i z.symm),eZ u];exact Q
  have s3:=yZ _ r rr (jE rr p s) a3;have a2:(((L.set p (jU rp q)).set q (jU rq p)).set r (jE rr p s))[s]?=some rs:=by rw[eZ D,eZ y,eZ (λ z=>j z.symm)];exact S
  have s4:=yZ _ s rs (jE rs q r) a2;have k1:=kCB mp;have k2:=kCB Z;rw[xP U]at s3;rw[xP X]at s4;clear D i v u j y l1 l2 l3 l4 lp lq lr ls;omega
def kEL:Good [[1,2],[2,0],[0,1]]:=by
 have look:∀(x:Nat)(row:List Nat),([[1,2],[2,0],[0,1]]:Rows)[x]?=some row->(x=0/\row=[1,2])\/(x=1/\row=[2,0])\/(x=2/\row=[0,1]):=by
  intro x row h
  match x,h with
  | 0,h=>exact .inl ⟨rfl,(bq h).symm⟩
  | 1,h=>exact .inr (.inl ⟨rfl,(bq h).symm⟩)
  | 2,h=>exact .inr (.inr ⟨rfl,(bq h).symm⟩)
  | n+3,h=>simp at h
 have c:∀ x y a b:Nat,Nx [x,y] a b↔(a=x/\b=y)\/(a=y/\b=x):=by
  intro x y a b;show((a=x/\b=y)\/(a=y/\b=x)\/False)↔_;simp
 refine⟨by decide,?_,?_,?_,?_,?_,by decide⟩
 ·intro x row h
  rcases look x row h with⟨_,rfl⟩ | ⟨_,rfl⟩ | ⟨_,rfl⟩<;>simp
 ·intro x row h
  rcases look x row h with⟨_,rfl⟩ | ⟨_,rfl⟩ | ⟨_,rfl⟩<;>decide
 ·intro x row a h m
  rcases look x row h with⟨rfl,rfl⟩ | ⟨rfl,rfl⟩ | ⟨rfl,rfl⟩<;>simp at m ⊢<;>omega
 ·rintro x a b ⟨row,h,n⟩
  rcases look x row h with⟨rfl,rfl⟩ | ⟨rfl,rfl⟩ | ⟨rfl,rfl⟩<;>rw[c]at n<;>rcases n with⟨rfl,rfl⟩ | ⟨rfl,rfl⟩
  ·exact⟨[2,0],rfl,(c _ _ _ _).mpr (.inl ⟨rfl,rfl⟩)⟩
  ·exact⟨[0,1],rfl,(c _ _ _ _).mpr (.inr ⟨rfl,rfl⟩)⟩
  ·exact⟨[0,1],rfl,(c _ _ _ _).mpr (.inl ⟨rfl,rfl⟩)⟩
  ·exact⟨[1,2],rfl,(c _ _ _ _).mpr (.inr ⟨rfl,rfl⟩)⟩
  ·exact⟨[1,2],rfl,(c _ _ _ _).mpr (.inl ⟨rfl,rfl⟩)⟩
  ·exact⟨[2,0],rfl,(c _ _ _ _).mpr (.inr ⟨rfl,rfl⟩)⟩
 ·intro x d
  match x,d with
  | 0,_=>exact .here _
  | 1,_=>exact .more (.here _) ⟨[1,2],rfl,by decide⟩
  | 2,_=>exact .more (.here _) ⟨[1,2],rfl,by decide⟩
end
def xH(row:List Nat)(p:Nat):Option Nat:=if row.idxOf p=0 then row.getLast? else row[row.idxOf p-1]?
def zB{row:List Nat}{p v:Nat}(nd:row.Nodup)(hp:p∈row)(h:xH row p=some v):Nx row v p:=by
 obtain⟨A,B,rfl,hA,hB⟩:=jZ hp nd;unfold xH at h;rw[dI hA]at h;by_cases h0:A.length=0
 ·have:A=[]:=qb.mp h0
  subst this;rw[if_pos h0,kb]at h;show Adj (p::B++[p]) v p
  have e:p::B=(p::B).dropLast++[v]:=by
   rw[fj (Am p B)]at h;rw[<-bq h];exact(eN (Am p B)).symm
  rw[e,bp];exact(jB _ v [p] v p).mpr (.inr (.inl ⟨rfl,rfl⟩))
 ·rw[if_neg h0]at h
  rw[bb (by omega)]at h;have a:A≠[]:=λ z=>h0 (by rw[z];rfl)
  have e:A=A.dropLast++[v]:=by
   have z:A.getLast?=some v:=by rw[og];exact h
   rw[fj a]at z;rw[<-bq z];exact(eN a).symm
  rw[e,bp];rw[jH];show Nx (v::(p::B)++A.dropLast) v p;exact .inl ⟨rfl,rfl⟩
def vH{row:List Nat}{p:Nat}(hp:p∈row):∃ v,xH row p=some v:=by
 have b:=gj hp;unfold xH
 split
 ·have a:row≠[]:=λ z=>by rw[z]at hp;cases hp
  exact⟨_,fj a⟩
 ·exact⟨_,ae (show row.idxOf p-1<row.length by omega)⟩
end Tri
namespace Rnd
open Cyc Tri
section
variable {α:Type} [DecidableEq α]
def it(f:α->α):Nat->α->α
 | 0,x=>x
 | n+1,x=>f (it f n x)
def bF(f:α->α)(m n:Nat)(x:α):it f (m+n) x=it f m (it f n x):=by
 induction m with
 | zero=>rw[CT];rfl
 | succ m ih=>rw[Nat.succ_add];show f _=f _;rw[ih]
structure Perm(f:α->α)(S:List α):Prop where
 to:∀ x,x∈S->f x∈S
 one:∀ x y,x∈S->y∈S->f x=f y->x=y
theorem Perm.it{f:α->α}{S:List α}(h:Perm f S)(n:Nat){x:α}(a:x∈S):it f n x∈S:=by
 induction n with
 | zero=>exact a
 | succ n ih=>exact h.to _ ih
def Perm.back{f:α->α}{S:List α}(h:Perm f S)(n:Nat){x y:α}(b:x∈S)(a:y∈S)(e:Rnd.it f n x=Rnd.it f n y):x=y:=by
 induction n with
 | zero=>exact e
 | succ n ih=>exact ih (h.one _ _ (h.it n b) (h.it n a) e)
theorem dF{f:Nat->α}:∀(n:Nat),(∀ i j,i<j->j<n->f i≠f j)->((cw n).map f).Nodup
 | 0,_=>by simp
 | n+1,h=>by
  rw[BR,du,cu];refine⟨dF n λ i j a b=>h i j a (by omega),by simp,λ a d b g=>?_⟩;obtain⟨i,c,rfl⟩:=iR.mp d;have:b=f n:=by simpa using g
  subst this;exact h i n (jr.mp c) (by omega)
def Perm.comes{f:α->α}{S:List α}(h:Perm f S){x:α}(d:x∈S):∃ k,0<k/\k<=S.length/\Rnd.it f k x=x/\∀ j,0<j->j<k->Rnd.it f j x≠x:=by
 have some:∃ k,0<k/\k<=S.length/\Rnd.it f k x=x:=by
  refine eX λ s=>?_
  have nd:((cw (S.length+1)).map λ i=>Rnd.it f i x).Nodup:=dF _ λ i j v B e=>by
   refine s ⟨j-i,by omega,by omega,?_⟩
   have o:Rnd.it f i (Rnd.it f (j-i) x)=Rnd.it f i x:=by
    rw[<-bF,show i+(j-i)=j by omega];exact e.symm
   exact h.back i (h.it _ d) d o
  have le:=eY nd (l₂:=S) λ y q=>by
   obtain⟨i,_,rfl⟩:=iR.mp q;exact h.it i d
  rw[ak,iH]at le;omega
 obtain⟨p,p0,u,A⟩:=some
 have kMZ:∀ n,(∃ k,0<k/\k<=n/\Rnd.it f k x=x)->∃ k,0<k/\k<=n/\Rnd.it f k x=x/\∀ j,0<j->j<k->Rnd.it f j x≠x:=λ n=>by
  induction n with
  | zero=>rintro⟨k,a,b,_⟩;omega
  | succ n ih =>
   intro r;by_cases c:∃ k,0<k/\k<=n/\Rnd.it f k x=x
   ·obtain⟨k,a,b,e,m⟩:=ih c
    exact⟨k,a,by omega,e,m⟩
   ·obtain⟨k,a,b,e⟩:=r
    refine⟨k,a,b,e,λ j g C l=>c ⟨j,g,by omega,l⟩⟩
 exact kMZ S.length ⟨p,p0,u,A⟩
def Perm.round_nodup{f:α->α}{S:List α}(h:Perm f S){x:α}(a:x∈S){k:Nat}(m:∀ j,0<j->j<k->Rnd.it f j x≠x):((cw k).map λ i=>Rnd.it f i x).Nodup:=dF _ λ i j c d e=>by
 refine m (j-i) (by omega) (by omega) ?_
 have b:Rnd.it f i (Rnd.it f (j-i) x)=Rnd.it f i x:=by
  rw[<-bF,show i+(j-i)=j by omega];exact e.symm
 exact h.back i (h.it _ a) a b
end
def kN(W:Rows):List (Nat×Nat):=(cw W.length).flatMap λ p=>(W.getD p []).map λ q=>(p,q)
def mem_steps{W:Rows}{p q:Nat}:(p,q)∈kN W↔E W p q:=by
 unfold kN E;rw[AD];constructor
 ·rintro⟨c,hp,h⟩
  obtain⟨d,b,e⟩:=iR.mp h;cases e
  have a:=jr.mp hp;refine⟨W[p],ae a,?_⟩;simpa[aj,a] using b
 ·rintro⟨row,e,h⟩
  have a:=(ao.mp e).1;refine⟨p,jr.mpr a,iR.mpr ⟨q,?_,rfl⟩⟩;rw[aj,e];exact h
def nxt(W:Rows)(s:Nat×Nat):Nat×Nat:=(s.2,(xH (W.getD s.2 []) s.1).getD 0)
def mK{W:Rows}(nd:∀(p:Nat)(row:List Nat),W[p]?=some row->row.Nodup)(sym:∀ a b,E W a b->E W b a):Perm (nxt W) (kN W):=by
 have look:∀ p q,(p,q)∈kN W->∃ row v,W[q]?=some row/\p∈row/\xH row p=some v/\nxt W (p,q)=(q,v)/\Nx row v p:=λ p q h=>by
  obtain⟨row,e,m⟩:=sym p q (mem_steps.mp h);obtain⟨v,f⟩:=vH m;refine⟨row,v,e,m,f,?_,zB (nd q row e) m f⟩;unfold nxt;rw[aj,e];show(q,(xH row p).getD 0)=(q,v);rw[f]
  rfl
 refine⟨λ s h=>?_,λ s t A r e=>?_⟩
 ·obtain⟨p,q⟩:=s
  obtain⟨row,v,c,u,C,g,d⟩:=look p q h;rw[g];exact mem_steps.mpr ⟨row,c,(kT d).1⟩
 ·obtain⟨p,q⟩:=s
  obtain⟨B,i⟩:=t;obtain⟨row,v,c,u,C,g,d⟩:=look p q A;obtain⟨l,n,j,G,H,x,y⟩:=look B i r;rw[g,x]at e;have D:q=i:=congrArg CD e;have o:v=n:=congrArg tm e;subst D o;rw[c]at j;cases j
  rw[jS (nd q row c) d y]
end Rnd
namespace Tri
section
variable {R R':Nat->Nat->Nat->Prop} {N N' K:Nat->Nat->Prop} {inP:Nat->Prop} {f l w:Nat}
end
open Cyc
section
variable {A M C:List Nat} {f l w:Nat}
def nxP(M:List Nat)(f l a b:Nat):Nx (f::M++[l]) a b↔Adj (f::M++[l]) a b\/(a=l/\b=f):=by
 show Adj (f::M++[l]++[f]) a b↔_;rw[show f::M++[l]++[f]=(f::M)++l::[f] by simp,jB];simp only[Adj,or_false]
end
section
variable {L L2:Rows} {A M C:List Nat} {f l:Nat}
end
section
variable {L:Rows} {A M C:List Nat} {f l u:Nat}
theorem kCN:∀{P:List Nat}{l x:Nat},x∈P->∃ y,Adj (P++[l]) x y
 | [z],l,x,h=>⟨l,.inl ⟨by simpa using h,rfl⟩⟩
 | z::z'::r,l,x,h=>by
  rcases eK.mp h with e | h
  ·exact⟨z',.inl ⟨e,rfl⟩⟩
  ·obtain⟨y,a⟩:=kCN (l:=l) h
   exact⟨y,.inr a⟩
end
open Cyc Rnd
section
variable {W:Rows}
def rZ{row:List Nat}{p v:Nat}(nd:row.Nodup)(h:Nx row v p):xH row p=some v:=by
 obtain⟨u,a⟩:=vH (kT h).2;rw[a,yD nd h (zB nd (kT h).2 a)]
def mL(nd:∀(p:Nat)(row:List Nat),W[p]?=some row->row.Nodup){p q v:Nat}(h:R W q v p):nxt W (p,q)=(q,v):=by
 obtain⟨row,e,n⟩:=h;unfold nxt;rw[aj,e];show(q,(xH row p).getD 0)=(q,v);rw[rZ (nd q row e) n]
 rfl
def dQ(nd:∀(p:Nat)(row:List Nat),W[p]?=some row->row.Nodup):(kN W).Nodup:=by
 unfold kN;rw[BS,Cq];refine⟨λ p hp=>?_,?_⟩
 ·have b:=jr.mp hp
  have e:W[p]?=some (W.getD p []):=by rw[aj,ae b];rfl
  have n:=nd p _ e;refine Gf _ (λ x y (z:x≠y) e=>z (congrArg tm e)) n
 ·refine tw.imp λ{p q} a=>?_
  intro x d y c e;obtain⟨_,_,rfl⟩:=iR.mp d;obtain⟨_,_,rfl⟩:=iR.mp c;exact a (congrArg CD e)
def yM:∀(W:Rows) ,(kN W).length=(W.map jd).sum:=by
 intro W;unfold kN;rw[vw]
 congr 1
 refine CF (by simp) λ i h1 a=>?_;simp at h1 a;simp[aj,h1]
end
theorem kHT(f:Nat->Nat):∀(l:List Nat)(a b:Nat),Adj (l.map f) a b↔∃ x y,Adj l x y/\a=f x/\b=f y
 | [],a,b=>⟨λ h=>h.elim,λ⟨_,_,h,_⟩=>h.elim⟩
 | [z],a,b=>⟨λ h=>h.elim,λ⟨_,_,h,_⟩=>h.elim⟩
 | z::z'::r,a,b=>by
  have c:=kHT f (z'::r) a b;constructor
  ·rintro(⟨rfl,rfl⟩ | h)
   ·exact⟨z,z',.inl ⟨rfl,rfl⟩,rfl,rfl⟩
   ·obtain⟨x,y,h,e⟩:=c.mp h
    exact⟨x,y,.inr h,e⟩
  ·rintro⟨x,y,⟨rfl,rfl⟩ | h,rfl,rfl⟩
   ·exact .inl ⟨rfl,rfl⟩
   ·exact .inr (c.mpr ⟨x,y,h,rfl,rfl⟩)
def kMV(f:Nat->Nat)(l:List Nat)(a b:Nat):Nx (l.map f) a b↔∃ x y,Nx l x y/\a=f x/\b=f y:=by
 unfold Nx;rw[show l.map f++(l.map f).head?.toList=(l++l.head?.toList).map f by cases l<;>simp];exact kHT f _ a b
def Reach.symm{W:Rows}(sym:∀ a b,E W a b->E W b a){a b:Nat}(h:Reach W a b):Reach W b a:=by
 induction h with
 | here=>exact .here _
 | more _ e ih=>exact(Reach.more (.here _) (sym _ _ e)).trans ih
structure Ren(L W:Rows)(ns:List Nat):Prop where
 perm:ns.Perm (cw L.length)
 len:W.length=L.length
 at':∀(p:Nat)(row:List Nat),L[p]?=some row->∃ n A B,ns[p]?=some n/\row.map (λ q=>ns.getD q 0)=A++B/\W[n]?=some (B++A)
section
variable {L W:Rows} {ns:List Nat}
def Ren.nlen(h:Ren L W ns):ns.length=L.length:=by rw[h.perm.length_eq,iH]
def Ren.get(h:Ren L W ns){p:Nat}(hp:p<L.length):ns[p]?=some (ns.getD p 0):=by
 rw[aj,ae (by rw[h.nlen];exact hp)]
 rfl
def Ren.lt(h:Ren L W ns){p:Nat}(hp:p<L.length):ns.getD p 0<L.length:=jr.mp (h.perm.mem_iff.mp (di (h.get hp)))
def Ren.inj(h:Ren L W ns){p q:Nat}(hp:p<L.length)(b:q<L.length)(e:ns.getD p 0=ns.getD q 0):p=q:=by
 have nd:ns.Nodup:=h.perm.nodup_iff.mpr tw;have h1:=h.get hp;have a:=h.get b;rw[e,<-a]at h1;exact(ye (by rw[h.nlen];exact hp) nd).mp h1
def Ren.sur(h:Ren L W ns){x:Nat}(a:x<L.length):∃ p,p<L.length/\ns.getD p 0=x:=by
 obtain⟨p,hp,e⟩:=List.getElem_of_mem (h.perm.mem_iff.mpr (jr.mpr a));rw[h.nlen]at hp;refine⟨p,hp,?_⟩;rw[aj,ae (by rw[h.nlen];exact hp),e]
 rfl
theorem Ren.row(h:Ren L W ns){x:Nat}{c:List Nat}(e:W[x]?=some c):∃ p row,p<L.length/\L[p]?=some row/\x=ns.getD p 0/\c.Perm (row.map λ q=>ns.getD q 0)/\∀ a b,Nx c a b↔Nx (row.map λ q=>ns.getD q 0) a b:=by
 have i:x<L.length:=by rw[<-h.len];exact(ao.mp e).1
 obtain⟨p,hp,rfl⟩:=h.sur i;obtain⟨n,A,B,g,f,d⟩:=h.at' p _ (ae hp);rw[h.get hp]at g;cases g
 rw[e]at d;cases d
 refine⟨p,_,hp,ae hp,rfl,?_,λ a b=>?_⟩
 ·rw[f];exact kr
 ·rw[f];exact jH B A a b
def Ren.to(h:Ren L W ns){p:Nat}{row:List Nat}(e:L[p]?=some row):∃ row',W[ns.getD p 0]?=some row'/\row'.Perm (row.map λ q=>ns.getD q 0)/\∀ a b,Nx row' a b↔Nx (row.map λ q=>ns.getD q 0) a b:=by
 have hp:=(ao.mp e).1;obtain⟨n,A,B,d,c,f⟩:=h.at' p _ e;rw[h.get hp]at d;cases d
 exact⟨_,f,by rw[c];exact kr,λ a b=>by rw[c];exact jH B A a b⟩
def Ren.r_to(h:Ren L W ns){q a b:Nat}(r:R L q a b):R W (ns.getD q 0) (ns.getD a 0) (ns.getD b 0):=by
 obtain⟨row,e,n⟩:=r;obtain⟨c,f,_,d⟩:=h.to e;exact⟨c,f,(d _ _).mpr ((kMV _ _ _ _).mpr ⟨a,b,n,rfl,rfl⟩)⟩
def Ren.r_of(h:Ren L W ns){q a b:Nat}(r:R W q a b):∃ q' a' b',R L q' a' b'/\q=ns.getD q' 0/\a=ns.getD a' 0/\b=ns.getD b' 0:=by
 obtain⟨c,g,n⟩:=r;obtain⟨p,row,hp,e,rfl,_,f⟩:=h.row g;obtain⟨x,y,d,rfl,rfl⟩:=(kMV _ _ _ _).mp ((f _ _).mp n);exact⟨p,x,y,⟨row,e,d⟩,rfl,rfl,rfl⟩
def Ren.e_to(h:Ren L W ns){a b:Nat}(r:E L a b):E W (ns.getD a 0) (ns.getD b 0):=by
 obtain⟨row,e,m⟩:=r;obtain⟨c,d,f,_⟩:=h.to e;exact⟨c,d,f.mem_iff.mpr (iR.mpr ⟨b,m,rfl⟩)⟩
def Ren.e_of(h:Ren L W ns){a b:Nat}(r:E W a b):∃ x y,E L x y/\a=ns.getD x 0/\b=ns.getD y 0:=by
 obtain⟨c,g,m⟩:=r;obtain⟨p,row,hp,e,rfl,d,_⟩:=h.row g;obtain⟨y,f,rfl⟩:=iR.mp (d.mem_iff.mp m);exact⟨p,y,⟨row,e,f⟩,rfl,rfl⟩
def kMB(G:Good L)(h:Ren L W ns):Good W:=by
 have sym:∀ a b,E W a b->E W b a:=λ a b r=>by
  obtain⟨x,y,s,rfl,rfl⟩:=h.e_of r;exact h.e_to (G.sym s)
 have reach:∀{x y:Nat},Reach L x y->Reach W (ns.getD x 0) (ns.getD y 0):=λ r=>by
  induction r with
  | here=>exact .here _
  | more _ e ih=>exact .more ih (h.e_to e)
 have c:∀ x,x<L.length->Reach W (ns.getD 0 0) x:=λ x n=>by
  obtain⟨p,hp,rfl⟩:=h.sur n;exact reach (G.con p hp)
 refine⟨by rw[h.len];exact G.three,λ p d e=>?_,λ p d e=>?_,λ p d a e m=>?_,λ q a b r=>?_,λ p hp=>?_,?_⟩
 ·obtain⟨x,row,n,j,rfl,l,_⟩:=h.row e
  intro z;subst z;have:=l.length_eq;rw[ak]at this;exact G.ne _ _ j (qb.mp this.symm)
 ·obtain⟨x,row,n,j,rfl,l,_⟩:=h.row e
  refine l.nodup_iff.mpr ?_;rw[BS,km];exact Ff (λ{u v} J H z e=>z (h.inj (G.rng _ _ _ j J).1 (G.rng _ _ _ j H).1 e)) (G.nd _ _ j)
 ·obtain⟨x,row,n,j,rfl,l,_⟩:=h.row e
  obtain⟨y,M,rfl⟩:=iR.mp (l.mem_iff.mp m);obtain⟨A,I⟩:=G.rng _ _ _ j M;exact⟨by rw[h.len];exact h.lt A,λ e=>I (h.inj A n e)⟩
 ·obtain⟨N,Q,O,s,rfl,rfl,rfl⟩:=h.r_of r
  exact h.r_to (G.tri _ _ _ s)
 ·rw[h.len]at hp
  have f:=G.three;exact(c 0 (by omega)).symm sym |>.trans (c p hp)
 ·have g:∀(V:Rows),V.map jd=(cw V.length).map λ x=>(V.getD x []).length:=λ V=>by
   refine CF (by simp) λ i h1 o=>?_;simp at h1 o;simp[aj,h1]
  have j:(W.map jd).sum=(ns.map λ x=>(W.getD x []).length).sum:=by
   rw[g W,h.len];exact(h.perm.symm.map _).sum_nat
  have B:(ns.map λ x=>(W.getD x []).length)=L.map jd:=by
   refine CF (by simp[h.nlen]) λ i h1 o=>?_;simp at h1 o;obtain⟨d,C,l,_⟩:=h.to (ae o);have D:ns[i]=ns.getD i 0:=by simp[aj,h1]
   have:=l.length_eq;rw[ak]at this;simp only[yq];rw[D,aj,C];exact this
  rw[j,B,h.len];exact G.tot
end
def Ro(r r':List Nat):Prop:=∃ A B,r=A++B/\r'=B++A
def Ro.trans{r r' b:List Nat}:Ro r r'->Ro r' b->Ro r b:=by
 rintro⟨A,B,rfl,rfl⟩ ⟨C,D,h1,rfl⟩;rcases List.append_eq_append_iff.mp h1 with⟨a,rfl,rfl⟩ | ⟨c,rfl,rfl⟩
 ·exact⟨a,D++B,by simp,by simp⟩
 ·exact⟨A++C,c,by simp,by simp⟩
def Ro.perm{r r':List Nat}:Ro r r'->r.Perm r':=by
 rintro⟨A,B,rfl,rfl⟩;exact kr
def Ro.mem{r r':List Nat}(h:Ro r r')(x:Nat):x∈r↔x∈r':=h.perm.mem_iff
def Ro.nd{r r':List Nat}(h:Ro r r'):r.Nodup↔r'.Nodup:=h.perm.nodup_iff
def Ro.nx{r r':List Nat}(h:Ro r r')(a b:Nat):Nx r a b↔Nx r' a b:=by
 obtain⟨A,B,rfl,rfl⟩:=h;exact jH A B a b
def rot(row:List Nat)(M:Nat):List Nat:=row.drop (row.idxOf M)++row.take (row.idxOf M)
structure Nb(L:Rows):Prop where
 nd:∀(p:Nat)(row:List Nat),L[p]?=some row->row.Nodup
 rng:∀(p:Nat)(row:List Nat)(a:Nat),L[p]?=some row->a∈row->a<L.length/\a≠p
 sym:∀ a b,E L a b->E L b a
structure Wb(L:Rows):Prop extends Nb L where
 three:3<=L.length
 con:∀ p,p<L.length->Reach L 0 p
theorem Nb.e{L:Rows}(S:Nb L){p q:Nat}(h:E L p q):p<L.length/\q<L.length/\q≠p:=by
 obtain⟨row,e,m⟩:=h;exact⟨(ao.mp e).1,(S.rng p row q e m).1,(S.rng p row q e m).2⟩
def Nb.len{L:Rows}(S:Nb L){p:Nat}{row:List Nat}(h:L[p]?=some row):row.length<=L.length:=by
 have:=eY (S.nd p row h) (l₂:=cw L.length) λ x a=>jr.mpr (S.rng p row x h a).1;rwa[iH]at this
def Wb.of{L:Rows}(G:Good L):Wb L:=⟨⟨G.nd,G.rng,λ a b h=>G.sym h⟩,G.three,G.con⟩
def uH{W:Rows}(S:Nb W){x y:Nat}(h:E W x y):∃ z,R W y z x/\nxt W (x,y)=(y,z)/\E W y z:=by
 obtain⟨row,e,m⟩:=S.sym _ _ h;obtain⟨z,n⟩:=kRI m;exact⟨z,⟨row,e,n⟩,mL S.nd ⟨row,e,n⟩,⟨row,e,(kT n).1⟩⟩
def kGP{W:Rows}(S:Nb W){x y:Nat}(h:E W x y)(n:Nat):E W (it (nxt W) n (x,y)).1 (it (nxt W) n (x,y)).2:=by
 have:=(mK S.nd S.sym).it n (mem_steps.mpr h);exact mem_steps.mp this
def kTJ{α:Type}[DecidableEq α](f:α->α)(x:α){k:Nat}(h:it f k x=x)(n:Nat):it f (k*n) x=x:=by
 induction n with
 | zero=>rfl
 | succ n ih=>rw[Nat.mul_succ,bF,h,ih]
def kND{α:Type}[DecidableEq α](f:α->α)(x:α){k:Nat}(h:it f k x=x)(n:Nat):it f n x=it f (n % k) x:=by
 conv=>lhs;rw[<-Nat.mod_add_div n k]
 rw[bF,kTJ f x h]
end Tri
local macro_rules | `(tactic| walk_at "sort_open gallop")=>`(tactic| delta $(Lean.mkIdent (Lean.mkPrivateNameCore `PySem.Builtin.List.W1All `PySem.Builtin.gallop)):ident)
namespace Srt
set_option autoImplicit false
open PySem PyProof.Rows
def vL:Bool->bh->Array bh->Nat->Nat->Nat->StateT eR Sem (Option Nat):=sortPriv% PySem.Builtin.gallop
def cN(left:Bool)(key:bh)(arr:Array bh)(base:Nat)(i:Nat):StateT eR Sem (Option Bool):=do
 let x <-elem' arr (base+i)
 if left then lt' x key else return (<-lt' key x).map (!·)
section
variable {M:yt} {A:fq} {E:ar->ay->Prop} {s:ay}
def kRK(left:Bool)(key:bh)(arr:Array bh)(base n b a:Nat):StateT eR Sem (Option Nat):=do
 let mut lo:=b
 let mut hi:=a
 for _ in [0:n] do
  if lo >= hi then break
  let m:=lo+(hi-lo) / 2
  let some more <-cN left key arr base m | return none
  if more then lo:=m+1 else hi:=m
 return some hi
variable {left:Bool} {key:bh} {arr:Array bh} {base n hint:Nat} {Q:Option Nat->eR->Prop} {st:eR}
def oA(b:Nat->Bool){lo hi:Nat}
  (D:∀ i,i<n->∀ Q:Option Bool->eR->Prop,Q (some (b i)) st->wpS M A E s (cN left key arr base i) Q st)
  (mono:∀ i j,i<=j->j<n->b j=true->b i=true) (p:lo<=hi) (v:hi<=n) (h1:∀ i,i<lo->b i=true) (y:∀ i,hi<=i->i<n->b i=false)
  (h:∀ k,k<=n->(∀ i,i<k->b i=true)->(∀ i,k<=i->i<n->b i=false)->Q (some k) st):wpS M A E s (kRK left key arr base n lo hi) Q st:=by
 unfold kRK
 refine ck (uy (jx (I:=λ x c a=>a=st/\∃ l r,c=(none,l,r)/\l<=r/\r<=n/\r-l<=n-x/\(∀ i,i<l->b i=true)/\∀ i,r<=i->i<n->b i=false)
  (Q:=λ c a=>a=st/\∃ l,c=(none,l,l)/\l<=n/\(∀ i,i<l->b i=true)/\∀ i,l<=i->i<n->b i=false) ?step ?fin ⟨rfl,lo,hi,rfl,p,v,by omega,h1,y⟩) ?post)
 case post =>
  rintro c a ⟨rfl,l,rfl,u,f,g⟩;exact df (h l u f g)
 case fin =>
  rintro c a ⟨rfl,l,r,rfl,C,o,d,f,g⟩;have:l=r:=by omega
  subst this;exact⟨rfl,l,rfl,o,f,g⟩
 case step =>
  rintro x c a _ G ⟨rfl,l,r,rfl,C,o,d,f,g⟩;dsimp only;by_cases m:l >= r
  ·rw[if_pos m]
   have:l=r:=by omega
   subst this;exact df ⟨rfl,l,rfl,o,f,g⟩
  ·rw[if_neg m]
   refine ck (D _ (by omega) _ ?_)
   cases e:b (l+(r-l) / 2)
   case true =>
    simp only[if_true];exact df ⟨rfl,_,r,rfl,by omega,o,by omega,λ i hi=>mono i _ (by omega) (by omega) e,g⟩
   case false =>
    simp only[eP,if_false];refine df ⟨rfl,l,_,rfl,by omega,by omega,by omega,f,λ i q B=>?_⟩
    cases z:b i with
    | false=>rfl
    | true=>rw[mono _ i q B z]at e;cases e
def kCR(b:Nat->Bool)
  (m:∀ i,i<n->∀ Q:Option Bool->eR->Prop,Q (some (b i)) st->wpS M A E s (cN left key arr base i) Q st)
  (mono:∀ i j,i<=j->j<n->b j=true->b i=true) (C:hint<n)
  (h:∀ k,k<=n->(∀ i,i<k->b i=true)->(∀ i,k<=i->i<n->b i=false)->Q (some k) st):wpS M A E s (vL left key arr base n hint) Q st:=by
 unfold vL
 walk_at "sort_open gallop"
 dsimp only
 have B:∀{i j:Nat},i<=j->j<n->b i=false->b j=false:=λ{i j} h1 D e=>by
  cases z:b j with
  | false=>rfl
  | true=>rw[mono i j h1 D z]at e;cases e
 refine ck (m hint C _ ?_)
 cases e:b hint
 case true =>
  simp only[if_true]
  refine ck (uy (jx (I:=λ x c a=>a=st/\∃ l o,c=(none,l,o)/\l<o/\x+1<=o/\hint+l<n/\b (hint+l)=true)
   (Q:=λ c a=>a=st/\∃ l o,c=(none,l,o)/\l<o/\hint+l<n/\b (hint+l)=true/\(n-hint<=o\/(hint+o<n/\b (hint+o)=false))) ?step ?fin ⟨rfl,0,1,rfl,by omega,by omega,by omega,e⟩) ?post)
  case fin =>
   rintro c a ⟨rfl,l,o,rfl,lo,r,g,f⟩;exact⟨rfl,l,o,rfl,lo,g,f,.inl (by omega)⟩
  case step =>
   rintro x c a _ G ⟨rfl,l,o,rfl,lo,r,g,f⟩;dsimp only;by_cases d:o >= n-hint
   ·rw[if_pos d]
    exact df ⟨rfl,l,o,rfl,lo,g,f,.inl d⟩
   ·rw[if_neg d]
    refine ck (m _ (by omega) _ ?_)
    cases z:b (hint+o)
    case true =>
     simp only[ze,eP,if_false];exact df ⟨rfl,o,_,rfl,by omega,by omega,by omega,z⟩
    case false =>
     simp only[Es,if_true];exact df ⟨rfl,l,o,rfl,lo,g,f,.inr ⟨by omega,z⟩⟩
  case post =>
   rintro c a ⟨rfl,l,o,rfl,lo,g,f,q⟩;refine oA (lo:=hint+l+1) (hi:=hint+min o (n-hint)) b m mono (by omega) (by omega) (λ i v=>mono i (hint+l) (by omega) g f) (λ i y u=>?_) h;rcases q with z | ⟨H,p⟩
   ·omega
   ·exact B (i:=hint+o) (by omega) u p
 case false =>
  simp only[eP,if_false]
  refine ck (uy (jx (I:=λ x c a=>a=st/\∃ l o,c=(none,l,o)/\l<o/\x+1<=o/\l<=hint/\b (hint-l)=false)
   (Q:=λ c a=>a=st/\∃ l o,c=(none,l,o)/\l<o/\l<=hint/\b (hint-l)=false/\(hint+1<=o\/(o<=hint/\b (hint-o)=true))) ?step ?fin ⟨rfl,0,1,rfl,by omega,by omega,by omega,e⟩) ?post)
  case fin =>
   rintro c a ⟨rfl,l,o,rfl,lo,r,g,f⟩;exact⟨rfl,l,o,rfl,lo,g,f,.inl (by omega)⟩
  case step =>
   rintro x c a _ G ⟨rfl,l,o,rfl,lo,r,g,f⟩;dsimp only;by_cases d:o >= hint+1
   ·rw[if_pos d]
    exact df ⟨rfl,l,o,rfl,lo,g,f,.inl d⟩
   ·rw[if_neg d]
    refine ck (m _ (by omega) _ ?_)
    cases z:b (hint-o)
    case false =>
     simp only[eP,if_false];exact df ⟨rfl,o,_,rfl,by omega,by omega,by omega,z⟩
    case true =>
     simp only[if_true];exact df ⟨rfl,l,o,rfl,lo,g,f,.inr ⟨by omega,z⟩⟩
  case post =>
   rintro c a ⟨rfl,l,o,rfl,lo,g,f,q⟩;refine oA (lo:=hint+1-min o (hint+1)) (hi:=hint-l) b m mono (by omega) (by omega) (λ i v=>?_) (λ i y u=>B (i:=hint-l) y u f) h;rcases q with z | ⟨H,p⟩
   ·omega
   ·exact mono i (hint-o) (by omega) (by omega) p
end
section
variable {α:Type}
structure Wk(lb:α->α->Bool):Prop where
 irr:∀ a,lb a a=false
 neg:∀ a b c,lb a c=true->lb a b=true\/lb b c=true
 tr:∀ a b c,lb a b=true->lb b c=true->lb a c=true
variable {lb:α->α->Bool}
def le(lb:α->α->Bool)(a b:α):Prop:=lb b a=false
def Wk.refl(W:Wk lb)(a:α):le lb a a:=W.irr a
def Wk.of_lt(W:Wk lb){a b:α}(h:lb a b=true):le lb a b:=by
 unfold le
 cases e:lb b a with
 | false=>rfl
 | true=>have:=W.tr _ _ _ h e;rw[W.irr]at this;cases this
def Wk.trans(W:Wk lb){a b c:α}(h:le lb a b)(k:le lb b c):le lb a c:=by
 unfold le at *
 cases e:lb c a with
 | false=>rfl
 | true =>
  rcases W.neg c b a e with z | z
  ·rw[k]at z;cases z
  ·rw[h]at z;cases z
def jC(lb:α->α->Bool)(l:List α):Prop:=l.Pairwise (le lb)
structure Mg(lb:α->α->Bool)(A B:List α)(out ra rb:List α):Prop where
 sa:jC lb (out++ra)
 sb:jC lb (out++rb)
 pm:(out++(ra++rb)).Perm (A++B)
def Mg.moveA{A B a c d b:List α}(h:Mg lb A B a (c++d) b)(i:∀ x∈c,∀ y∈b,le lb x y):Mg lb A B (a++c) d b:=by
 refine⟨by rw[bp];exact h.sa,?_,?_⟩
 ·have h1:=eO.mp h.sa
  have f:=eO.mp h.sb;have l:=eO.mp h1.2.1;rw[jC,bp];refine eO.mpr ⟨h1.1,eO.mpr ⟨l.1,f.2.1,i⟩,λ x g y j=>?_⟩;rcases cf.mp j with z | z
  ·exact h1.2.2 x g y (dc _ z)
  ·exact f.2.2 x g y z
 ·refine ur ?_ h.pm
  simp only[bp];exact AK _
def Mg.swap{A B a b c:List α}(h:Mg lb A B a b c):Mg lb B A a c b :=
 ⟨h.sb,h.sa,((kr).append_left a).trans (h.pm.trans kr)⟩
def Mg.moveB{A B a c b d:List α}(h:Mg lb A B a b (c++d))(f:∀ x∈c,∀ y∈b,le lb x y):Mg lb A B (a++c) b d:=(h.swap.moveA f).swap
def Res(lb:α->α->Bool)(A B r:List α):Prop:=jC lb r/\r.Perm (A++B)
def Mg.endA{A B a b:List α}(h:Mg lb A B a b []):Res lb A B (a++b++[]):=⟨by simpa using h.sa,by simpa using h.pm⟩
def Mg.endB{A B a b:List α}(h:Mg lb A B a [] b):Res lb A B (a++[]++b):=⟨by simpa using h.sb,by simpa using h.pm⟩
def Mg.last{A B a b:List α}{z:α}(h:Mg lb A B a [z] b)(hz:∀ y∈b,le lb y z):Res lb A B (a++b++[z]):=by
 refine⟨?_,?_⟩
 ·have h1:=eO.mp h.sa
  have f:=eO.mp h.sb;refine eO.mpr ⟨h.sb,qc _ _,λ x d y c=>?_⟩;have:y=z:=by simpa using c
  subst this;rcases cf.mp d with w | w
  ·exact h1.2.2 x w y (by simp)
  ·exact hz x w
 ·refine ur ?_ h.pm
  rw[bp];exact kr.append_left a
end
def mO:Array bh->Array bh->StateT eR Sem (Array bh):=sortPriv% PySem.Builtin.mergeLo
def xK:Nat->StateT eR Sem Unit:=sortPriv% PySem.Builtin.setMinGallop
abbrev wH(st:eR)(g:Nat):eR:=CU (kindOf st) (cy st) (cx st) g (uz st)
def setMinGallop'_eq(g:Nat):xK g=modify λ s=>wH s g:=rfl
end Srt
local macro_rules | `(tactic| walk_at "sort_open mergeLo")=>`(tactic| delta $(Lean.mkIdent (Lean.mkPrivateNameCore `PySem.Builtin.List.W1All `PySem.Builtin.mergeLo)):ident)
namespace Srt
set_option autoImplicit false
open PySem PyProof.Rows
section
variable {M:yt} {A:fq} {E:ar->ay->Prop} {s:ay} {lb:bh->bh->Bool} {D:bh->Prop} {kd:oy}
def vY(M:yt)(A:fq)(E:ar->ay->Prop)(s:ay)(lb:bh->bh->Bool)(D:bh->Prop)(kd:oy):Prop :=
 ∀ x y,D x->D y->∀(st:eR)(Q:Option Bool->eR->Prop),kindOf st=kd->Q (some (lb x y)) st->wpS M A E s (lt' x y) Q st
def qB{arr:Array bh}{i:Nat}{p:bh}{Q:bh->eR->Prop}{st:eR}(h:arr[i]?=some p)(q:Q p st):wpS M A E s (elem' arr i) Q st:=by
 rw[elem'_eq,h];exact df q
def Sm(st a:eR):Prop:=kindOf a=kindOf st/\cy a=cy st/\cx a=cx st/\uz a=uz st
def Sm.refl(st:eR):Sm st st:=⟨rfl,rfl,rfl,rfl⟩
def Sm.gal{st a:eR}(h:Sm st a)(g:Nat):Sm st (wH a g):=h
def wL{x:String}{Q:Unit->eR->Prop}{st:eR}(q:Q () st):wpS M A E s (liftM (rule x):StateT eR Sem Unit) Q st:=GT (xb ⟨rfl,q⟩)
def kCT(d:vY M A E s lb D kd){left:Bool}{key x:bh}{arr:Array bh}{base i:Nat}{Q:Option Bool->eR->Prop}{st:eR}(b:kindOf st=kd)(f:arr[base+i]?=some x)(c:D key)(a:D x)
  (q:Q (some (if left then lb x key else !lb key x)) st):wpS M A E s (cN left key arr base i) Q st:=by
 unfold cN;refine ck (qB f ?_)
 cases left with
 | true =>
  simp only[if_true]at q ⊢;exact d _ _ a c st _ b q
 | false =>
  simp only[eP,if_false]at q ⊢;exact ck (d _ _ c a st _ b (df q))
def aD(W:Wk lb)(u:vY M A E s lb D kd){left:Bool}{key:bh}{arr:Array bh}{base n b:Nat}{Q:Option Nat->eR->Prop}{st:eR}(l:kindOf st=kd)(v:D key)(f:∀ x∈arr.toList,D x)
  (y:base+n<=arr.size) (r:∀ i j (hi:i<=j) (d:j<n),le lb (arr[base+i]'(by omega)) (arr[base+j]'(by omega))) (m:b<n)
  (h:∀ k,k<=n->(∀ i (hi:i<k) (a:i<n),if left then lb (arr[base+i]'(by omega)) key=true else le lb (arr[base+i]'(by omega)) key) ->
   (∀ i (hi:k<=i) (a:i<n),if left then le lb key (arr[base+i]'(by omega)) else lb key (arr[base+i]'(by omega))=true)->Q (some k) st):wpS M A E s (vL left key arr base n b) Q st:=by
 have g:∀ i,i<n->arr[base+i]?=some (arr.getD (base+i) key):=λ i hi=>by
  rw[getElem?_pos arr (base+i) (by omega)]
  congr 1
  simp[Gb,show base+i<arr.size by omega]
 have c:∀ i (hi:i<n),arr.getD (base+i) key=arr[base+i]'(by omega):=λ i hi=>by simp[Gb,show base+i<arr.size by omega]
 refine kCR (λ i=>if left then lb (arr.getD (base+i) key) key else !lb key (arr.getD (base+i) key)) (λ i hi Q q=>kCT u l (g i hi) v (by rw[c i hi];exact f _ (by simp)) q) (λ i j hi d e=>?_) m (λ k o h1 p=>h k o (λ i hi a=>?_) (λ i hi a=>?_))
 ·have:=r i j hi d
  rw[c i (by omega)];rw[c j d]at e
  cases left with
  | true =>
   simp only[if_true]at e ⊢;rcases W.neg _ (arr[base+i]'(by omega)) _ e with z | z
   ·rw[show lb _ _=false from this]at z;cases z
   ·exact z
  | false =>
   simp only[eP,if_false,Dq]at e ⊢;exact W.trans (lb:=lb) this (show le lb _ _ from e)
 ·have:=h1 i hi
  rw[c i a]at this
  cases left with
  | true=>simpa using this
  | false=>simp only[eP,if_false,Dq]at this ⊢;exact this
 ·have:=p i hi a
  rw[c i a]at this
  cases left with
  | true=>simp only[if_true]at this ⊢;exact this
  | false=>simp only[eP,if_false,Bool.not_eq_false']at this ⊢;exact this
abbrev LS:=Option (Array bh)×Array bh×Nat×Nat×Nat×Nat×Nat
section
variable (a b:Array bh)
def pC(c:Array bh)(d f g k h:Nat):StateT eR Sem (ForInStep LS):=do
 let x <-elem' a d
 if(d+1+1 == a.size)=true then pure (.done (some (c.push x++b.extract f++a.extract (d+1)),c.push x,d+1,f,g,k,h))
 else if(decide (k<7) && decide (h<7))=true then pure (.done (none,c.push x,d+1,f,g,k,h)) else pure (.yield (none,c.push x,d+1,f,g,k,h))
def pB(d:Array bh)(f c g k ob:Nat):StateT eR Sem (ForInStep LS):=do
 let y <-elem' b c
 if(c+1 == b.size)=true then pure (.done (some (d.push y++a.extract f++b.extract (c+1)),d.push y,f,c+1,g,k,ob))
 else do
  let x <-elem' a f
  let r <-vL true x b (c+1) (b.size-(c+1)) 0
  match r with
  | some k1 =>
   if k1>0 then
    if(c+1+k1 == b.size)=true then pure (.done (some (d.push y++b.extract (c+1) (c+1+k1)++a.extract f++b.extract (c+1+k1)),d.push y++b.extract (c+1) (c+1+k1),f,c+1+k1,g,k,k1))
    else pC a b (d.push y++b.extract (c+1) (c+1+k1)) f (c+1+k1) g k k1
   else pC a b (d.push y) f (c+1) g k k1
  | x=>pure (.done (some (d.push y++a.extract f++b.extract (c+1)),d.push y,f,c+1,g,k,ob))
def pA(d:Array bh)(c f g h ob:Nat):StateT eR Sem (ForInStep LS):=do
 xK g
 let y <-elem' b f
 let r <-vL false y a c (a.size-c) 0
 match r with
 | some k =>
  if k>0 then
   if(c+k+1 == a.size)=true then pure (.done (some (d++a.extract c (c+k)++b.extract f++a.extract (c+k)),d++a.extract c (c+k),c+k,f,g,k,ob))
   else if(c+k == a.size)=true then pure (.done (some (d++a.extract c (c+k)++a.extract (c+k)++b.extract f),d++a.extract c (c+k),c+k,f,g,k,ob))
   else pB a b (d++a.extract c (c+k)) (c+k) f g k ob
  else pB a b d c f g k ob
 | x=>pure (.done (some (d++a.extract c++b.extract f),d,c,f,g,h,ob))
abbrev LS1:=Option (Array bh)×Array bh×Nat×Nat×Nat×Nat
def p1(mg:Nat)(c:LS1):StateT eR Sem (ForInStep LS1):=do
 let y <-elem' b c.2.2.2.1
 let x <-elem' a c.2.2.1
 let r <-lt' y x
 match r with
 | some bw =>
  if bw=true then do
   let y <-elem' b c.2.2.2.1
   if(c.2.2.2.1+1 == b.size)=true then pure (.done (some (c.2.1.push y++a.extract c.2.2.1++b.extract (c.2.2.2.1+1)),c.2.1.push y,c.2.2.1,c.2.2.2.1+1,0,c.2.2.2.2.2+1))
   else if c.2.2.2.2.2+1 >= mg then pure (.done (none,c.2.1.push y,c.2.2.1,c.2.2.2.1+1,0,c.2.2.2.2.2+1))
   else pure (.yield (none,c.2.1.push y,c.2.2.1,c.2.2.2.1+1,0,c.2.2.2.2.2+1))
  else do
   let x <-elem' a c.2.2.1
   if(c.2.2.1+1+1 == a.size)=true then pure (.done (some (c.2.1.push x++b.extract c.2.2.2.1++a.extract (c.2.2.1+1)),c.2.1.push x,c.2.2.1+1,c.2.2.2.1,c.2.2.2.2.1+1,0))
   else if c.2.2.2.2.1+1 >= mg then pure (.done (none,c.2.1.push x,c.2.2.1+1,c.2.2.2.1,c.2.2.2.2.1+1,0))
   else pure (.yield (none,c.2.1.push x,c.2.2.1+1,c.2.2.2.1,c.2.2.2.2.1+1,0))
 | x=>pure (.done (some (c.2.1++a.extract c.2.2.1++b.extract c.2.2.2.1),c.2.1,c.2.2.1,c.2.2.2.1,c.2.2.2.2.1,c.2.2.2.2.2))
abbrev LS0:=Option (Array bh)×Array bh×Nat×Nat×Nat
def p0(c:LS0):StateT eR Sem (ForInStep LS0):=do
 let d <-forIn [:a.size+b.size] ((none,c.2.1,c.2.2.1,c.2.2.2.1,0,0):LS1) λ x d=>p1 a b c.2.2.2.2 d
 match d.1 with
 | some r=>pure (.done (some r,d.2.1,d.2.2.1,d.2.2.2.1,c.2.2.2.2))
 | none=>do
  liftM (rule "list.sort.gallop")
  let f <-forIn [:a.size+b.size] ((none,d.2.1,d.2.2.1,d.2.2.2.1,c.2.2.2.2+1,d.2.2.2.2.1,d.2.2.2.2.2):LS) λ x f =>
   if f.2.2.2.2.1>1 then pA a b f.2.1 f.2.2.1 f.2.2.2.1 (f.2.2.2.2.1-1) f.2.2.2.2.2.1 f.2.2.2.2.2.2 else pA a b f.2.1 f.2.2.1 f.2.2.2.1 f.2.2.2.2.1 f.2.2.2.2.2.1 f.2.2.2.2.2.2
  match f.1 with
  | some r=>pure (.done (some r,f.2.1,f.2.2.1,f.2.2.2.1,f.2.2.2.2.1))
  | none=>do
   xK (f.2.2.2.2.1+1)
   pure (.yield (none,f.2.1,f.2.2.1,f.2.2.2.1,f.2.2.2.2.1+1))
def mergeLo'_parts:mO a b=(do
  liftM (rule "list.sort.merge-lo")
  let y <-elem' b 0
  if(1 == b.size)=true then pure (#[y]++a.extract 0++b.extract 1)
  else if(0+1 == a.size)=true then pure (#[y]++b.extract 1++a.extract 0)
  else do
   let st <-get
   let c <-forIn [:a.size+b.size] ((none,#[y],0,1,gallopOf st):LS0) λ x c=>p0 a b c
   match c.1 with
   | some r=>pure r
   | none=>unsupported "internal:list.sort.merge-bound"):=by
 unfold mO
 walk_at "sort_open mergeLo"
 dsimp only;refine congrArg _ (funext λ _=>?_);refine congrArg _ (funext λ y=>?_);refine congrArg _ ?_;refine congrArg _ ?_;refine congrArg _ (funext λ st=>?_);refine congr (congrArg _ (congrArg _ (funext λ x=>funext λ c=>?_))) (funext λ c=>by cases c.1<;>rfl);unfold p0;refine congr (congrArg _ (congrArg _ (funext λ x=>funext λ d=>?_))) (funext λ d=>?_)
 ·unfold p1
  refine congrArg _ (funext λ _=>?_);refine congrArg _ (funext λ _=>?_);refine congrArg _ (funext λ r=>?_);cases r<;>rfl
 ·cases d.1 with
  | some r=>rfl
  | none =>
   dsimp only;refine congrArg _ (funext λ _=>?_);refine congr (congrArg _ (congrArg _ (funext λ x=>funext λ f=>?_))) (funext λ f=>by cases f.1<;>rfl);have tail:∀(h:Array bh)(j l g k i:Nat),True:=λ _ _ _ _ _ _=>trivial;refine ite_congr rfl (λ _=>?_) (λ _=>?_)
   all_goals
    unfold pA;refine congrArg _ (funext λ _=>?_);refine congrArg _ (funext λ y=>?_);refine congrArg _ (funext λ r=>?_)
    cases r with
    | none=>rfl
    | some k =>
     dsimp only;refine ite_congr rfl (λ _=>ite_congr rfl (λ _=>rfl) (λ _=>ite_congr rfl (λ _=>rfl) (λ _=>?_))) (λ _=>?_)
     all_goals
      unfold pB;refine congrArg _ (funext λ y=>?_);refine ite_congr rfl (λ _=>rfl) (λ _=>?_);refine congrArg _ (funext λ x=>?_);refine congrArg _ (funext λ r=>?_);cases r<;>rfl
end
end
section
variable {α:Type}
def wY(a:Array α)(i:Nat):(a.extract i).toList=a.toList.drop i:=by
 rw[va,qm];exact ky (by simp)
def xG(a:Array α)(i k:Nat):(a.extract i (i+k)).toList=(a.toList.drop i).take k:=by
 rw[va,qm]
 congr 1
 omega
def drop_one{a:Array α}{i:Nat}(h:i<a.size):a.toList.drop i=[a[i]]++a.toList.drop (i+1):=by
 rw[Bc (by simpa using h)]
 rfl
def kEM(l:List α)(i k:Nat):l.drop i=(l.drop i).take k++l.drop (i+k):=by
 conv=>lhs;rw[<-gk k (l.drop i)]
 rw[AL]
end
section
variable {M:yt} {A:fq} {E:ar->ay->Prop} {s:ay} {lb:bh->bh->Bool} {D:bh->Prop} {kd:oy} {a b:Array bh}
structure Hy(M:yt)(A:fq)(E:ar->ay->Prop)(s:ay)(lb:bh->bh->Bool)(D:bh->Prop)(kd:oy)(a b:Array bh):Prop where
 W:Wk lb
 L:vY M A E s lb D kd
 da:∀ x∈a.toList,D x
 db:∀ x∈b.toList,D x
 sa:jC lb a.toList
 sb:jC lb b.toList
 last:∀(h:0<a.size),∀ y∈b.toList,le lb y a[a.size-1]
def MI(lb:bh->bh->Bool)(a b:Array bh)(c:Array bh)(f d:Nat):Prop :=
 Mg lb a.toList b.toList c.toList (a.toList.drop f) (b.toList.drop d)/\f+1<a.size/\d<b.size/\c.size=f+d
def Yd(lb:bh->bh->Bool)(a b:Array bh)(n:Nat){d:Type}(c:Option (Array bh)×Array bh×Nat×Nat×d):Prop:=c.1=none/\MI lb a b c.2.1 c.2.2.1 c.2.2.2.1/\n<=c.2.1.size
def Dn(lb:bh->bh->Bool)(a b:Array bh)(n:Nat){d:Type}(c:Option (Array bh)×Array bh×Nat×Nat×d):Prop:=(∃ r,c.1=some r/\Res lb a.toList b.toList r.toList)\/Yd lb a b n c
def RR(lb:bh->bh->Bool)(a b:Array bh)(n:Nat){d:Type}:ForInStep (Option (Array bh)×Array bh×Nat×Nat×d)->Prop
 | .done c=>Dn lb a b n c
 | .yield c=>Yd lb a b n c
def wG(W:Wk lb){a:Array bh}(h:jC lb a.toList){i j:Nat}(b:i<=j)(c:j<a.size):le lb (a[i]'(by omega)) a[j]:=by
 by_cases e:i=j
 ·subst e;exact W.refl _
 ·have:=qh.mp h i j (by simp;omega) (by simp;omega) (by omega)
  simpa using this
def yS{a:Array bh}{i:Nat}{x:bh}(h:x∈a.toList.drop i):∃ j,∃ hj:j<a.size,i<=j/\x=a[j]:=by
 obtain⟨k,b,e⟩:=eV.mp h;rw[iP]at b;refine⟨i+k,by simp at b;omega,by omega,?_⟩;rw[<-e,Bo];simp
def kHA{c:Array bh}{f d:Nat}(h:Mg lb a.toList b.toList c.toList (a.toList.drop f) (b.toList.drop d))(e:d=b.size):Res lb a.toList b.toList (c++a.extract f++b.extract d).toList:=by
 rw[iC,iC,wY,wY];have z:b.toList.drop d=[]:=oq (by simp;omega);rw[z]at h ⊢;exact h.endA
def kVL{c:Array bh}{d f:Nat}(h:Mg lb a.toList b.toList c.toList (a.toList.drop d) (b.toList.drop f))(e:d=a.size):Res lb a.toList b.toList (c++a.extract d++b.extract f).toList:=by
 rw[iC,iC,wY,wY];have z:a.toList.drop d=[]:=oq (by simp;omega);rw[z]at h ⊢;exact h.endB
def cJ(H:Hy M A E s lb D kd a b){d:Array bh}{c f:Nat}(h:Mg lb a.toList b.toList d.toList (a.toList.drop c) (b.toList.drop f))(e:c+1=a.size):Res lb a.toList b.toList (d++b.extract f++a.extract c).toList:=by
 rw[iC,iC,wY,wY]
 have z:a.toList.drop c=[a[a.size-1]'(by omega)]:=by
  rw[drop_one (show c<a.size by omega),oq (by simp;omega)];simp only[iU]
  congr 2
  omega
 rw[z]at h ⊢;exact h.last λ y g=>H.last (by omega) y (An g)
def kCZ(H:Hy M A E s lb D kd a b){f:Array bh}{g d:Nat}(p:g<a.size)(n:d<b.size)(h:Mg lb a.toList b.toList f.toList (a.toList.drop g) (b.toList.drop d))(c:le lb b[d] a[g]):Mg lb a.toList b.toList (f.push b[d]).toList (a.toList.drop g) (b.toList.drop (d+1)):=by
 rw[drop_one n]at h;rw[vd];refine h.moveB λ x m y i=>?_;have:x=b[d]:=by simpa using m
 subst this;obtain⟨j,o,l,rfl⟩:=yS i;exact H.W.trans c (wG H.W H.sa l o)
def kLD(H:Hy M A E s lb D kd a b){f:Array bh}{d g:Nat}(i:d<a.size)(h:Mg lb a.toList b.toList f.toList (a.toList.drop d) (b.toList.drop g))(c:∀ y∈b.toList.drop g,le lb a[d] y):Mg lb a.toList b.toList (f.push a[d]).toList (a.toList.drop (d+1)) (b.toList.drop g):=by
 rw[drop_one i]at h;rw[vd];refine h.moveA λ x l y j=>?_;have:x=a[d]:=by simpa using l
 subst this;exact c y j
def kVP(H:Hy M A E s lb D kd a b){d:Nat}{x:bh}(i:d<b.size)(c:le lb x b[d]):∀ y∈b.toList.drop d,le lb x y:=λ y f=>by
 obtain⟨j,h,g,rfl⟩:=yS f;exact H.W.trans c (wG H.W H.sb g h)
def kRQ(H:Hy M A E s lb D kd a b){st:eR}(n:kindOf st=kd){d:Array bh}{f g u v mg:Nat}(h:MI lb a b d f g){Q:ForInStep LS1->eR->Prop}
  (q:∀ r,RR lb a b (d.size+1) r->Q r st):wpS M A E s (p1 a b mg (none,d,f,g,u,v)) Q st:=by
 obtain⟨m,h1,i,o⟩:=h;have l:f<a.size:=by omega
 unfold p1;dsimp only;refine ck (qB (getElem?_pos b g i) ?_);refine ck (qB (getElem?_pos a f l) ?_);refine ck (H.L _ _ (H.db _ (by simp)) (H.da _ (by simp)) st _ n ?_)
 cases e:lb b[g] a[f]
 case true =>
  simp only[if_true];refine ck (qB (getElem?_pos b g i) ?_);have j:=kCZ H l i m (H.W.of_lt e);by_cases c:g+1=b.size
  ·rw[if_pos (by simpa using c)]
   exact df (q _ (.inl ⟨_,rfl,kHA j c⟩))
  ·rw[if_neg (by simpa using c)]
   have y:Yd lb a b (d.size+1) (none,d.push b[g],f,g+1,(0,v+1)):=⟨rfl,⟨j,h1,by show g+1<b.size;omega,by show(d.push b[g]).size=f+(g+1);rw[iz];omega⟩,by show d.size+1<=(d.push b[g]).size;rw[iz];omega⟩
   split
   ·exact df (q _ (.inr y))
   ·exact df (q _ y)
 case false =>
  simp only[eP,if_false];refine ck (qB (getElem?_pos a f l) ?_);have j:=kLD H l m (kVP H i e);by_cases c:f+1+1=a.size
  ·rw[if_pos (by simpa using c)]
   exact df (q _ (.inl ⟨_,rfl,cJ H j c⟩))
  ·rw[if_neg (by simpa using c)]
   have y:Yd lb a b (d.size+1) (none,d.push a[f],f+1,g,(u+1,0)):=⟨rfl,⟨j,by show f+1+1<a.size;omega,i,by show(d.push a[f]).size=f+1+g;rw[iz];omega⟩,by show d.size+1<=(d.push a[f]).size;rw[iz];omega⟩
   split
   ·exact df (q _ (.inr y))
   ·exact df (q _ y)
def zZ{a:Array bh}{i k:Nat}{x:bh}(h:x∈(a.toList.drop i).take k):∃ j,∃ hj:i+j<a.size,j<k/\x=a[i+j]:=by
 obtain⟨j,hj,e⟩:=eV.mp h;rw[de,iP]at hj;refine⟨j,by simp at hj;omega,by omega,?_⟩;rw[<-e,AM,Bo];simp
def kQS{f:Array bh}{g d k:Nat}(h:Mg lb a.toList b.toList f.toList (a.toList.drop g) (b.toList.drop d))(c:∀ x∈(b.toList.drop d).take k,∀ y∈a.toList.drop g,le lb x y):Mg lb a.toList b.toList (f++b.extract d (d+k)).toList (a.toList.drop g) (b.toList.drop (d+k)):=by
 rw[iC,xG];rw[kEM b.toList d k]at h;exact h.moveB c
def kQT{f:Array bh}{d g k:Nat}(h:Mg lb a.toList b.toList f.toList (a.toList.drop d) (b.toList.drop g))(c:∀ x∈(a.toList.drop d).take k,∀ y∈b.toList.drop g,le lb x y):Mg lb a.toList b.toList (f++a.extract d (d+k)).toList (a.toList.drop (d+k)) (b.toList.drop g):=by
 rw[iC,xG];rw[kEM a.toList d k]at h;exact h.moveA c
def kKG(H:Hy M A E s lb D kd a b){st:eR}{f:Array bh}{d i g k o n:Nat}(h:MI lb a b f d i)(v:n<=f.size+1)(c:∀(u:d<a.size),∀ y∈b.toList.drop i,le lb a[d] y){Q:ForInStep LS->eR->Prop}
  (q:∀ r,RR lb a b n r->Q r st):wpS M A E s (pC a b f d i g k o) Q st:=by
 obtain⟨m,h1,p,x⟩:=h;have j:d<a.size:=by omega
 unfold pC;refine ck (qB (getElem?_pos a d j) ?_);have l:=kLD H j m (c j);by_cases e:d+1+1=a.size
 ·rw[if_pos (by simpa using e)]
  exact df (q _ (.inl ⟨_,rfl,cJ H l e⟩))
 ·rw[if_neg (by simpa using e)]
  have y:Yd lb a b n (none,f.push a[d],d+1,i,(g,k,o)):=⟨rfl,⟨l,by show d+1+1<a.size;omega,p,by show(f.push a[d]).size=d+1+i;rw[iz];omega⟩,by show n<=(f.push a[d]).size;rw[iz];omega⟩
  split
  ·exact df (q _ (.inr y))
  ·exact df (q _ y)
def kKH(H:Hy M A E s lb D kd a b){st:eR}(Y:kindOf st=kd){f:Array bh}{l d g k ob n:Nat}(h:MI lb a b f l d)(hn:n<=f.size+1)(c:∀(p:l<a.size)(hb:d<b.size),le lb b[d] a[l]){Q:ForInStep LS->eR->Prop}
  (q:∀ r,RR lb a b n r->Q r st):wpS M A E s (pB a b f l d g k ob) Q st:=by
 obtain⟨m,h1,G,h3⟩:=h;have p:l<a.size:=by omega
 unfold pB;refine ck (qB (getElem?_pos b d G) ?_);have u:=kCZ H p G m (c p G);have sz:(f.push b[d]).size=l+(d+1):=by rw[iz];omega
 by_cases e:d+1=b.size
 ·rw[if_pos (by simpa using e)]
  exact df (q _ (.inl ⟨_,rfl,kHA u e⟩))
 ·rw[if_neg (by simpa using e)]
  refine ck (qB (getElem?_pos a l p) ?_);refine ck (aD H.W H.L Y (H.da _ (by simp)) H.db (by omega) (λ i j T N=>wG H.W H.sb (by omega) (by omega)) (by omega) λ o kn I S=>?_);simp only[if_true]at I S
  have rest:∀ y∈b.toList.drop (d+1+o),le lb a[l] y:=λ y B=>by
   obtain⟨j,N,ij,rfl⟩:=yS B;have:=S (j-(d+1)) (by omega) (by omega);simp only[show d+1+(j-(d+1))=j by omega]at this;exact this
  dsimp only;by_cases J:o>0
  ·rw[if_pos J]
   have O:=kQS (k:=o) u λ x Z y B=>by
    obtain⟨j,N,X,rfl⟩:=zZ Z;obtain⟨i,T,U,rfl⟩:=yS B;exact H.W.trans (H.W.of_lt (I j X (by omega))) (wG H.W H.sa U T)
   have C:(f.push b[d]++b.extract (d+1) (d+1+o)).size=l+(d+1+o):=by
    rw[yf,sz,ko];omega
   by_cases v:d+1+o=b.size
   ·rw[if_pos (by simpa using v)]
    exact df (q _ (.inl ⟨_,rfl,kHA O v⟩))
   ·rw[if_neg (by simpa using v)]
    exact kKG H ⟨O,h1,by omega,C⟩ (by omega) (λ _=>rest) q
  ·rw[if_neg J]
   have:o=0:=by omega
   subst this;exact kKG H ⟨u,h1,by omega,sz⟩ (by omega) (λ _=>rest) q
def kRP(H:Hy M A E s lb D kd a b){st:eR}(v:kindOf st=kd){c:Array bh}{d f g X ob n:Nat}(h:MI lb a b c d f)(T:n<=c.size+1){Q:ForInStep LS->eR->Prop}
  (q:∀ r,RR lb a b n r->Q r (wH st g)):wpS M A E s (pA a b c d f g X ob) Q st:=by
 obtain⟨m,h1,I,h3⟩:=id h;have Z:d<a.size:=by omega
 unfold pA;rw[setMinGallop'_eq];refine ck (qe ?_);refine ck (qB (getElem?_pos b f I) ?_);refine ck (aD (st:=wH st g) H.W H.L v (H.db _ (by simp)) H.da (by omega) (λ i j J O=>wG H.W H.sa (by omega) (by omega)) (by omega) λ k kn C p=>?_);simp only[eP,if_false]at C p;dsimp only;by_cases G:k>0
 ·rw[if_pos G]
  have o:=kQT (k:=k) m λ x Y y U=>by
   obtain⟨j,O,S,rfl⟩:=zZ Y;obtain⟨i,J,N,rfl⟩:=yS U;exact H.W.trans (C j S (by omega)) (wG H.W H.sb N J)
  have u:(c++a.extract d (d+k)).size=d+k+f:=by
   rw[yf,ko];omega
  by_cases B:d+k+1=a.size
  ·rw[if_pos (by simpa using B)]
   exact df (q _ (.inl ⟨_,rfl,cJ H o B⟩))
  ·rw[if_neg (by simpa using B)]
   by_cases l:d+k=a.size
   ·rw[if_pos (by simpa using l)]
    exact df (q _ (.inl ⟨_,rfl,kVL o l⟩))
   ·rw[if_neg (by simpa using l)]
    exact kKH (st:=wH st g) H v ⟨o,by omega,I,u⟩ (by omega) (λ _ _=>H.W.of_lt (p k (by omega) (by omega))) q
 ·rw[if_neg G]
  have:k=0:=by omega
  subst this;exact kKH (st:=wH st g) H v h T (λ _ _=>H.W.of_lt (p 0 (by omega) (by omega))) q
def Yd.mono{n d:Nat}{f:Type}{c:Option (Array bh)×Array bh×Nat×Nat×f}(h:Yd lb a b n c)(k:d<=n):Yd lb a b d c:=⟨h.1,h.2.1,ju k h.2.2⟩
theorem Dn.mono{n d:Nat}{f:Type}{c:Option (Array bh)×Array bh×Nat×Nat×f}(h:Dn lb a b n c)(k:d<=n):Dn lb a b d c:=h.imp id λ z=>z.mono k
def kRR(H:Hy M A E s lb D kd a b){st:eR}(O:kindOf st=kd){l:Array bh}{L N g:Nat}(h:MI lb a b l L N){Q:ForInStep LS0->eR->Prop}
  (S:∀ r c st',Sm st st'->Res lb a.toList b.toList r.toList->Q (.done (some r,c)) st') (U:∀ c st',Sm st st'->Yd lb a b (l.size+1) c->Q (.yield c) st'):wpS M A E s (p0 a b (none,l,L,N,g)) Q st:=by
 unfold p0;dsimp only;have T:0<a.size+b.size:=by have:=h.2.2.1;omega
 refine ck (uy (jx (I:=λ x d st'=>st'=st/\Yd lb a b (l.size+x) d) (Q:=λ d st'=>st'=st/\Dn lb a b (l.size+1) d) ?step ?fin ⟨rfl,rfl,h,be _⟩) ?post)
 case fin =>
  rintro d st' ⟨rfl,y⟩;exact⟨rfl,.inr (y.mono (by omega))⟩
 case step =>
  rintro x ⟨r,o,i,j,u,v⟩ st' _ _ ⟨rfl,e,J,le⟩
  cases(show r=none from e)
  have le:l.size+x<=o.size:=le;refine kRQ H O J λ r B=>?_
  cases r with
  | done c=>exact⟨rfl,Dn.mono B (by omega)⟩
  | yield c=>exact⟨rfl,Yd.mono B (by omega)⟩
 case post =>
  rintro⟨r,o,i,j,u,v⟩ st' ⟨rfl,C⟩
  cases r with
  | some r =>
   dsimp only;rcases C with⟨G,e,p⟩ | ⟨e,_⟩
   ·cases e
    exact df (S _ _ _ (Sm.refl _) p)
   ·cases e
  | none =>
   dsimp only
   have y:Yd lb a b (l.size+1) (none,o,i,j,(u,v)):=by
    rcases C with⟨G,e,p⟩ | y
    ·cases e
    ·exact y
   refine ck (wL ?_);refine ck (uy (jx (I:=λ x f m=>Sm st' m/\Yd lb a b (l.size+1) f) (Q:=λ f m=>Sm st' m/\Dn lb a b (l.size+1) f) ?step2 ?fin2 ⟨Sm.refl _,y⟩) ?post2)
   case fin2 =>
    rintro f m ⟨q,y⟩;exact⟨q,.inr y⟩
   case step2 =>
    rintro x ⟨r,o,i,j,X,u,v⟩ m _ _ ⟨q,e,J,le⟩
    cases(show r=none from e)
    have le:l.size+1<=o.size:=le;dsimp only
    split
    all_goals
     refine kRP (n:=l.size+1) H (q.1.trans O) J (by omega) λ r B=>?_
     cases r with
     | done c=>exact⟨q.gal _,B⟩
     | yield c=>exact⟨q.gal _,B⟩
   case post2 =>
    rintro⟨r,o,i,j,X,u,v⟩ m ⟨q,C⟩
    cases r with
    | some r =>
     dsimp only;rcases C with⟨G,e,p⟩ | ⟨e,_⟩
     ·cases e
      exact df (S _ _ _ q p)
     ·cases e
    | none =>
     dsimp only;rcases C with⟨G,e,p⟩ | y
     ·cases e
     ·rw[setMinGallop'_eq]
      exact ck (qe (df (U _ _ (q.gal _) y)))
def tW(H:Hy M A E s lb D kd a b){st:eR}(G:kindOf st=kd)(C:0<a.size)(u:0<b.size)(first:le lb b[0] a[0]){Q:Array bh->eR->Prop}
  (q:∀ r st',Sm st st'->Res lb a.toList b.toList r.toList->Q r st'):wpS M A E s (mO a b) Q st:=by
 rw[mergeLo'_parts];refine ck (wL ?_);refine ck (qB (getElem?_pos b 0 u) ?_);have J:Mg lb a.toList b.toList (#[]:Array bh).toList (a.toList.drop 0) (b.toList.drop 0):=⟨H.sa,H.sb,AK _⟩;have m:Mg lb a.toList b.toList (#[b[0]]:Array bh).toList (a.toList.drop 0) (b.toList.drop 1):=kCZ H C u J first;by_cases p:1=b.size
 ·rw[if_pos (by simpa using p)]
  exact df (q _ _ (Sm.refl _) (kHA m p))
 rw[if_neg (by simpa using p)];by_cases l:0+1=a.size
 ·rw[if_pos (by simpa using l)]
  exact df (q _ _ (Sm.refl _) (cJ H m l))
 rw[if_neg (by simpa using l)];refine ck (zr ?_);refine ck (uy (jx (I:=λ x c st'=>Sm st st'/\Yd lb a b (1+x) c) (Q:=λ c st'=>Sm st st'/\∃ r,c.1=some r/\Res lb a.toList b.toList r.toList) ?step ?fin ⟨Sm.refl _,rfl,⟨m,by show 0+1<a.size;omega,by show 1<b.size;omega,rfl⟩,be _⟩) ?post)
 case post =>
  rintro⟨r,c⟩ st' ⟨f,N,e,h⟩;cases e
  exact df (q _ _ f h)
 case fin =>
  rintro⟨r,o,i,j,g⟩ st' ⟨f,e,⟨_,h1,v,B⟩,le⟩;have B:o.size=i+j:=B;have le:1+max 0 (a.size+b.size)<=o.size:=le;have h1:i+1<a.size:=h1;have v:j<b.size:=v;omega
 case step =>
  rintro x ⟨r,o,i,j,g⟩ st' _ _ ⟨f,e,L,le⟩
  cases(show r=none from e)
  have le:1+x<=o.size:=le;exact kRR H (f.1.trans G) L (λ r c n d h=>⟨⟨d.1.trans f.1,d.2.1.trans f.2.1,d.2.2.1.trans f.2.2.1,d.2.2.2.trans f.2.2.2⟩,r,rfl,h⟩) λ c n d y=>⟨⟨d.1.trans f.1,d.2.1.trans f.2.1,d.2.2.1.trans f.2.2.1,d.2.2.2.trans f.2.2.2⟩,y.mono (by omega)⟩
end
end Srt
local macro_rules | `(tactic| walk_at "sort_open mergeHi")=>`(tactic| delta $(Lean.mkIdent (Lean.mkPrivateNameCore `PySem.Builtin.List.W1All `PySem.Builtin.mergeHi)):ident)
namespace Srt
set_option autoImplicit false
open PySem PyProof.Rows
def mP:Array bh->Array bh->StateT eR Sem (Array bh):=sortPriv% PySem.Builtin.mergeHi
abbrev KS:=Option (Array bh)×Nat×Nat×Array bh×Nat×Nat×Nat
abbrev KS1:=Option (Array bh)×Nat×Nat×Array bh×Nat×Nat
abbrev KS0:=Option (Array bh)×Nat×Nat×Array bh×Nat
section
variable (a b:Array bh)
def hDn(d f:Nat)(c:Array bh):Array bh:=a.extract 0 d++b.extract 0 f++c.reverse
def hFb(d f:Nat)(c:Array bh):Array bh:=b.extract 0 f++a.extract 0 d++c.reverse
def hC(d f:Nat)(c:Array bh)(g k h:Nat):StateT eR Sem (ForInStep KS):=do
 let x <-elem' a (d-1)
 if(d-1 == 0)=true then pure (.done (some (hDn a b (d-1) f (c.push x)),d-1,f,c.push x,g,k,h))
 else if(decide (k<7) && decide (h<7))=true then pure (.done (none,d-1,f,c.push x,g,k,h)) else pure (.yield (none,d-1,f,c.push x,g,k,h))
def hB(f d:Nat)(c:Array bh)(g k ob:Nat):StateT eR Sem (ForInStep KS):=do
 let y <-elem' b (d-1)
 if(d-1 == 1)=true then pure (.done (some (hFb a b f (d-1) (c.push y)),f,d-1,c.push y,g,k,ob))
 else do
  let x <-elem' a (f-1)
  let r <-vL true x b 0 (d-1) (d-1-1)
  match r with
  | some p =>
   if d-1-p>0 then
    if(p == 1)=true then pure (.done (some (hFb a b f p (c.push y++(b.extract p (d-1)).reverse)),f,p,c.push y++(b.extract p (d-1)).reverse,g,k,d-1-p))
    else if(p == 0)=true then pure (.done (some (hDn a b f p (c.push y++(b.extract p (d-1)).reverse)),f,p,c.push y++(b.extract p (d-1)).reverse,g,k,d-1-p))
    else hC a b f p (c.push y++(b.extract p (d-1)).reverse) g k (d-1-p)
   else hC a b f (d-1) (c.push y) g k (d-1-p)
  | x=>pure (.done (some (hDn a b f (d-1) (c.push y)),f,d-1,c.push y,g,k,ob))
def hA(d f:Nat)(c:Array bh)(g h ob:Nat):StateT eR Sem (ForInStep KS):=do
 xK g
 let y <-elem' b (f-1)
 let r <-vL false y a 0 d (d-1)
 match r with
 | some p =>
  if d-p>0 then
   if(p == 0)=true then pure (.done (some (hDn a b p f (c++(a.extract p d).reverse)),p,f,c++(a.extract p d).reverse,g,d-p,ob))
   else hB a b p f (c++(a.extract p d).reverse) g (d-p) ob
  else hB a b d f c g (d-p) ob
 | x=>pure (.done (some (hDn a b d f c),d,f,c,g,h,ob))
def h1(mg:Nat)(c:KS1):StateT eR Sem (ForInStep KS1):=do
 let y <-elem' b (c.2.2.1-1)
 let x <-elem' a (c.2.1-1)
 let r <-lt' y x
 match r with
 | some aw =>
  if aw=true then do
   let x <-elem' a (c.2.1-1)
   if(c.2.1-1 == 0)=true then pure (.done (some (hDn a b (c.2.1-1) c.2.2.1 (c.2.2.2.1.push x)),c.2.1-1,c.2.2.1,c.2.2.2.1.push x,c.2.2.2.2.1+1,0))
   else if c.2.2.2.2.1+1 >= mg then pure (.done (none,c.2.1-1,c.2.2.1,c.2.2.2.1.push x,c.2.2.2.2.1+1,0))
   else pure (.yield (none,c.2.1-1,c.2.2.1,c.2.2.2.1.push x,c.2.2.2.2.1+1,0))
  else do
   let y <-elem' b (c.2.2.1-1)
   if(c.2.2.1-1 == 1)=true then pure (.done (some (hFb a b c.2.1 (c.2.2.1-1) (c.2.2.2.1.push y)),c.2.1,c.2.2.1-1,c.2.2.2.1.push y,0,c.2.2.2.2.2+1))
   else if c.2.2.2.2.2+1 >= mg then pure (.done (none,c.2.1,c.2.2.1-1,c.2.2.2.1.push y,0,c.2.2.2.2.2+1))
   else pure (.yield (none,c.2.1,c.2.2.1-1,c.2.2.2.1.push y,0,c.2.2.2.2.2+1))
 | x=>pure (.done (some (hDn a b c.2.1 c.2.2.1 c.2.2.2.1),c.2.1,c.2.2.1,c.2.2.2.1,c.2.2.2.2.1,c.2.2.2.2.2))
def h0(c:KS0):StateT eR Sem (ForInStep KS0):=do
 let d <-forIn [:a.size+b.size] ((none,c.2.1,c.2.2.1,c.2.2.2.1,0,0):KS1) λ x d=>h1 a b c.2.2.2.2 d
 match d.1 with
 | some r=>pure (.done (some r,d.2.1,d.2.2.1,d.2.2.2.1,c.2.2.2.2))
 | none=>do
  liftM (rule "list.sort.gallop")
  let f <-forIn [:a.size+b.size] ((none,d.2.1,d.2.2.1,d.2.2.2.1,c.2.2.2.2+1,d.2.2.2.2.1,d.2.2.2.2.2):KS) λ x f =>
   if f.2.2.2.2.1>1 then hA a b f.2.1 f.2.2.1 f.2.2.2.1 (f.2.2.2.2.1-1) f.2.2.2.2.2.1 f.2.2.2.2.2.2 else hA a b f.2.1 f.2.2.1 f.2.2.2.1 f.2.2.2.2.1 f.2.2.2.2.2.1 f.2.2.2.2.2.2
  match f.1 with
  | some r=>pure (.done (some r,f.2.1,f.2.2.1,f.2.2.2.1,f.2.2.2.2.1))
  | none=>do
   xK (f.2.2.2.2.1+1)
   pure (.yield (none,f.2.1,f.2.2.1,f.2.2.2.1,f.2.2.2.2.1+1))
def mergeHi'_parts:mP a b=(do
  liftM (rule "list.sort.merge-hi")
  let y <-elem' a (a.size-1)
  if(a.size-1 == 0)=true then pure (hDn a b (a.size-1) b.size #[y])
  else if(b.size == 1)=true then pure (hFb a b (a.size-1) b.size #[y])
  else do
   let st <-get
   let c <-forIn [:a.size+b.size] ((none,a.size-1,b.size,#[y],gallopOf st):KS0) λ x c=>h0 a b c
   match c.1 with
   | some r=>pure r
   | none=>unsupported "internal:list.sort.merge-bound"):=by
 unfold mP
 walk_at "sort_open mergeHi"
 dsimp only;refine congrArg _ (funext λ _=>?_);refine congrArg _ (funext λ y=>?_);refine ite_congr rfl (λ _=>rfl) (λ _=>ite_congr rfl (λ _=>rfl) (λ _=>?_));refine congrArg _ (funext λ st=>?_);refine congr (congrArg _ (congrArg _ (funext λ x=>funext λ c=>?_))) (funext λ c=>by cases c.1<;>rfl);unfold h0;refine congr (congrArg _ (congrArg _ (funext λ x=>funext λ d=>?_))) (funext λ d=>?_)
 ·unfold h1
  refine congrArg _ (funext λ _=>?_);refine congrArg _ (funext λ _=>?_);refine congrArg _ (funext λ r=>?_);cases r<;>rfl
 ·cases d.1 with
  | some r=>rfl
  | none =>
   dsimp only;refine congrArg _ (funext λ _=>?_);refine congr (congrArg _ (congrArg _ (funext λ x=>funext λ f=>?_))) (funext λ f=>by cases f.1<;>rfl);refine ite_congr rfl (λ _=>?_) (λ _=>?_)
   all_goals
    unfold hA;refine congrArg _ (funext λ _=>?_);refine congrArg _ (funext λ y=>?_);refine congrArg _ (funext λ r=>?_)
    cases r with
    | none=>rfl
    | some k =>
     dsimp only;refine ite_congr rfl (λ _=>ite_congr rfl (λ _=>rfl) (λ _=>?_)) (λ _=>?_)
     all_goals
      unfold hB;refine congrArg _ (funext λ y=>?_);refine ite_congr rfl (λ _=>rfl) (λ _=>?_);refine congrArg _ (funext λ x=>?_);refine congrArg _ (funext λ r=>?_);cases r<;>rfl
end
section
variable {α:Type} {lb:α->α->Bool}
structure Mh(lb:α->α->Bool)(A B:List α)(w ra rb:List α):Prop where
 sa:jC lb (ra++w)
 sb:jC lb (rb++w)
 pm:(ra++(rb++w)).Perm (A++B)
def Mh.moveA{A B w c b f:List α}(h:Mh lb A B w (b++c) f)(i:∀ x∈f,∀ y∈c,le lb x y):Mh lb A B (c++w) b f:=by
 refine⟨by rw[<-bp];exact h.sa,?_,?_⟩
 ·have h1:=eO.mp h.sa
  have g:=eO.mp h.sb;have j:=eO.mp h1.1;refine eO.mpr ⟨g.1,eO.mpr ⟨j.2.1,h1.2.1,λ x a y d=>h1.2.2 x (cm _ a) y d⟩,λ x a y d=>?_⟩;rcases cf.mp d with z | z
  ·exact i x a y z
  ·exact g.2.2 x a y z
 ·refine ur ?_ h.pm
  rw[bp];refine xw b ?_;rw[<-bp,<-bp];exact xc w kr
def Mh.swap{A B w a b:List α}(h:Mh lb A B w a b):Mh lb B A w b a:=by
 refine⟨h.sb,h.sa,?_⟩;refine ur ?_ (h.pm.trans kr);rw[<-bp,<-bp];exact xc w kr
def Mh.moveB{A B w c a b:List α}(h:Mh lb A B w a (b++c))(d:∀ x∈a,∀ y∈c,le lb x y):Mh lb A B (c++w) a b:=(h.swap.moveA d).swap
def take_one{a:Array α}{n:Nat}(h0:0<n)(h:n<=a.size):a.toList.take n=a.toList.take (n-1)++[a[n-1]'(by omega)]:=by
 obtain⟨m,rfl⟩ : ∃ m,n=m+1:=⟨n-1,by omega⟩;rw[List.take_succ_eq_append_getElem (by simp;omega)];simp
def cI(a:Array α)(n:Nat):(a.extract 0 n).toList=a.toList.take n:=by
 rw[va,qm];simp
def kCX(a:Array α){p n:Nat}(h:p<=n):a.toList.take n=a.toList.take p++(a.extract p n).toList:=by
 rw[va,qm,<-Et]
 conv=>lhs;rw[<-gk p (a.toList.take n)]
 rw[AN,kq h]
end
section
variable {M:yt} {A:fq} {E:ar->ay->Prop} {s:ay} {lb:bh->bh->Bool} {D:bh->Prop} {kd:oy} {a b:Array bh}
structure Hz(M:yt)(A:fq)(E:ar->ay->Prop)(s:ay)(lb:bh->bh->Bool)(D:bh->Prop)(kd:oy)(a b:Array bh):Prop where
 W:Wk lb
 L:vY M A E s lb D kd
 da:∀ x∈a.toList,D x
 db:∀ x∈b.toList,D x
 sa:jC lb a.toList
 sb:jC lb b.toList
 first:∀(h:0<b.size),∀ y∈a.toList,le lb b[0] y
abbrev MM(lb:bh->bh->Bool)(a b:Array bh)(d f:Nat)(c:Array bh):Prop:=Mh lb a.toList b.toList c.toList.reverse (a.toList.take d) (b.toList.take f)
def MH(lb:bh->bh->Bool)(a b:Array bh)(d f:Nat)(c:Array bh):Prop:=MM lb a b d f c/\0<d/\d<=a.size/\1<f/\f<=b.size/\c.size+d+f=a.size+b.size
def Zd(lb:bh->bh->Bool)(a b:Array bh)(n:Nat){d:Type}(c:Option (Array bh)×Nat×Nat×Array bh×d):Prop:=c.1=none/\MH lb a b c.2.1 c.2.2.1 c.2.2.2.1/\n<=c.2.2.2.1.size
def En(lb:bh->bh->Bool)(a b:Array bh)(n:Nat){d:Type}(c:Option (Array bh)×Nat×Nat×Array bh×d):Prop:=(∃ r,c.1=some r/\Res lb a.toList b.toList r.toList)\/Zd lb a b n c
def TT(lb:bh->bh->Bool)(a b:Array bh)(n:Nat){d:Type}:ForInStep (Option (Array bh)×Nat×Nat×Array bh×d)->Prop
 | .done c=>En lb a b n c
 | .yield c=>Zd lb a b n c
def Zd.mono{n d:Nat}{f:Type}{c:Option (Array bh)×Nat×Nat×Array bh×f}(h:Zd lb a b n c)(k:d<=n):Zd lb a b d c:=⟨h.1,h.2.1,ju k h.2.2⟩
theorem En.mono{n d:Nat}{f:Type}{c:Option (Array bh)×Nat×Nat×Array bh×f}(h:En lb a b n c)(k:d<=n):En lb a b d c:=h.imp id λ z=>z.mono k
def bV{a:Array bh}{n:Nat}{x:bh}(h:x∈a.toList.take n):∃ j,∃ hj:j<a.size,j<n/\x=a[j]:=by
 have:=zZ (a:=a) (i:=0) (k:=n) (x:=x) (by simpa using h);obtain⟨j,hj,b,e⟩:=this;exact⟨j,by omega,b,by simpa using e⟩
def qZ{a:Array bh}{p n:Nat}{x:bh}(h:x∈(a.extract p n).toList):∃ j,∃ hj:j<a.size,p<=j/\j<n/\x=a[j]:=by
 rw[va,qm]at h;obtain⟨j,hj,b,e⟩:=zZ h;exact⟨p+j,hj,by omega,by omega,e⟩
def kBU(d f:Nat)(c:Array bh):(hDn a b d f c).toList=a.toList.take d++(b.toList.take f++c.toList.reverse):=by
 unfold hDn;rw[iC,iC,cI,cI,yk,bp]
def kNO(d f:Nat)(c:Array bh):(hFb a b d f c).toList=b.toList.take f++(a.toList.take d++c.toList.reverse):=by
 unfold hFb;rw[iC,iC,cI,cI,yk,bp]
def tH{d f:Nat}{c:Array bh}(m:MM lb a b d f c)(e:d=0):Res lb a.toList b.toList (hDn a b d f c).toList:=by
 subst e;rw[kBU];exact⟨by simpa using m.sb,m.pm⟩
def kTP{f d:Nat}{c:Array bh}(m:MM lb a b f d c)(e:d=0):Res lb a.toList b.toList (hDn a b f d c).toList:=by
 subst e;rw[kBU];exact⟨by simpa using m.sa,m.pm⟩
def tG(H:Hz M A E s lb D kd a b){i g:Nat}{c:Array bh}(m:MM lb a b i g c)(e:g=1)(h:0<b.size):Res lb a.toList b.toList (hFb a b i g c).toList:=by
 subst e;rw[kNO];have t:b.toList.take 1=[b[0]]:=by rw[take_one (by decide) h];simp
 have d:=m.sb;rw[t]at d ⊢;refine⟨?_,?_⟩
 ·refine eO.mpr ⟨qc _ _,m.sa,λ x l y j=>?_⟩
  have:x=b[0]:=by simpa using l
  subst this;rcases cf.mp j with z | z
  ·exact H.first h y (Ao z)
  ·exact(eO.mp d).2.2 _ (by simp) y z
 ·have f:=m.pm
  rw[t]at f;refine ur ?_ f;rw[<-bp,<-bp];exact xc _ kr
def kLC(H:Hz M A E s lb D kd a b){f g:Nat}{d:Array bh}(m:MM lb a b f g d)(l:0<f)(h:f<=a.size)(c:∀ x∈b.toList.take g,le lb x (a[f-1]'(by omega))):MM lb a b (f-1) g (d.push (a[f-1]'(by omega))):=by
 have m:Mh lb a.toList b.toList d.toList.reverse (a.toList.take f) (b.toList.take g):=m;rw[take_one l h]at m;show Mh lb _ _ (d.push _).toList.reverse _ _;rw[vd,ym];refine m.moveA λ x j y i=>?_;have:y=a[f-1]'(by omega):=by simpa using i
 rw[this];exact c x j
def kQY(H:Hz M A E s lb D kd a b){g f:Nat}{d:Array bh}(m:MM lb a b g f d)(l:0<f)(h:f<=b.size)(c:∀ x∈a.toList.take g,le lb x (b[f-1]'(by omega))):MM lb a b g (f-1) (d.push (b[f-1]'(by omega))):=by
 have m:Mh lb a.toList b.toList d.toList.reverse (a.toList.take g) (b.toList.take f):=m;rw[take_one l h]at m;show Mh lb _ _ (d.push _).toList.reverse _ _;rw[vd,ym];refine m.moveB λ x j y i=>?_;have:y=b[f-1]'(by omega):=by simpa using i
 rw[this];exact c x j
def kVN{f g p:Nat}{d:Array bh}(m:MM lb a b f g d)(hp:p<=f)(c:∀ x∈b.toList.take g,∀ y∈(a.extract p f).toList,le lb x y):MM lb a b p g (d++(a.extract p f).reverse):=by
 have m:Mh lb a.toList b.toList d.toList.reverse (a.toList.take f) (b.toList.take g):=m;rw[kCX a hp]at m;show Mh lb _ _ (d++_).toList.reverse _ _;rw[iC,yk,ym,Cy];exact m.moveA c
def kVM{g f p:Nat}{d:Array bh}(m:MM lb a b g f d)(hp:p<=f)(c:∀ x∈a.toList.take g,∀ y∈(b.extract p f).toList,le lb x y):MM lb a b g p (d++(b.extract p f).reverse):=by
 have m:Mh lb a.toList b.toList d.toList.reverse (a.toList.take g) (b.toList.take f):=m;rw[kCX b hp]at m;show Mh lb _ _ (d++_).toList.reverse _ _;rw[iC,yk,ym,Cy];exact m.moveB c
def kIB(W:Wk lb){a:Array bh}(b:jC lb a.toList){n:Nat}{y:bh}(h:0<n)(f:n<=a.size)(c:le lb (a[n-1]'(by omega)) y):∀ x∈a.toList.take n,le lb x y:=λ x d=>by
 obtain⟨j,i,g,rfl⟩:=bV d;exact W.trans (wG W b (show j<=n-1 by omega) (by omega)) c
def kRT(H:Hz M A E s lb D kd a b){st:eR}(o:kindOf st=kd){d:Array bh}{g f u v mg:Nat}(h:MH lb a b g f d){Q:ForInStep KS1->eR->Prop}
  (q:∀ r,TT lb a b (d.size+1) r->Q r st):wpS M A E s (h1 a b mg (none,g,f,d,u,v)) Q st:=by
 obtain⟨m,j,n,p,l,sz⟩:=h;unfold h1;dsimp only;refine ck (qB (getElem?_pos b (f-1) (by omega)) ?_);refine ck (qB (getElem?_pos a (g-1) (by omega)) ?_);refine ck (H.L _ _ (H.db _ (by simp)) (H.da _ (by simp)) st _ o ?_)
 cases e:lb (b[f-1]'(by omega)) (a[g-1]'(by omega))
 case true =>
  simp only[if_true];refine ck (qB (getElem?_pos a (g-1) (by omega)) ?_);have i:=kLC H m j n (kIB H.W H.sb (by omega) l (H.W.of_lt e));by_cases c:g-1=0
  ·rw[if_pos (by simpa using c)]
   exact df (q _ (.inl ⟨_,rfl,tH i c⟩))
  ·rw[if_neg (by simpa using c)]
   have z:Zd lb a b (d.size+1) (none,g-1,f,d.push (a[g-1]'(by omega)),(u+1,0)):=⟨rfl,⟨i,by show 0<g-1;omega,by show g-1<=a.size;omega,p,l,by show(d.push _).size+(g-1)+f=_;rw[iz];omega⟩,by show d.size+1<=(d.push _).size;rw[iz];omega⟩
   split
   ·exact df (q _ (.inr z))
   ·exact df (q _ z)
 case false =>
  simp only[eP,if_false];refine ck (qB (getElem?_pos b (f-1) (by omega)) ?_);have i:=kQY H m (by omega) l (kIB H.W H.sa j n e);by_cases c:f-1=1
  ·rw[if_pos (by simpa using c)]
   exact df (q _ (.inl ⟨_,rfl,tG H i c (by omega)⟩))
  ·rw[if_neg (by simpa using c)]
   have z:Zd lb a b (d.size+1) (none,g,f-1,d.push (b[f-1]'(by omega)),(0,v+1)):=⟨rfl,⟨i,j,n,by show 1<f-1;omega,by show f-1<=b.size;omega,by show(d.push _).size+g+(f-1)=_;rw[iz];omega⟩,by show d.size+1<=(d.push _).size;rw[iz];omega⟩
   split
   ·exact df (q _ (.inr z))
   ·exact df (q _ z)
def kKI(H:Hz M A E s lb D kd a b){st:eR}{d:Array bh}{f h g k i n:Nat}(m:MM lb a b f h d)(l:0<f)(o:f<=a.size)(u:1<h)(p:h<=b.size)(sz:d.size+f+h=a.size+b.size)(v:n<=d.size+1)
  (c:∀ x∈b.toList.take h,le lb x (a[f-1]'(by omega))) {Q:ForInStep KS->eR->Prop} (q:∀ r,TT lb a b n r->Q r st):wpS M A E s (hC a b f h d g k i) Q st:=by
 unfold hC;refine ck (qB (getElem?_pos a (f-1) (by omega)) ?_);have j:=kLC H m l o c;by_cases e:f-1=0
 ·rw[if_pos (by simpa using e)]
  exact df (q _ (.inl ⟨_,rfl,tH j e⟩))
 ·rw[if_neg (by simpa using e)]
  have z:Zd lb a b n (none,f-1,h,d.push (a[f-1]'(by omega)),(g,k,i)):=⟨rfl,⟨j,by show 0<f-1;omega,by show f-1<=a.size;omega,u,p,by show(d.push _).size+(f-1)+h=_;rw[iz];omega⟩,by show n<=(d.push _).size;rw[iz];omega⟩
  split
  ·exact df (q _ (.inr z))
  ·exact df (q _ z)
def kKJ(H:Hz M A E s lb D kd a b){st:eR}(hk:kindOf st=kd){d:Array bh}{l f g k ob n:Nat}(h:MH lb a b l f d)(hn:n<=d.size+1)
  (c:∀(ha:l-1<a.size)(hb:f-1<b.size),le lb a[l-1] b[f-1]) {Q:ForInStep KS->eR->Prop} (q:∀ r,TT lb a b n r->Q r st):wpS M A E s (hB a b l f d g k ob) Q st:=by
 obtain⟨m,o,u,b1,b2,sz⟩:=h;unfold hB;refine ck (qB (getElem?_pos b (f-1) (by omega)) ?_);have v:=kQY H m (by omega) b2 (kIB H.W H.sa o u (c (by omega) (by omega)));have G:(d.push (b[f-1]'(by omega))).size+l+(f-1)=a.size+b.size:=by rw[iz];omega
 have gr:d.size+1=(d.push (b[f-1]'(by omega))).size:=by rw[iz]
 by_cases e:f-1=1
 ·rw[if_pos (by simpa using e)]
  exact df (q _ (.inl ⟨_,rfl,tG H v e (by omega)⟩))
 ·rw[if_neg (by simpa using e)]
  refine ck (qB (getElem?_pos a (l-1) (by omega)) ?_);refine ck (aD H.W H.L hk (H.da _ (by simp)) H.db (by omega) (λ i j hi T=>wG H.W H.sb (by omega) (by omega)) (by omega) λ p kn O U=>?_);simp only[if_true,CT]at O U
  have rest:∀ x∈b.toList.take p,le lb x (a[l-1]'(by omega)):=λ x N=>by
   obtain⟨j,T,Y,rfl⟩:=bV N;exact H.W.of_lt (O j Y (by omega))
  dsimp only;by_cases S:f-1-p>0
  ·rw[if_pos S]
   have C:=kVM (p:=p) v (by omega) λ x N y Z=>by
    obtain⟨j,T,pj,X,rfl⟩:=qZ Z;exact kIB H.W H.sa o u (U j pj X) x N
   have I:(d.push (b[f-1]'(by omega))++(b.extract p (f-1)).reverse).size+l+p=a.size+b.size:=by
    rw[yf,DV,ko];omega
   by_cases J:p=1
   ·rw[if_pos (by simpa using J)]
    exact df (q _ (.inl ⟨_,rfl,tG H C J (by omega)⟩))
   ·rw[if_neg (by simpa using J)]
    by_cases B:p=0
    ·rw[if_pos (by simpa using B)]
     exact df (q _ (.inl ⟨_,rfl,kTP C B⟩))
    ·rw[if_neg (by simpa using B)]
     exact kKI H C o u (by omega) (by omega) I (by omega) rest q
  ·rw[if_neg S]
   have e3:p=f-1:=by omega
   rw[e3]at rest;exact kKI H v o u (by omega) (by omega) G (by omega) rest q
def kRS(H:Hz M A E s lb D kd a b){st:eR}(u:kindOf st=kd){c:Array bh}{d f g U ob n:Nat}(h:MH lb a b d f c)(S:n<=c.size+1){Q:ForInStep KS->eR->Prop}
  (q:∀ r,TT lb a b n r->Q r (wH st g)):wpS M A E s (hA a b d f c g U ob) Q st:=by
 obtain⟨m,Z,a2,N,I,sz⟩:=id h;unfold hA;rw[setMinGallop'_eq];refine ck (qe ?_);refine ck (qB (getElem?_pos b (f-1) (by omega)) ?_);refine ck (aD (st:=wH st g) H.W H.L u (H.db _ (by simp)) H.da (by omega) (λ i j hi O=>wG H.W H.sa (by omega) (by omega)) (by omega) λ p kn l G=>?_);simp only[eP,if_false,CT]at l G;dsimp only;by_cases B:d-p>0
 ·rw[if_pos B]
  have C:=kVN (p:=p) m (by omega) λ x X y T=>by
   obtain⟨j,O,Y,J,rfl⟩:=qZ T;exact kIB H.W H.sb (by omega) I (H.W.of_lt (G j Y J)) x X
  have o:(c++(a.extract p d).reverse).size+p+f=a.size+b.size:=by
   rw[yf,DV,ko];omega
  by_cases v:p=0
  ·rw[if_pos (by simpa using v)]
   exact df (q _ (.inl ⟨_,rfl,tH C v⟩))
  ·rw[if_neg (by simpa using v)]
   exact kKJ (st:=wH st g) H u ⟨C,by omega,by omega,N,I,o⟩ (by omega) (λ _ _=>l (p-1) (by omega) (by omega)) q
 ·rw[if_neg B]
  have e3:p=d:=by omega
  exact kKJ (st:=wH st g) H u h S (λ _ _=>l (d-1) (by omega) (by omega)) q
def kRU(H:Hz M A E s lb D kd a b){st:eR}(L:kindOf st=kd){l:Array bh}{N O g:Nat}(h:MH lb a b N O l){Q:ForInStep KS0->eR->Prop}
  (S:∀ r c st',Sm st st'->Res lb a.toList b.toList r.toList->Q (.done (some r,c)) st') (U:∀ c st',Sm st st'->Zd lb a b (l.size+1) c->Q (.yield c) st'):wpS M A E s (h0 a b (none,N,O,l,g)) Q st:=by
 unfold h0;dsimp only;have T:0<a.size+b.size:=by have:=h.2.2.1;have:=h.2.1;omega
 refine ck (uy (jx (I:=λ x d st'=>st'=st/\Zd lb a b (l.size+x) d) (Q:=λ d st'=>st'=st/\En lb a b (l.size+1) d) ?step ?fin ⟨rfl,rfl,h,be _⟩) ?post)
 case fin =>
  rintro d st' ⟨rfl,y⟩;exact⟨rfl,.inr (y.mono (by omega))⟩
 case step =>
  rintro x ⟨r,i,j,o,u,v⟩ st' _ _ ⟨rfl,e,J,le⟩
  cases(show r=none from e)
  have le:l.size+x<=o.size:=le;refine kRT H L J λ r B=>?_
  cases r with
  | done c=>exact⟨rfl,En.mono B (by omega)⟩
  | yield c=>exact⟨rfl,Zd.mono B (by omega)⟩
 case post =>
  rintro⟨r,i,j,o,u,v⟩ st' ⟨rfl,C⟩
  cases r with
  | some r =>
   dsimp only;rcases C with⟨G,e,p⟩ | ⟨e,_⟩
   ·cases e
    exact df (S _ _ _ (Sm.refl _) p)
   ·cases e
  | none =>
   dsimp only
   have y:Zd lb a b (l.size+1) (none,i,j,o,(u,v)):=by
    rcases C with⟨G,e,p⟩ | y
    ·cases e
    ·exact y
   refine ck (wL ?_);refine ck (uy (jx (I:=λ x f m=>Sm st' m/\Zd lb a b (l.size+1) f) (Q:=λ f m=>Sm st' m/\En lb a b (l.size+1) f) ?step2 ?fin2 ⟨Sm.refl _,y⟩) ?post2)
   case fin2 =>
    rintro f m ⟨q,y⟩;exact⟨q,.inr y⟩
   case step2 =>
    rintro x ⟨r,i,j,o,X,u,v⟩ m _ _ ⟨q,e,J,le⟩
    cases(show r=none from e)
    have le:l.size+1<=o.size:=le;dsimp only
    split
    all_goals
     refine kRS (n:=l.size+1) H (q.1.trans L) J (by omega) λ r B=>?_
     cases r with
     | done c=>exact⟨q.gal _,B⟩
     | yield c=>exact⟨q.gal _,B⟩
   case post2 =>
    rintro⟨r,i,j,o,X,u,v⟩ m ⟨q,C⟩
    cases r with
    | some r =>
     dsimp only;rcases C with⟨G,e,p⟩ | ⟨e,_⟩
     ·cases e
      exact df (S _ _ _ q p)
     ·cases e
    | none =>
     dsimp only;rcases C with⟨G,e,p⟩ | y
     ·cases e
     ·rw[setMinGallop'_eq]
      exact ck (qe (df (U _ _ (q.gal _) y)))
def tX(H:Hz M A E s lb D kd a b){st:eR}(J:kindOf st=kd)(C:0<a.size)(u:0<b.size)(last:le lb (b[b.size-1]'(by omega)) (a[a.size-1]'(by omega))){Q:Array bh->eR->Prop}
  (q:∀ r st',Sm st st'->Res lb a.toList b.toList r.toList->Q r st'):wpS M A E s (mP a b) Q st:=by
 rw[mergeHi'_parts];refine ck (wL ?_);refine ck (qB (getElem?_pos a (a.size-1) (by omega)) ?_);have G:a.toList.take a.size=a.toList:=ky (by simp);have B:b.toList.take b.size=b.toList:=ky (by simp)
 have L:MM lb a b a.size b.size #[]:=by
  show Mh lb _ _ (#[]:Array bh).toList.reverse _ _;rw[G,B];exact⟨by simpa using H.sa,by simpa using H.sb,by simp⟩
 have m:MM lb a b (a.size-1) b.size #[a[a.size-1]'(by omega)]:=kLC H L C (be _) (kIB H.W H.sb u (be _) last);by_cases p:a.size-1=0
 ·rw[if_pos (by simpa using p)]
  exact df (q _ _ (Sm.refl _) (tH m p))
 rw[if_neg (by simpa using p)];by_cases l:b.size=1
 ·rw[if_pos (by simpa using l)]
  exact df (q _ _ (Sm.refl _) (tG H m l u))
 rw[if_neg (by simpa using l)];refine ck (zr ?_);refine ck (uy (jx (I:=λ x c st'=>Sm st st'/\Zd lb a b (1+x) c) (Q:=λ c st'=>Sm st st'/\∃ r,c.1=some r/\Res lb a.toList b.toList r.toList) ?step ?fin ⟨Sm.refl _,rfl,⟨m,by show 0<a.size-1;omega,by show a.size-1<=a.size;omega,by show 1<b.size;omega,be _,by show 1+(a.size-1)+b.size=_;omega⟩,be _⟩) ?post)
 case post =>
  rintro⟨r,c⟩ st' ⟨f,O,e,h⟩;cases e
  exact df (q _ _ f h)
 case fin =>
  rintro⟨r,i,j,o,g⟩ st' ⟨f,e,⟨_,h1,S,T,U,v⟩,le⟩;have v:o.size+i+j=a.size+b.size:=v;have le:1+max 0 (a.size+b.size)<=o.size:=le;omega
 case step =>
  rintro x ⟨r,i,j,o,g⟩ st' _ _ ⟨f,e,N,le⟩
  cases(show r=none from e)
  have le:1+x<=o.size:=le;exact kRU H (f.1.trans J) N (λ r c n d h=>⟨⟨d.1.trans f.1,d.2.1.trans f.2.1,d.2.2.1.trans f.2.2.1,d.2.2.2.trans f.2.2.2⟩,r,rfl,h⟩) λ c n d y=>⟨⟨d.1.trans f.1,d.2.1.trans f.2.1,d.2.2.1.trans f.2.2.1,d.2.2.2.trans f.2.2.2⟩,y.mono (by omega)⟩
end
section
variable {α:Type} {lb:α->α->Bool}
def kIM(l:List α)(i:Nat)(x:α)(h:i<l.length):l.set i x=l.take i++x::l.drop (i+1):=by
 rw[List.set_eq_take_append_cons_drop,if_pos h]
theorem wr:∀(xs:List α)(k:Nat)(arr:Array α)(lo:Nat),lo+k+xs.length<=arr.size->((xs.zipIdx k).foldl (λ a (p:α×Nat)=>a.setIfInBounds (lo+p.2) p.1) arr).toList=arr.toList.take (lo+k)++(xs++arr.toList.drop (lo+k+xs.length))
 | [],k,arr,lo,h=>by simp
 | x::xs,k,arr,lo,h=>by
  rw[iQ]at h;rw[yp,vk];have d:=wr xs (k+1) (arr.setIfInBounds (lo+k) x) lo (by rw[Bs];omega);rw[d,BU,kIM _ _ _ (by simp;omega)];have e:(arr.toList.take (lo+k)).length=lo+k:=by simp;omega
  have b:(arr.toList.take (lo+k)++x::arr.toList.drop (lo+k+1)).take (lo+(k+1))=arr.toList.take (lo+k)++[x]:=by
   rw[EG,e,show lo+(k+1)-(lo+k)=1 by omega,ky (by rw[e];omega)]
   rfl
  have c:(arr.toList.take (lo+k)++x::arr.toList.drop (lo+k+1)).drop (lo+(k+1)+xs.length)=arr.toList.drop (lo+k+(x::xs).length):=by
   rw[Aa,e,oq (by rw[e];omega),kb,show lo+(k+1)+xs.length-(lo+k)=xs.length+1 by omega,List.drop_succ_cons,AL,iQ]
   congr 1
   omega
  rw[b,c];simp
def kJL(W:Wk lb){b c d a h:List α}(n:jC lb (b++c))(o:jC lb (d++a))(h1:∀ x∈b,∀ y∈d++a,le lb x y)(m:∀ x∈c,∀ y∈a,le lb x y)(r:Res lb c d h) :
  jC lb (b++(h++a))/\(b++(h++a)).Perm ((b++c)++(d++a)):=by
 have i:=eO.mp n;have j:=eO.mp o;have mem:∀ z∈h,z∈c\/z∈d:=λ z l=>cf.mp ((r.2.mem_iff).mp l);refine⟨eO.mpr ⟨i.1,eO.mpr ⟨r.1,j.2.1,λ x f y g=>?_⟩,λ x f y g=>?_⟩,?_⟩
 ·rcases mem x f with z | z
  ·exact m x z y g
  ·exact j.2.2 x z y g
 ·rcases cf.mp g with z | z
  ·rcases mem y z with w | w
   ·exact i.2.2 x f y w
   ·exact h1 x f y (dc _ w)
  ·exact h1 x f y (cm _ z)
 ·rw[bp]
  refine xw b ?_;rw[<-bp];exact r.2.append_right a
end
end Srt
local macro_rules | `(tactic| walk_at "sort_open mergeAt")=>`(tactic| delta $(Lean.mkIdent (Lean.mkPrivateNameCore `PySem.Builtin.List.W1All `PySem.Builtin.mergeAt)):ident)
namespace Srt
set_option autoImplicit false
open PySem PyProof.Rows
section
variable {M:yt} {A:fq} {E:ar->ay->Prop} {s:ay} {lb:bh->bh->Bool} {D:bh->Prop} {kd:oy} {arr:Array bh}
def kOT{st a:eR}{Q:PUnit->eR->Prop}(h:Q ⟨⟩ a):wpS M A E s (set a:StateT eR Sem PUnit) Q st:=by
 unfold wpS;rw[StateT.run_set];exact bj ⟨rfl,h⟩
def wX{i m j:Nat}(h1:i<=m)(a:m<=j):(arr.extract i j).toList=(arr.extract i m).toList++(arr.extract m j).toList:=by
 rw[<-iC,Array.extract_append_extract,kq h1,Nat.max_eq_right a]
def kDC(W:Wk lb){lo n:Nat}(h:jC lb (arr.extract lo (lo+n)).toList)(a:lo+n<=arr.size)(i j:Nat)(hi:i<=j)(b:j<n):le lb (arr[lo+i]'(by omega)) (arr[lo+j]'(by omega)):=by
 have:=wG W h hi (show j<(arr.extract lo (lo+n)).size by rw[ko];omega);simpa using this
def Joined(lb:bh->bh->Bool)(arr a:Array bh)(lo n:Nat):Prop:=∃ m:List bh,a.toList=arr.toList.take lo++(m++arr.toList.drop (lo+n))/\jC lb m/\m.Perm (arr.extract lo (lo+n)).toList
def vR{lo n:Nat}(h:lo+n<=arr.size):arr.toList=arr.toList.take lo++((arr.extract lo (lo+n)).toList++arr.toList.drop (lo+n)):=by
 rw[xG,<-AL,gk,gk]
def tY(W:Wk lb)(hL:vY M A E s lb D kd){st:eR}(L:kindOf st=kd)(hf:uz st=none)(dd:∀ x∈(cy st).toList,D x){i b d f pa pb:Nat}(hi:(cx st)[i]?=some (b,d,pa))(H:(cx st)[i+1]?=some (b+d,f,pb))
  (a0:0<d) (a6:0<f) (hn:b+d+f<=(cy st).size) (U:jC lb ((cy st).extract b (b+d)).toList) (sy:jC lb ((cy st).extract (b+d) (b+d+f)).toList) {Q:Bool->eR->Prop}
  (q:∀ st',kindOf st'=kd->uz st'=none->cx st'=((cx st).setIfInBounds i (b,d+f,pa)).eraseIdxIfInBounds (i+1)->Joined lb (cy st) (cy st') b (d+f)->Q true st'):wpS M A E s (mergeAt' i) Q st:=by
 unfold mergeAt'
 walk_at "sort_open mergeAt"
 dsimp only;refine ck (zr ?_);rw[hi,H];dsimp only;refine ck (kOT ?_);generalize hP:((cx st).setIfInBounds i (b,d+f,pa)).eraseIdxIfInBounds (i+1)=T at *;have dx:∀{j:Nat}(h:j<(cy st).size),D (cy st)[j]:=λ h=>dd _ (by simp);have z1:b+d<(cy st).size:=by omega
 have z2:b+d-1<(cy st).size:=by omega
 have z3:b+d<=(cy st).size:=by omega
 refine ck (qB (arr:=cy st) (getElem?_pos (cy st) (b+d) z1) ?_);refine ck (aD (arr:=cy st) (st:=setPending st T) W hL L (dx z1) dd z3 (kDC (arr:=cy st) W U z3) a0 λ k kn g1 g2=>?_);simp only[eP,if_false]at g1 g2;dsimp only;have J:=wX (arr:=cy st) (i:=b) (m:=b+k) (j:=b+d) (by omega) (by omega);have I:=wX (arr:=cy st) (i:=b) (m:=b+d) (j:=b+d+f) (by omega) (by omega);have iy:=kDC W sy (by omega);have ix:=kDC W U (by omega);have same:∀{X:List bh},X=((cy st).extract b (b+(d+f))).toList->jC lb X->Joined lb (cy st) (cy st) b (d+f):=λ{X} e h=>⟨X,by rw[e];exact vR (by omega),h,by rw[e]⟩
 have low:∀ x∈((cy st).extract b (b+k)).toList,∀ y∈((cy st).extract (b+d) (b+d+f)).toList,le lb x y:=λ x G y g=>by
  obtain⟨j,H,S,O,rfl⟩:=qZ G;obtain⟨j',a5,a7,a8,rfl⟩:=qZ g;have n:=g1 (j-b) (by omega) (by omega);have e2:=iy 0 (j'-(b+d)) (by omega) (by omega);simp only[show b+(j-b)=j by omega,show b+d+(j'-(b+d))=j' by omega,CV]at n e2;exact W.trans n e2
 by_cases e:d-k=0
 ·rw[if_pos (by simpa using e)]
  have ek:b+k=b+d:=by omega
  rw[ek]at low;exact df (q _ L hf rfl (same (by rw[<-xp];exact I.symm) (eO.mpr ⟨U,sy,low⟩)))
 rw[if_neg (by simpa using e)];have eL:b+k+(d-k)-1=b+d-1:=by omega
 rw[eL];refine ck (qB (arr:=cy st) (getElem?_pos (cy st) (b+d-1) z2) ?_);refine ck (aD (arr:=cy st) (st:=setPending st T) W hL L (dx z2) dd hn iy (by omega) λ p pn f1 f2=>?_);simp only[if_true]at f1 f2;dsimp only
 have l:∀ x∈((cy st).extract b (b+d)).toList,le lb x ((cy st)[b+d-1]'(by omega)):=λ x G=>by
  obtain⟨j,H,S,O,rfl⟩:=qZ G;have n:=ix (j-b) (d-1) (by omega) (by omega);simp only[show b+(j-b)=j by omega,show b+(d-1)=b+d-1 by omega]at n;exact n
 have high:∀ y∈((cy st).extract (b+d+p) (b+d+f)).toList,le lb ((cy st)[b+d-1]'(by omega)) y:=λ y g=>by
  obtain⟨j,H,S,O,rfl⟩:=qZ g;have n:=f2 (j-(b+d)) (by omega) (by omega);simp only[show b+d+(j-(b+d))=j by omega]at n;exact n
 by_cases e0:p=0
 ·rw[if_pos (by simpa using e0)]
  rw[e0,CV]at high;exact df (q _ L hf rfl (same (by rw[<-xp];exact I.symm) (eO.mpr ⟨U,sy,λ x G y g=>W.trans (l x G) (high y g)⟩)))
 rw[if_neg (by simpa using e0)];have N:=wX (arr:=cy st) (i:=b+d) (m:=b+d+p) (j:=b+d+f) (by omega) (by omega);have C:=U;rw[J]at C;have B:=sy;rw[N]at B
 have mx:∀{u v:Nat},∀ x∈((cy st).extract u v).toList,D x:=λ x G=>by
  obtain⟨j,H,_,_,rfl⟩:=qZ G;exact dx H
 have a1:((cy st).extract (b+k) (b+d)).size=d-k:=by rw[ko];omega
 have a2:((cy st).extract (b+d) (b+d+p)).size=p:=by rw[ko];omega
 have x0:∀(h:0<((cy st).extract (b+k) (b+d)).size),((cy st).extract (b+k) (b+d))[0]=(cy st)[b+k]'(by omega):=λ h=>by simp
 have xl:∀(h:0<((cy st).extract (b+k) (b+d)).size),((cy st).extract (b+k) (b+d))[((cy st).extract (b+k) (b+d)).size-1]'(by omega)=(cy st)[b+d-1]'(by omega):=λ h=>by
  rw[Array.getElem_extract]
  congr 1
  omega
 have y0:∀(h:0<((cy st).extract (b+d) (b+d+p)).size),((cy st).extract (b+d) (b+d+p))[0]=(cy st)[b+d]'(by omega):=λ h=>by simp
 have below:∀ y∈((cy st).extract (b+d) (b+d+p)).toList,le lb y ((cy st)[b+d-1]'(by omega)):=λ y g=>by
  obtain⟨j,H,S,O,rfl⟩:=qZ g;have n:=f1 (j-(b+d)) (by omega) (by omega);simp only[show b+d+(j-(b+d))=j by omega]at n;exact W.of_lt n
 have o:∀ y∈((cy st).extract (b+k) (b+d)).toList,le lb ((cy st)[b+d]'(by omega)) y:=λ y g=>by
  obtain⟨j,H,S,O,rfl⟩:=qZ g;have n:=g2 (j-b) (by omega) (by omega);simp only[show b+(j-b)=j by omega]at n;exact W.of_lt n
 have Y:∀(r:Array bh)(st':eR),Sm (setPending st T) st'->Res lb ((cy st).extract (b+k) (b+d)).toList ((cy st).extract (b+d) (b+d+p)).toList r.toList ->
   wpS M A E s (do modify λ s=>setArr s (r.toList.zipIdx.foldl (λ a (p,j)=>a.setIfInBounds (b+k+j) p) (cy s));let __do_lift <-get;pure (uz __do_lift).isNone) Q st':=λ r st' sm Z=>by
  refine ck (qe (ck (zr ?_)));have ef:uz st'=none:=sm.2.2.2.trans hf;have ea:cy st'=cy st:=sm.2.1;refine df ?_;show Q (uz st').isNone _;rw[ef];refine q _ (sm.1.trans L) ef sm.2.2.1 ?_;show Joined lb (cy st) (r.toList.zipIdx.foldl (λ a (p:bh×Nat)=>a.setIfInBounds (b+k+p.2) p.1) (cy st')) b (d+f);rw[ea];obtain⟨S,O⟩:=kJL W C B (by rw[<-N];exact low) (λ x G y g=>W.trans (l x (by rw[J];exact cm _ G)) (high y g)) Z;rw[<-J,<-N,<-I]at O;refine⟨_,?_,S,by rw[<-xp];exact O⟩
  have len:r.toList.length=d-k+p:=by
   have:=Z.2.length_eq;rw[bu]at this;simp only[iB,a1,a2]at this;simpa using this
  rw[wr r.toList 0 (cy st) (b+k) (by rw[len];omega),len];have t1:(cy st).toList.take (b+k+0)=(cy st).toList.take b++((cy st).extract b (b+k)).toList:=kCX (cy st) (by omega)
  have t2:(cy st).toList.drop (b+k+0+(d-k+p))=((cy st).extract (b+d+p) (b+d+f)).toList++(cy st).toList.drop (b+(d+f)):=by
   rw[show b+k+0+(d-k+p)=b+d+p by omega,show b+d+f=b+d+p+(f-p) by omega,xG,show b+(d+f)=b+d+p+(f-p) by omega];exact kEM _ _ _
  rw[t1,t2];simp only[bp]
 have a3:(cy st)[b+k]'(by omega)∈((cy st).extract (b+k) (b+d)).toList:=by
  rw[<-x0 (by omega),uu];exact Bm _
 have a4:((cy st).extract (b+d) (b+d+p))[((cy st).extract (b+d) (b+d+p)).size-1]'(by omega)∈((cy st).extract (b+d) (b+d+p)).toList:=by
  rw[uu];exact Bm _
 by_cases c:d-k<=p
 ·rw[if_pos c]
  refine ck ?_;exact tW (st:=setPending st T) ⟨W,hL,mx,mx,(eO.mp C).2.1,(eO.mp B).1,λ h y g=>by rw[xl h];exact below y g⟩ L (by omega) (by omega) (by rw[x0 (by omega),y0 (by omega)];exact o _ a3) Y
 ·rw[if_neg c]
  refine ck ?_;exact tX (st:=setPending st T) ⟨W,hL,mx,mx,(eO.mp C).2.1,(eO.mp B).1,λ h y g=>by rw[y0 h];exact o y g⟩ L (by omega) (by omega) (by rw[xl (by omega)];exact below _ a4) Y
end
def rY{α:Type}{R:α->α->Prop}:∀{l:List α},l.length<=1->l.Pairwise R
 | [],_=>Bl
 | [_],_=>qc _ _
set_option autoImplicit false
open PySem PyProof.Rows
section
variable {α:Type}
def kLB(arr:Array α){Q R:List α}{y x:α}(h:arr.toList=Q++y::x::R):(arr.swapIfInBounds (Q.length+1) Q.length).toList=Q++x::y::R:=by
 have sz:arr.size=Q.length+(R.length+2):=by
  have:=congrArg jd h;simpa using this
 have g:∀ k,arr[k]?=(Q++y::x::R)[k]?:=λ k=>by rw[<-h,ou]
 refine Bp λ k=>?_;have e:=getElem?_swapIB (xs:=arr) (i:=Q.length+1) (j:=Q.length) (by omega) (by omega) k;rw[show(arr.swapIfInBounds (Q.length+1) Q.length).toList[k]?=(arr.swapIfInBounds (Q.length+1) Q.length)[k]? by simp,e,g,g,g];rcases iV k Q.length with c | c
 ·rw[if_neg (by omega),if_neg (by omega),bb c,bb c]
 ·obtain⟨j,rfl⟩ : ∃ j,k=Q.length+j:=⟨k-Q.length,by omega⟩
  rw[bf (by omega),bf (by omega),bf (by omega),bf (by omega)];rw[show Q.length+j-Q.length=j by omega,show Q.length+1-Q.length=1 by omega,CW]
  match j with
  | 0=>simp
  | 1=>simp
  | j+2 =>
   rw[if_neg (by omega),if_neg (by omega)];simp
theorem fP:∀(b a T:List α)(x:α)(arr:Array α),arr.toList=a++(b++x::T)->(bubble arr (a.length+b.length) b.length).toList=a++(x::(b++T))
 | [],a,T,x,arr,h=>h
 | y::b,a,T,x,arr,h=>by
  have c:=fP b (a++[y]) T x arr (by rw[h];simp);rw[iQ,bubble_succ];rw[bu,fk,show a.length+1+b.length=a.length+(b.length+1) by omega]at c;have e:=kLB (bubble arr (a.length+(b.length+1)) b.length) (Q:=a) (y:=y) (x:=x) (R:=b++T) (by rw[c];simp);rw[show a.length+(b.length+1)-b.length=a.length+1 by omega,show a.length+1-1=a.length by omega];rw[e];simp
end
section
variable {M:yt} {A:fq} {E:ar->ay->Prop} {s:ay} {lb:bh->bh->Bool} {D:bh->Prop} {kd:oy}
def bK(d:vY M A E s lb D kd){st:eR}(b:kindOf st=kd){i j:Nat}{x y:bh}(f:(cy st)[i]?=some x)(c:(cy st)[j]?=some y)(a:D x)(g:D y){Q:Option Bool->eR->Prop}(q:Q (some (lb x y)) st):wpS M A E s (ltAt' i j) Q st:=by
 rw[ltAt'_eq];refine ck (zr ?_);exact ck (qB f (ck (qB c (d _ _ a g st _ b q))))
def Sa(st a:eR):Prop:=kindOf a=kindOf st/\cx a=cx st/\uz a=uz st
def kQF(W:Wk lb){c b:List bh}{x:bh}(h:jC lb (c++b))(h1:∀ y∈c,le lb y x)(g:∀ y∈b,le lb x y):jC lb (c++x::b):=by
 have a:=eO.mp h;refine eO.mpr ⟨a.1,BV.mpr ⟨g,a.2.1⟩,λ y d z f=>?_⟩;rcases eK.mp f with rfl | w
 ·exact h1 y d
 ·exact a.2.2 y d z w
def kCS(W:Wk lb)(hL:vY M A E s lb D kd){st:eR}(hk:kindOf st=kd)(O:∀ x∈(cy st).toList,D x){lo n ok:Nat}(Z:ok<=n)(hn:lo+n<=(cy st).size)(hs:jC lb ((cy st).extract lo (lo+ok)).toList){Q:Bool->eR->Prop}
  (q:∀ st',Sa st st'->Joined lb (cy st) (cy st') lo n->Q true st'):wpS M A E s (binarySort' lo n ok) Q st:=by
 rw[binarySort'_eq];refine ck (uy (jx (I:=λ k c st'=>c=(none,())/\Sa st st'/\Joined lb (cy st) (cy st') lo (min k n)) (Q:=λ c st'=>c=(none,())/\Sa st st'/\Joined lb (cy st) (cy st') lo n) ?step ?fin ?init) ?post)
 case post =>
  rintro c st' ⟨rfl,g,j⟩;exact df (q st' g j)
 case fin =>
  rintro c st' ⟨rfl,g,j⟩;refine⟨rfl,g,?_⟩;rwa[show min (max (max ok 1) n) n=n by omega]at j
 case init =>
  refine⟨rfl,⟨rfl,rfl,rfl⟩,_,vR (by omega),?_,AK _⟩;by_cases o:ok=0
  ·have:((cy st).extract lo (lo+min (max ok 1) n)).toList.length<=1:=by
    rw[iB,ko];omega
   generalize((cy st).extract lo (lo+min (max ok 1) n)).toList=l at *;exact rY this
  ·rwa[show min (max ok 1) n=ok by omega]
 case step =>
  rintro k c st' _ X ⟨rfl,g,m,e,L,B⟩;rw[show min k n=k by omega]at e B;have lm:m.length=k:=by rw[B.length_eq,iB,ko];omega
  have lp:((cy st).toList.take lo).length=lo:=by simp;omega
  have N:lo+k<(cy st).size:=by omega
  rw[drop_one N]at e
  have ax:(cy st')[lo+k]?=some ((cy st)[lo+k]):=by
   rw[<-ou,e,bf (by omega),lp,bf (by omega),lm,show lo+k-lo-k=0 by omega]
   rfl
  have Y:∀ j (h:j<m.length),(cy st')[lo+j]?=some m[j]:=λ j h=>by
   rw[<-ou,e,bf (by omega),lp,bb (by omega),show lo+j-lo=j by omega];exact ae h
  have U:D (cy st)[lo+k]:=O _ (by simp)
  have S:∀ j (h:j<m.length),D m[j]:=λ j h=>by
   obtain⟨i,f,_,_,ei⟩:=qZ (B.mem_iff.mp (ie h));rw[ei];exact O _ (by simp)
  have mono:∀ i j (h:i<=j) (J:j<m.length),le lb (m[i]'(by omega)) m[j]:=λ i j h J=>by
   by_cases z:i=j
   ·subst z;exact W.refl _
   ·exact qh.mp L i j (by omega) J (by omega)
  refine ck (uy (jx (I:=λ x c a=>a=st'/\∃ l r,c=(none,l,r)/\l<=r/\r<=k/\r-l<=k-x/\(∀ i (h:i<m.length),i<l->le lb m[i] (cy st)[lo+k])/\(∀ i (h:i<m.length),r<=i->le lb (cy st)[lo+k] m[i]))
   (Q:=λ c a=>a=st'/\∃ l r,c=(none,l,r)/\l<=k/\(∀ i (h:i<m.length),i<l->le lb m[i] (cy st)[lo+k])/\(∀ i (h:i<m.length),l<=i->le lb (cy st)[lo+k] m[i])) ?istep ?ifin ?iinit) ?ipost)
  case iinit=>exact⟨rfl,0,k,rfl,by omega,by omega,by omega,λ i _ f=>by omega,λ i h1 h2=>by omega⟩
  case ifin =>
   rintro c a ⟨rfl,l,r,rfl,lr,H,d,p,u⟩;have:l=r:=by omega
   subst this;exact⟨rfl,l,l,rfl,H,p,u⟩
  case istep =>
   rintro x c a _ _ ⟨rfl,l,r,rfl,lr,H,d,p,u⟩;dsimp only;by_cases v:l >= r
   ·rw[if_pos v]
    have:l=r:=by omega
    subst this;exact df ⟨rfl,l,l,rfl,H,p,u⟩
   ·rw[if_neg v]
    have C:(l+r) / 2<m.length:=by omega
    refine ck (bK hL (g.1.trans hk) ax (Y _ C) U (S _ C) ?_)
    cases z:lb (cy st)[lo+k] m[(l+r) / 2]
    case true =>
     simp only[if_true];exact df ⟨rfl,l,_,rfl,by omega,by omega,by omega,p,λ i h f=>W.trans (W.of_lt z) (mono _ i f h)⟩
    case false =>
     simp only[eP,if_false];exact df ⟨rfl,_,r,rfl,by omega,by omega,by omega,λ i h f=>W.trans (mono i _ (by omega) C) z,u⟩
  case ipost =>
   rintro c a ⟨rfl,l,r,rfl,lk,p,u⟩;show wpS _ _ _ _ (do moveDown' (lo+k) (lo+l);pure (jg (none,()))) _ _;rw[moveDown'_eq];refine ck (qe (df ⟨rfl,g,?_⟩));rw[show min (k+1) n=k+1 by omega];show Joined lb (cy st) (bubble (cy a) (lo+k) (lo+k-(lo+l))) lo (k+1)
   have b:=fP (m.drop l) ((cy st).toList.take lo++m.take l) ((cy st).toList.drop (lo+k+1)) ((cy st)[lo+k]) (cy a) (by
    rw[e]
    conv=>lhs;rw[<-gk l m]
    simp only[bp,List.singleton_append])
   have l1:((cy st).toList.take lo++m.take l).length+(m.drop l).length=lo+k:=by
    rw[bu,lp,de,iP];omega
   have T:(m.drop l).length=lo+k-(lo+l):=by rw[iP];omega
   rw[l1,T]at b;refine⟨m.take l++(cy st)[lo+k]::m.drop l,?_,kQF W (by rw[gk];exact L) (λ y G=>?_) (λ y G=>?_),?_⟩
   ·rw[b,<-xp]
    simp only[bp,ji]
   ·obtain⟨i,f,rfl⟩:=eV.mp G
    rw[de]at f;rw[AM];exact p i (by omega) (by omega)
   ·obtain⟨i,f,rfl⟩:=eV.mp G
    rw[iP]at f;rw[Bo];exact u _ (by omega) (by omega)
   ·refine ur CG ?_
    rw[gk,wX (i:=lo) (m:=lo+k) (j:=lo+(k+1)) (by omega) (by omega)]
    have:((cy st).extract (lo+k) (lo+(k+1))).toList=[(cy st)[lo+k]]:=by
     rw[<-xp,xG,drop_one N]
     rfl
    rw[this];exact(kr (l₁:=[(cy st)[lo+k]]) (l₂:=m)).trans (B.append_right _)
end
section
variable {α:Type}
def kBO(arr:Array α){P m T:List α}{i j:Nat}(h:arr.toList=P++(m++T))(hi:i=P.length)(b:j=P.length+m.length):(mirror arr i j ((j-i) / 2)).toList=P++(m.reverse++T):=by
 subst hi b
 have sz:arr.size=P.length+(m.length+T.length):=by
  have:=congrArg jd h;simpa using this
 have g:∀ k,arr[k]?=(P++(m++T))[k]?:=λ k=>by rw[<-h,ou]
 refine Bp λ k=>?_;rw[ou,getElem?_mirror_all (by omega),g,g];rcases iV k P.length with c | c
 ·rw[if_neg (by omega),bb c,bb c]
 ·rcases iV k (P.length+m.length) with a | a
  ·rw[if_pos ⟨c,a⟩,bf (by omega),bf c,bb (by omega),bb (by rw[BB];omega),List.getElem?_reverse (by omega)]
   congr 1
   omega
  ·rw[if_neg (by omega),bf c,bf c,bf (by omega),bf (by rw[BB];omega),BB]
end
section
variable {α:Type} {lb:α->α->Bool}
def Fal(lb:α->α->Bool)(l:List α):Prop:=l.Pairwise λ a b=>le lb b a
def Fal.rev{l:List α}(h:Fal lb l):jC lb l.reverse:=AV.mpr h
def Fal.tail{u t:List α}(h:Fal lb (u++t))(e:jC lb t):Fal lb (u++t.reverse):=by
 have a:=eO.mp h;refine eO.mpr ⟨a.1,AV.mpr e,λ x c y b=>a.2.2 x c y (yr.mp b)⟩
end
section
variable {M:yt} {A:fq} {E:ar->ay->Prop} {s:ay} {lb:bh->bh->Bool} {D:bh->Prop} {kd:oy}
structure Rn(arr0 arr:Array bh)(lo n:Nat)(m:List bh):Prop where
 eq:arr.toList=arr0.toList.take lo++(m++arr0.toList.drop (lo+n))
 pm:m.Perm (arr0.extract lo (lo+n)).toList
 hn:lo+n<=arr0.size
variable {arr0 arr:Array bh} {lo n:Nat} {m:List bh}
def Rn.len(h:Rn arr0 arr lo n m):m.length=n:=by
 have:=h.hn;rw[h.pm.length_eq,iB,ko];omega
def Rn.joined(h:Rn arr0 arr lo n m)(a:jC lb m):Joined lb arr0 arr lo n:=⟨m,h.eq,a,h.pm⟩
def Rn.start(h:lo+n<=arr0.size):Rn arr0 arr0 lo n (arr0.extract lo (lo+n)).toList:=⟨vR h,AK _,h⟩
def Rn.lp(h:Rn arr0 arr lo n m):(arr0.toList.take lo).length=lo:=by have:=h.hn;simp;omega
def Rn.at(h:Rn arr0 arr lo n m){j:Nat}(a:j<m.length):arr[lo+j]?=some m[j]:=by
 rw[<-ou,h.eq,bf (by rw[h.lp];omega),h.lp,bb (by omega),show lo+j-lo=j by omega];exact ae a
def Rn.next(h:Rn arr0 arr lo n m)(a:lo+n<arr0.size):arr[lo+n]?=some arr0[lo+n]:=by
 rw[<-ou,h.eq,bf (by rw[h.lp];omega),h.lp,bf (by rw[h.len];omega),h.len,drop_one a,show lo+n-lo-n=0 by omega]
 rfl
def Rn.more(h:Rn arr0 arr lo n m)(a:lo+n<arr0.size):Rn arr0 arr lo (n+1) (m++[arr0[lo+n]]):=by
 refine⟨?_,?_,by omega⟩
 ·rw[h.eq,drop_one a,bp]
  rfl
 ·rw[wX (i:=lo) (m:=lo+n) (j:=lo+(n+1)) (by omega) (by omega)]
  have:(arr0.extract (lo+n) (lo+(n+1))).toList=[arr0[lo+n]]:=by
   rw[<-xp,xG,drop_one a]
   rfl
  rw[this];exact h.pm.append_right _
def Rn.dom(h:Rn arr0 arr lo n m)(c:∀ x∈arr0.toList,D x):∀ x∈m,D x:=λ x b=>by
 obtain⟨i,d,_,_,a⟩:=qZ (h.pm.mem_iff.mp b);rw[a];exact c _ (by simp)
def Rn.turn{u v t:List bh}(h:Rn arr0 arr lo n (u++(v++t))){i j:Nat}(hi:i=lo+u.length)(a:j=lo+u.length+v.length):Rn arr0 (mirror arr i j ((j-i) / 2)) lo n (u++(v.reverse++t)):=by
 have lp:=h.lp;refine⟨?_,ur (xw u (xc t (List.reverse_perm v))) h.pm,h.hn⟩;have e:=kBO arr (P:=arr0.toList.take lo++u) (m:=v) (T:=t++arr0.toList.drop (lo+n)) (i:=i) (j:=j) (by rw[h.eq];simp only[bp]) (by rw[bu,lp];exact hi) (by rw[bu,lp];exact a);rw[e];simp only[bp]
def kGM(W:Wk lb){m:List bh}{x:bh}(a:jC lb m)(h:m.length-1<m.length)(c:le lb m[m.length-1] x):jC lb (m++[x]):=by
 refine eO.mpr ⟨a,qc _ _,λ y f z b=>?_⟩;have:z=x:=by simpa using b
 subst this;obtain⟨i,d,rfl⟩:=eV.mp f;by_cases e:i=m.length-1
 ·subst e;exact c
 ·exact W.trans (qh.mp a i (m.length-1) d h (by omega)) c
abbrev AS:=Option (Option Nat)×Nat
def kEQ(lo a b:Nat):StateT eR Sem AS :=
 forIn [a:b] ((none,a):AS) λ _ c=>do
  let r <-ltAt' (lo+c.2) (lo+c.2-1)
  match r with
  | some smaller=>if smaller=true then pure (yi (none,c.2)) else pure (jg (none,c.2+1))
  | _=>pure (yi (some none,c.2))
def tZ(W:Wk lb)(r:vY M A E s lb D kd){st:eR}(u:kindOf st=kd)(o:∀ x∈arr0.toList,D x){a:Nat}(B:lo+a<=arr0.size)(C:1<=n)(y:n<=a)(h:Rn arr0 (cy st) lo n m)(p:jC lb m){Q:AS->eR->Prop}
  (q:∀ k m',n<=k->k<=a->Rn arr0 (cy st) lo k m'->jC lb m'->(k=a\/∃(h1:lo+k<arr0.size)(G:m'.length-1<m'.length),lb arr0[lo+k] m'[m'.length-1]=true)->Q (none,k) st):wpS M A E s (kEQ lo n a) Q st:=by
 unfold kEQ;refine jx (I:=λ x c f=>f=st/\c=(none,x)/\∃ m',Rn arr0 (cy st) lo x m'/\jC lb m') ?step ?fin ⟨rfl,rfl,m,h,p⟩
 case fin =>
  rintro c f ⟨rfl,rfl,m',b,d⟩;rw[show max n a=a by omega]at b ⊢;exact q a m' y (be _) b d (.inl rfl)
 case step =>
  rintro x c f j v ⟨rfl,rfl,m',b,d⟩;dsimp only;have H:=b.len;have i:lo+x<arr0.size:=by omega
  have g:m'.length-1<m'.length:=by omega
  have l:=b.at g;rw[show lo+(m'.length-1)=lo+x-1 by omega]at l;refine ck (bK r u (b.next i) l (o _ (by simp)) (b.dom o _ (ie g)) ?_)
  cases e:lb arr0[lo+x] m'[m'.length-1]
  case true =>
   simp only[if_true];exact df (q x m' j (by omega) b d (.inr ⟨i,g,e⟩))
  case false =>
   simp only[eP,if_false];exact df ⟨rfl,rfl,_,b.more i,kGM W d g e⟩
end
section
variable {M:yt} {A:fq} {E:ar->ay->Prop} {s:ay} {lb:bh->bh->Bool} {D:bh->Prop} {kd:oy}
variable {arr0 arr:Array bh} {lo n:Nat} {m:List bh}
abbrev DS:=Option (Option Nat)×Nat×Nat
def kCH(lo n a:Nat):StateT eR Sem DS :=
 forIn [n:a] ((none,n,0):DS) λ _ c=>do
  let r <-ltAt' (lo+c.2.1) (lo+c.2.1-1)
  match r with
  | some smaller =>
   if smaller=true then
    if c.2.2>0 then do
     reverseSlice' (lo+c.2.1-(c.2.2+1)) (lo+c.2.1)
     pure (jg (none,c.2.1+1,0))
    else pure (jg (none,c.2.1+1,0))
   else do
    let r <-ltAt' (lo+c.2.1-1) (lo+c.2.1)
    match r with
    | some larger=>if larger=true then pure (yi (none,c.2.1,c.2.2)) else pure (jg (none,c.2.1+1,c.2.2+1))
    | _=>pure (yi (some none,c.2.1,c.2.2))
  | _=>pure (yi (some none,c.2.1,c.2.2))
structure Fl(lb:bh->bh->Bool)(arr0 arr:Array bh)(lo n neq:Nat)(u t:List bh)(z:bh):Prop where
 rn:Rn arr0 arr lo n (u++(t++[z]))
 fal:Fal lb (u++(t++[z]))
 srt:jC lb (t++[z])
 len:t.length=neq
def Fl.last{a:Nat}{u t:List bh}{z:bh}(h:Fl lb arr0 arr lo n a u t z)(b:0<n):arr[lo+n-1]?=some z:=by
 have l:=h.rn.len;rw[bu,bu,fk]at l;have:=h.rn.at (j:=n-1) (by rw[bu,bu,fk];omega);rw[show lo+(n-1)=lo+n-1 by omega]at this;rw[this,<-ae,bf (by omega),bf (by omega),show n-1-u.length-t.length=0 by omega]
 rfl
def Fl.low(W:Wk lb){a:Nat}{u t:List bh}{z x:bh}(h:Fl lb arr0 arr lo n a u t z)(c:le lb x z):∀ y∈u++(t++[z]),le lb x y:=λ y b=>by
 have f:=h.fal;rw[Fal,<-bp]at f;rw[<-bp]at b;rcases cf.mp b with w | w
 ·exact W.trans c ((eO.mp f).2.2 y w z (by simp))
 ·have:y=z:=by simpa using w
  rw[this];exact c
def cH{l:List bh}{x:bh}(h:Fal lb l)(c:∀ y∈l,le lb x y):Fal lb (l++[x]):=by
 refine eO.mpr ⟨h,qc _ _,λ y a w b=>?_⟩;have:w=x:=by simpa using b
 rw[this];exact c y a
def Fl.turned{a:Nat}{u t:List bh}{z:bh}(h:Fl lb arr0 arr lo n a u t z):Rn arr0 (mirror arr (lo+n-(a+1)) (lo+n) ((lo+n-(lo+n-(a+1))) / 2)) lo n (u++(t++[z]).reverse)/\Fal lb (u++(t++[z]).reverse):=by
 have l:=h.rn.len;have b:=h.len;rw[bu,bu,fk]at l;refine⟨?_,h.fal.tail h.srt⟩;have:=Rn.turn (u:=u) (v:=t++[z]) (t:=[]) (by simpa using h.rn) (i:=lo+n-(a+1)) (j:=lo+n) (by omega) (by rw[bu,fk];omega);simpa using this
def kHY(W:Wk lb)(m:vY M A E s lb D kd){st:eR}(p:kindOf st=kd)(r:∀ x∈arr0.toList,D x){a:Nat}(J:lo+a<=arr0.size)(L:1<=n)(H:n<=a){u:List bh}{z:bh}(h:Fl lb arr0 (cy st) lo n 0 u [] z){Q:DS->eR->Prop}
  (q:∀ k neq st' u t z,Sa st st'->n<=k->k<=a->Fl lb arr0 (cy st') lo k neq u t z->Q (none,k,neq) st'):wpS M A E s (kCH lo n a) Q st:=by
 unfold kCH;refine jx (I:=λ x c st'=>Sa st st'/\∃ neq u t z,c=(none,x,neq)/\Fl lb arr0 (cy st') lo x neq u t z) ?step ?fin ⟨⟨rfl,rfl,rfl⟩,0,u,[],z,rfl,h⟩
 case fin =>
  rintro c st' ⟨b,neq,u,t,z,rfl,f⟩;rw[show max n a=a by omega]at f ⊢;exact q _ _ _ _ _ _ b H (be _) f
 case step =>
  rintro x c st' g G ⟨b,neq,u,t,z,rfl,f⟩;dsimp only;have d:lo+x<arr0.size:=by omega
  have j:D z:=f.rn.dom r z (by simp);have i:D arr0[lo+x]:=r _ (by simp);refine ck (bK m (b.1.trans p) (f.rn.next d) (f.last (by omega)) i j ?_)
  cases e:lb arr0[lo+x] z
  case true =>
   simp only[if_true];have o:=f.low W (W.of_lt e);by_cases l:neq>0
   ·rw[if_pos l,Ab]
    obtain⟨v,B⟩:=f.turned;refine ck (qe (df ⟨b,0,_,[],_,rfl,⟨v.more d,cH B λ y C=>o y ?_,qc _ _,rfl⟩⟩));rcases cf.mp C with w | w
    ·exact dc _ w
    ·exact cm _ (yr.mp w)
   ·rw[if_neg l]
    exact df ⟨b,0,_,[],_,rfl,⟨f.rn.more d,cH f.fal o,qc _ _,rfl⟩⟩
  case false =>
   simp only[eP,if_false];refine ck (bK m (b.1.trans p) (f.last (by omega)) (f.rn.next d) j i ?_)
   cases e2:lb z arr0[lo+x]
   case true =>
    simp only[if_true];exact df (q _ _ _ _ _ _ b g (by omega) f)
   case false =>
    simp only[eP,if_false];refine df ⟨b,neq+1,u,t++[z],arr0[lo+x],rfl,⟨by have:=f.rn.more d;simpa using this,by have:=cH f.fal (f.low W e2);simpa using this,?_,by rw[bu,f.len];rfl⟩⟩;refine kGM W f.srt (by rw[bu,fk];omega) ?_;have:(t++[z])[(t++[z]).length-1]'(by rw[bu,fk];omega)=z:=by simp
    rw[this];exact e
end
def oM(lo n a:Nat):StateT eR Sem (Option Nat):=do
 reverseSlice' lo (lo+n)
 let c <-kEQ lo n a
 match c.1 with
 | some r=>pure r
 | none=>pure (some c.2)
def fA(lo n a:Nat):StateT eR Sem (Option Nat):=do
 liftM (rule "list.sort.descending-run")
 let c <-kCH lo (n+1) a
 match c.1 with
 | some r=>pure r
 | none =>
  if c.2.2>0 then do
   reverseSlice' (lo+c.2.1-(c.2.2+1)) (lo+c.2.1)
   oM lo c.2.1 a
  else oM lo c.2.1 a
def nB(lo a:Nat):countRun' lo a=(do
  let c <-kEQ lo 1 a
  match c.1 with
  | some r=>pure r
  | none =>
   if(c.2 == a)=true then pure (some c.2)
   else if c.2>1 then do
    let r <-ltAt' lo (lo+c.2-1)
    match r with
    | some rose =>
     if rose=true then pure (some c.2)
     else do
      reverseSlice' lo (lo+c.2)
      fA lo c.2 a
    | _=>pure none
   else fA lo c.2 a):=by
 rw[countRun'_eq];dsimp only;unfold kEQ;refine congr (congrArg _ (congrArg _ (funext λ x=>funext λ c=>congrArg _ (funext λ r=>by cases r<;>rfl)))) (funext λ c=>?_);have part:∀ n:Nat,fA lo n a=fA lo n a:=λ _=>rfl
 cases c.1 with
 | some r=>rfl
 | none =>
  dsimp only;refine ite_congr rfl (λ _=>rfl) (λ _=>ite_congr rfl (λ _=>congrArg _ (funext λ r=>?_)) (λ _=>?_))
  ·cases r with
   | none=>rfl
   | some rose =>
    dsimp only;refine ite_congr rfl (λ _=>rfl) (λ _=>congrArg _ (funext λ _=>?_));unfold fA kCH;refine congrArg _ (funext λ _=>congr (congrArg _ (congrArg _ (funext λ x=>funext λ d=>congrArg _ (funext λ r=>?_)))) (funext λ d=>?_))
    ·cases r with
     | none=>rfl
     | some b=>exact ite_congr rfl (λ _=>rfl) (λ _=>congrArg _ (funext λ r=>by cases r<;>rfl))
    ·cases d.1 with
     | some r=>rfl
     | none =>
      unfold oM kEQ;refine ite_congr rfl (λ _=>congrArg _ (funext λ _=>?_)) (λ _=>?_)
      all_goals exact congrArg _ (funext λ _=>congr (congrArg _ (congrArg _ (funext λ x=>funext λ c=>congrArg _ (funext λ r=>by cases r<;>rfl)))) (funext λ c=>by cases c.1<;>rfl))
  ·unfold fA kCH
   refine congrArg _ (funext λ _=>congr (congrArg _ (congrArg _ (funext λ x=>funext λ d=>congrArg _ (funext λ r=>?_)))) (funext λ d=>?_))
   ·cases r with
    | none=>rfl
    | some b=>exact ite_congr rfl (λ _=>rfl) (λ _=>congrArg _ (funext λ r=>by cases r<;>rfl))
   ·cases d.1 with
    | some r=>rfl
    | none =>
     unfold oM kEQ;refine ite_congr rfl (λ _=>congrArg _ (funext λ _=>?_)) (λ _=>?_)
     all_goals exact congrArg _ (funext λ _=>congr (congrArg _ (congrArg _ (funext λ x=>funext λ c=>congrArg _ (funext λ r=>by cases r<;>rfl)))) (funext λ c=>by cases c.1<;>rfl))
section
variable {M:yt} {A:fq} {E:ar->ay->Prop} {s:ay} {lb:bh->bh->Bool} {D:bh->Prop} {kd:oy}
variable {arr0 arr:Array bh} {lo n:Nat} {m:List bh}
def nY(W:Wk lb)(l:vY M A E s lb D kd){st:eR}(d:kindOf st=kd)(r:∀ x∈arr0.toList,D x){a:Nat}(f:lo+a<=arr0.size)(g:1<=n)(y:n<=a)(h:Rn arr0 (cy st) lo n m)(c:Fal lb m){Q:Option Nat->eR->Prop}
  (q:∀ k st',Sa st st'->1<=k->k<=a->Joined lb arr0 (cy st') lo k->Q (some k) st'):wpS M A E s (oM lo n a) Q st:=by
 unfold oM;rw[Ab];refine ck (qe ?_);have t:=Rn.turn (u:=[]) (v:=m) (t:=[]) (by simpa using h) (i:=lo) (j:=lo+n) (by simp) (by rw[h.len];simp);simp only[kb,iU]at t;refine ck (tZ (st:=setArr st (mirror (cy st) lo (lo+n) ((lo+n-lo) / 2))) W l d r f g y t c.rev λ k C B o p b _=>?_);exact df (q k _ ⟨rfl,rfl,rfl⟩ (by omega) o (p.joined b))
def nZ(W:Wk lb)(i:vY M A E s lb D kd){st:eR}(j:kindOf st=kd)(o:∀ x∈arr0.toList,D x){a:Nat}(g:lo+a<=arr0.size)(J:1<=n)(L:n<a)(h:Rn arr0 (cy st) lo n m)(H:Fal lb m)(hz:lo+n<arr0.size)(G:∀ y∈m,le lb arr0[lo+n] y){Q:Option Nat->eR->Prop}
  (q:∀ k st',Sa st st'->1<=k->k<=a->Joined lb arr0 (cy st') lo k->Q (some k) st'):wpS M A E s (fA lo n a) Q st:=by
 unfold fA;refine ck (wL ?_);refine ck (kHY W i j o g (by omega) (by omega) (u:=m) (z:=arr0[lo+n]) ⟨h.more hz,cH H G,qc _ _,rfl⟩ λ k c st' u t z d I v f=>?_);dsimp only;have p:∀ k b,Sa st' b->1<=k->k<=a->Joined lb arr0 (cy b) lo k->Q (some k) b:=λ k b l=>q k b ⟨l.1.trans d.1,l.2.1.trans d.2.1,l.2.2.trans d.2.2⟩;by_cases r:c>0
 ·rw[if_pos r,Ab]
  obtain⟨B,C⟩:=f.turned;refine ck (qe ?_);exact nY (st:=setArr st' (mirror (cy st') (lo+k-(c+1)) (lo+k) ((lo+k-(lo+k-(c+1))) / 2))) W i (d.1.trans j) o g (by omega) v B C p
 ·rw[if_neg r]
  exact nY W i (d.1.trans j) o g (by omega) v f.rn f.fal p
def rG(W:Wk lb)(f:vY M A E s lb D kd){st:eR}(h:kindOf st=kd)(b:∀ x∈(cy st).toList,D x){a:Nat}(G:lo+a<=(cy st).size)(X:1<=a){Q:Option Nat->eR->Prop}
  (q:∀ k st',Sa st st'->1<=k->k<=a->Joined lb (cy st) (cy st') lo k->Q (some k) st'):wpS M A E s (countRun' lo a) Q st:=by
 rw[nB];have J:=Rn.start (arr0:=cy st) (lo:=lo) (n:=1) (by omega)
 have Y:jC lb ((cy st).extract lo (lo+1)).toList:=by
  have:=J.len;generalize((cy st).extract lo (lo+1)).toList=l at *;exact rY (Fz this)
 refine ck (tZ W f h b G (by omega) X J Y λ k m H L r d c=>?_);dsimp only;have Z:=r.len;by_cases e:k=a
 ·rw[if_pos (by simpa using e)]
  exact df (q k st ⟨rfl,rfl,rfl⟩ H L (r.joined d))
 ·rw[if_neg (by simpa using e)]
  obtain⟨I,U,lt⟩ : ∃(h1:lo+k<(cy st).size)(h2:m.length-1<m.length),lb (cy st)[lo+k] m[m.length-1]=true:=by
   rcases c with c | c
   ·exact absurd c e
   ·exact c
  by_cases g:k>1
  ·rw[if_pos g]
   have N:=r.at (j:=0) (by omega);have O:=r.at U;rw[CV]at N;rw[show lo+(m.length-1)=lo+k-1 by omega]at O;refine ck (bK f h N O (r.dom b _ (ie _)) (r.dom b _ (ie _)) ?_)
   cases e2:lb (m[0]'(by omega)) m[m.length-1]
   case true =>
    simp only[if_true];exact df (q k st ⟨rfl,rfl,rfl⟩ H L (r.joined d))
   case false =>
    simp only[eP,if_false];rw[Ab];refine ck (qe ?_);have t:=Rn.turn (u:=[]) (v:=m) (t:=[]) (by simpa using r) (i:=lo) (j:=lo+k) (by simp) (by rw[Z];simp);simp only[kb,iU]at t;refine nZ (st:=setArr st (mirror (cy st) lo (lo+k) ((lo+k-lo) / 2))) W f h b G H (by omega) t (show List.Pairwise _ _ from AV.mpr d) I (λ y C=>?_) λ p st' B=>q p st' B;obtain⟨i,S,rfl⟩:=eV.mp (yr.mp C)
    have T:le lb (m[0]'(by omega)) m[i]:=by
     by_cases z:0=i
     ·subst z;exact W.refl _
     ·exact qh.mp d 0 i (by omega) S (by omega)
    exact W.trans (W.of_lt lt) (W.trans e2 T)
  ·rw[if_neg g]
   have o:k=1:=by omega
   subst o
   exact nZ W f h b G (by omega) (by omega) r (rY (by omega)) I (λ y C=>by
    obtain⟨i,S,rfl⟩:=eV.mp C;have e3:i=m.length-1:=by omega
    simp only[e3];exact W.of_lt lt) λ p st' B=>q p st' B
end
abbrev Pn:=Nat×Nat×Nat
def Tiles:List Pn->Nat->Nat->Prop
 | [],a,b=>a=b
 | x::r,a,b=>x.1=a/\0<x.2.1/\Tiles r (a+x.2.1) b
theorem Tiles.le:∀{l:List Pn}{a b:Nat},Tiles l a b->a<=b
 | [],a,b,h=>by rw[show a=b from h];exact be _
 | x::r,a,b,h=>by have:=Tiles.le h.2.2;omega
theorem Tiles.app:∀{l r:List Pn}{a b:Nat},Tiles (l++r) a b↔∃ c,Tiles l a c/\Tiles r c b
 | [],r,a,b=>⟨λ h=>⟨a,rfl,h⟩,λ⟨c,h1,d⟩=>by rw[show a=c from h1];exact d⟩
 | x::l,r,a,b=>by
  constructor
  ·rintro⟨h1,d,f⟩
   obtain⟨c,g,i⟩:=Tiles.app.mp f;exact⟨c,⟨h1,d,g⟩,i⟩
  ·rintro⟨c,⟨h1,d,f⟩,g⟩
   exact⟨h1,d,Tiles.app.mpr ⟨c,f,g⟩⟩
def Tiles.join{l r:List Pn}{a b s n j d p q:Nat}(h:Tiles (l++(s,n,p)::(j,d,q)::r) a b):j=s+n/\0<n/\0<d/\s+n+d<=b/\Tiles l a s/\Tiles r (s+n+d) b/\Tiles (l++(s,n+d,p)::r) a b:=by
 obtain⟨c,h1,g,i,m,o,f⟩:=Tiles.app.mp h;have g:s=c:=g;have m:j=c+n:=m;have i:0<n:=i;have o:0<d:=o;have f:Tiles r (c+n+d) b:=f;subst g;refine⟨m,i,o,f.le,h1,f,Tiles.app.mpr ⟨s,h1,rfl,by show 0<n+d;omega,?_⟩⟩;show Tiles r (s+(n+d)) b;rw[<-xp];exact f
def kDP{P:Array Pn}{l r:List Pn}{x y z:Pn}(h:P.toList=l++x::y::r):((P.setIfInBounds l.length z).eraseIdxIfInBounds (l.length+1)).toList=l++z::r:=by
 have sz:P.size=l.length+(r.length+2):=by
  have:=congrArg jd h;simpa using this
 unfold Array.eraseIdxIfInBounds;rw[dif_pos (by rw[Bs];omega),Array.toList_eraseIdx,BU,h];rw[List.set_append_right _ _ (be _),CW,AE (by omega),show l.length+1-l.length=1 by omega]
 rfl
section
variable {lb:bh->bh->Bool} {arr arr':Array bh} {lo n:Nat}
def Joined.low(h:Joined lb arr arr' lo n)(b:lo+n<=arr.size){a k:Nat}(c:a+k<=lo):(arr'.extract a (a+k)).toList=(arr.extract a (a+k)).toList:=by
 obtain⟨m,e,_,d⟩:=h;have lp:(arr.toList.take lo).length=lo:=by simp;omega
 rw[xG,xG,e,Ap (by omega),wu (by rw[iP];omega),Et,AN,kq (by omega)]
def Joined.high(h:Joined lb arr arr' lo n)(d:lo+n<=arr.size){a k:Nat}(c:lo+n<=a):(arr'.extract a (a+k)).toList=(arr.extract a (a+k)).toList:=by
 obtain⟨m,e,_,b⟩:=h
 have l:m.length=n:=by
  rw[b.length_eq,xG,de,iP,iB];omega
 have lp:(arr.toList.take lo).length=lo:=by simp;omega
 rw[xG,xG,e,Aa,lp,oq (by omega),kb,Aa,oq (by omega),kb,AL]
 congr 2
 omega
def Joined.here(h:Joined lb arr arr' lo n)(c:lo+n<=arr.size):jC lb (arr'.extract lo (lo+n)).toList:=by
 obtain⟨m,e,a,b⟩:=h
 have l:m.length=n:=by
  rw[b.length_eq,xG,de,iP,iB];omega
 have lp:(arr.toList.take lo).length=lo:=by simp;omega
 rw[xG,e,Aa,lp,oq (by omega),kb,CW,Eu,wu (by omega),ky (by omega)];exact a
def Joined.perm(h:Joined lb arr arr' lo n)(a:lo+n<=arr.size):arr'.toList.Perm arr.toList:=by
 obtain⟨m,e,c,b⟩:=h;rw[e];exact(xw _ (b.append_right _)).trans (List.Perm.of_eq (vR a).symm)
end
section
variable {M:yt} {A:fq} {E:ar->ay->Prop} {s:ay} {lb:bh->bh->Bool} {D:bh->Prop} {kd:oy}
structure SI(lb:bh->bh->Bool)(kd:oy)(a0:Array bh)(st:eR)(lo:Nat):Prop where
 kind:kindOf st=kd
 failed:uz st=none
 perm:(cy st).toList.Perm a0.toList
 tiles:Tiles (cx st).toList 0 lo
 top:lo<=a0.size
 runs:∀ x∈(cx st).toList,jC lb ((cy st).extract x.1 (x.1+x.2.1)).toList
theorem SI.size{a:Array bh}{st:eR}{lo:Nat}(h:SI lb kd a st lo):(cy st).size=a.size:=by simpa using h.perm.length_eq
theorem Tiles.in:∀{l:List Pn}{a b:Nat},Tiles l a b->∀ x∈l,a<=x.1/\x.1+x.2.1<=b
 | y::l,a,b,h,x,hx=>by
  rcases eK.mp hx with rfl | z
  ·have:=h.2.2.le
   have:=h.1;omega
  ·have:=Tiles.in h.2.2 x z
   omega
def aU(W:Wk lb)(N:vY M A E s lb D kd){l:Array bh}(dd:∀ x∈l.toList,D x){st:eR}{lo:Nat}(h:SI lb kd l st lo){i:Nat}(hi:i+1<(cx st).size){Q:Bool->eR->Prop}
  (q:∀ st',SI lb kd l st' lo->(cx st').size+1=(cx st).size->(∀ a k,lo<=a->((cy st').extract a (a+k)).toList=((cy st).extract a (a+k)).toList)->Q true st'):wpS M A E s (mergeAt' i) Q st:=by
 have n:(cx st).toList=(cx st).toList.take i++(cx st)[i]::(cx st)[i+1]::(cx st).toList.drop (i+2):=by
  conv=>lhs;rw[<-gk i (cx st).toList]
  rw[drop_one (show i<(cx st).size by omega),drop_one hi]
  rfl
 have T:((cx st).toList.take i).length=i:=by simp;omega
 have X:=getElem?_pos (cx st) i (by omega);have I:=getElem?_pos (cx st) (i+1) hi;have J:=h.runs _ (by simp:(cx st)[i]∈(cx st).toList);have L:=h.runs _ (by simp:(cx st)[i+1]∈(cx st).toList);have r:=h.tiles;have m:=h.runs;rw[n]at r m;generalize B:(cx st)[i]=x at *;generalize hy:(cx st)[i+1]=y at *;obtain⟨f,o,v⟩:=x;obtain⟨sb,p,pb⟩:=y;obtain⟨U,d,j,le,S,G,tj⟩:=r.join;subst U;have top:=h.top;have sz:=h.size;refine tY W N h.kind h.failed (λ x B=>dd x (h.perm.mem_iff.mp B)) X I d j (by omega) J L λ st' H Y Z c=>?_;have b:f+(o+p)<=(cy st).size:=by omega
 have g:(cx st').toList=(cx st).toList.take i++(f,o+p,v)::(cx st).toList.drop (i+2):=by
  have:=kDP (z:=(f,o+p,v)) n;rw[T]at this;rw[Z,this]
 refine q st' ⟨H,Y,(c.perm b).trans h.perm,by rw[g];exact tj,top,λ z u=>?_⟩ ?_ (λ a k a1=>c.high b (by omega))
 ·rw[g]at u
  rcases cf.mp u with w | w
  ·have:=S.in z w
   rw[c.low b (by omega)];exact m z (dc _ w)
  ·rcases eK.mp w with rfl | w
   ·exact c.here b
   ·have:=G.in z w
    rw[c.high b (by omega)];exact m z (cm _ (dh _ (dh _ w)))
 ·have O:=congrArg jd g
  have C:=congrArg jd n;simp only[iB,bu,iQ]at O C;omega
end
def Tiles.snoc{l:List Pn}{a b:Nat}{x:Pn}(h:Tiles l a b)(e:x.1=b)(n:0<x.2.1):Tiles (l++[x]) a (b+x.2.1) :=
 Tiles.app.mpr ⟨b,h,e,n,rfl⟩
theorem Tiles.repl:∀{l:List Pn}{a b:Nat}(k:Nat)(f:Pn->Pn),(∀ x,(f x).1=x.1/\(f x).2.1=x.2.1)->Tiles l a b->Tiles (l.modify k f) a b
 | [],a,b,k,f,hf,h=>by simpa using h
 | x::r,a,b,0,f,hf,h=>by
  obtain⟨h1,d,c⟩:=h;have:=hf x;rw[List.modify_zero_cons];exact⟨this.1.trans h1,by rw[this.2];exact d,by rw[this.2];exact c⟩
 | x::r,a,b,k+1,f,hf,h=>by
  obtain⟨h1,d,c⟩:=h;rw[List.modify_succ_cons];exact⟨h1,d,Tiles.repl k f hf c⟩
def kPW{l:List Pn}{k:Nat}{f:Pn->Pn}{x:Pn}(h:x∈l.modify k f):∃ y∈l,x=y\/x=f y:=by
 obtain⟨i,b,rfl⟩:=eV.mp h;rw[List.getElem_modify];have a:i<l.length:=by simpa using b
 split
 ·exact⟨l[i],ie _,.inr rfl⟩
 ·exact⟨l[i],ie _,.inl rfl⟩
def Tiles.one:∀{l:List Pn}{a b:Nat},Tiles l a b->a<b->l.length<=1->∃ p,l=[(a,b-a,p)]
 | [],a,b,h,c,_=>by have:a=b:=h;omega
 | [(s,n,p)],a,b,h,c,_=>by
  obtain⟨h1,f,d⟩:=h;have h1:s=a:=h1;have d:a+n=b:=d;refine⟨p,?_⟩;rw[h1,show n=b-a by omega]
 | _::_::_,a,b,h,c,z=>by simp at z
section
variable {M:yt} {A:fq} {E:ar->ay->Prop} {s:ay} {lb:bh->bh->Bool} {D:bh->Prop} {kd:oy}
def SI.len{c:Array bh}{st:eR}{lo:Nat}(h:SI lb kd c st lo):(cx st).size<=lo:=by
 have:∀(l:List Pn)(a b:Nat),Tiles l a b->a+l.length<=b:=by
  intro l
  induction l with
  | nil=>intro a b h;rw[show a=b from h];simp
  | cons x r ih =>
   intro a b h;have:=ih _ _ h.2.2;have:=h.2.1;rw[iQ];omega
 have:=this _ _ _ h.tiles;simpa using this
theorem SI.push{b:Array bh}{st:eR}{lo n:Nat}(h:SI lb kd b st lo)(f:0<n)(d:lo+n<=b.size)(c:jC lb ((cy st).extract lo (lo+n)).toList) :
  SI lb kd b (setPending st ((cx st).push (lo,n,0))) (lo+n):=by
 refine⟨h.kind,h.failed,h.perm,?_,d,?_⟩
 ·show Tiles ((cx st).push (lo,n,0)).toList 0 (lo+n)
  rw[vd];exact h.tiles.snoc rfl f
 ·intro x a
  have a:x∈((cx st).push (lo,n,0)).toList:=a;rw[vd]at a;rcases cf.mp a with z | z
  ·exact h.runs x z
  ·have:x=(lo,n,0):=by simpa using z
   rw[this];exact c
def SI.mod{c:Array bh}{st:eR}{lo:Nat}(h:SI lb kd c st lo)(k b:Nat):SI lb kd c (setPending st ((cx st).modify k λ(x:Pn)=>(x.1,x.2.1,b))) lo:=by
 refine⟨h.kind,h.failed,h.perm,?_,h.top,?_⟩
 ·show Tiles ((cx st).modify k _).toList 0 lo
  rw[DG];exact Tiles.repl k _ (λ x=>⟨rfl,rfl⟩) h.tiles
 ·intro x a
  have a:x∈((cx st).modify k λ(x:Pn)=>(x.1,x.2.1,b)).toList:=a;rw[DG]at a;obtain⟨y,d,e⟩:=kPW a;have r:=h.runs y d;rcases e with rfl | rfl
  ·exact r
  ·exact r
def SI.tail{d:Array bh}{st a:eR}{lo n:Nat}(h:SI lb kd d st lo)(b:Sa st a)(f:lo+n<=d.size)(j:Joined lb (cy st) (cy a) lo n):SI lb kd d a lo:=by
 have sz:=h.size;refine⟨b.1.trans h.kind,b.2.2.trans h.failed,(j.perm (by omega)).trans h.perm,by rw[b.2.1];exact h.tiles,h.top,λ x c=>?_⟩;rw[b.2.1]at c;have:=h.tiles.in x c;rw[j.low (by omega) (by omega)];exact h.runs x c
def tV(W:Wk lb)(S:vY M A E s lb D kd){st:eR}(hk:kindOf st=kd)(hf:uz st=none)(hp:cx st = #[])(dd:∀ x∈(cy st).toList,D x){Q:Unit->eR->Prop}
  (h:∀ st',(cy st').toList.Perm (cy st).toList->uz st'=none->jC lb (cy st').toList->Q () st'):wpS M A E s sortRuns' Q st:=by
 rw[sortRuns'_eq];refine ck (zr ?_);dsimp only;generalize a4:(cy st).size=size;generalize a6:minRun' size size 0=mr
 refine ck (uy (jx
  (I:=λ x c st'=>∃ lo,c=(none,lo)/\SI lb kd (cy st) st' lo/\(x<=lo\/lo=size))
  (Q:=λ c st'=>c=(none,size)/\SI lb kd (cy st) st' size) ?step ?fin ⟨0,rfl,⟨hk,hf,AK _,by rw[hp];rfl,iG _,by rw[hp];simp⟩,.inl (be _)⟩) ?post)
 case fin =>
  rintro c st' ⟨lo,rfl,d,v⟩
  have:lo=size:=by
   rcases v with v | v
   ·have:=d.top;omega
   ·exact v
  subst this;exact⟨rfl,d⟩
 case step =>
  rintro x c st' _ v ⟨lo,rfl,d,a5⟩;dsimp only;have top:=d.top;have a3:=d.size;by_cases J:lo >= size
  ·rw[if_pos J]
   have:lo=size:=by omega
   subst this;exact df ⟨rfl,d⟩
  rw[if_neg J];have X:∀{o:eR},SI lb kd (cy st) o lo->∀ x∈(cy o).toList,D x:=λ h x v=>dd x (h.perm.mem_iff.mp v);refine ck (rG W S d.kind (X d) (by omega) (by omega) λ m o G m1 m2 j2=>?_);dsimp only;have j:=d.tail G (by omega) j2;have u:=j2.here (by omega);have U:=j.size;have bin:∀ n,n=min (size-lo) mr->m<mr->m<=n/\0<n/\lo+n<=size:=λ n e h=>by omega
  by_cases q:m<mr
  ·rw[if_pos q]
   refine ck (wL ?_);generalize hn:min (size-lo) mr=n;obtain⟨mn,N,a1⟩:=bin n hn.symm q;refine ck (kCS W S j.kind (X j) mn (by omega) u λ a0 Z j3=>?_);simp only[ze,eP,if_false];have T:=j.tail Z (by omega) j3;have L:=j3.here (by omega);clear u j j2 G j3 Z U m1 m2 mn q hn bin;clear m o;refine ck (zr ?_)
   cases hb:(cx a0).back? with
   | none =>
    dsimp only;exact ck (qe (df ⟨lo+n,rfl,T.push N (by omega) L,by omega⟩))
   | some z =>
    obtain⟨O,C,z1⟩:=z;dsimp only;generalize power' size (2*O+C) (2*O+C+C+n) size=Y
    refine ck (uy (jx (I:=λ _ c st'=>c=(none,())/\SI lb kd (cy st) st' lo/\jC lb ((cy st').extract lo (lo+n)).toList)
     (Q:=λ c st'=>c=(none,())/\SI lb kd (cy st) st' lo/\jC lb ((cy st').extract lo (lo+n)).toList) ?_ (λ _ _ hh=>hh) ⟨rfl,T,L⟩) ?_)
    ·rintro y c a _ hy ⟨rfl,g,f⟩
     refine ck (zr ?_);by_cases h1:(cx a).size>1
     ·rw[if_pos h1,getElem?_pos (cx a) ((cx a).size-2) (by omega)]
      generalize(cx a)[(cx a).size-2]'(by omega)=zz;obtain⟨y1,y2,y3⟩:=zz;dsimp only;by_cases H:y3<=Y
      ·rw[if_pos H]
       exact df ⟨rfl,g,f⟩
      ·rw[if_neg H]
       refine ck (aU W S dd g (by omega) λ a2 l h5 e5=>?_);simp only[ze,eP,if_false];exact df ⟨rfl,l,by rw[e5 _ _ (be _)];exact f⟩
     ·rw[if_neg h1]
      exact df ⟨rfl,g,f⟩
    ·rintro c a ⟨rfl,g,f⟩
     dsimp only;refine ck (qe ?_);have l:=g.mod ((cx a).size-1) Y;exact ck (qe (df ⟨lo+n,rfl,l.push N (by omega) f,by omega⟩))
  ·rw[if_neg q]
   have a1:lo+m<=size:=by omega
   have N:0<m:=by omega
   clear bin q m2 m1 j2 U G;refine ck (zr ?_)
   cases hb:(cx o).back? with
   | none =>
    dsimp only;exact ck (qe (df ⟨lo+m,rfl,j.push N (by omega) u,by omega⟩))
   | some z =>
    obtain⟨O,C,z1⟩:=z;dsimp only;generalize power' size (2*O+C) (2*O+C+C+m) size=Y
    refine ck (uy (jx (I:=λ _ c st'=>c=(none,())/\SI lb kd (cy st) st' lo/\jC lb ((cy st').extract lo (lo+m)).toList)
     (Q:=λ c st'=>c=(none,())/\SI lb kd (cy st) st' lo/\jC lb ((cy st').extract lo (lo+m)).toList) ?_ (λ _ _ hh=>hh) ⟨rfl,j,u⟩) ?_)
    ·rintro y c a _ hy ⟨rfl,g,f⟩
     refine ck (zr ?_);by_cases h1:(cx a).size>1
     ·rw[if_pos h1,getElem?_pos (cx a) ((cx a).size-2) (by omega)]
      generalize(cx a)[(cx a).size-2]'(by omega)=zz;obtain⟨y1,y2,y3⟩:=zz;dsimp only;by_cases H:y3<=Y
      ·rw[if_pos H]
       exact df ⟨rfl,g,f⟩
      ·rw[if_neg H]
       refine ck (aU W S dd g (by omega) λ a2 l h5 e5=>?_);simp only[ze,eP,if_false];exact df ⟨rfl,l,by rw[e5 _ _ (be _)];exact f⟩
     ·rw[if_neg h1]
      exact df ⟨rfl,g,f⟩
    ·rintro c a ⟨rfl,g,f⟩
     dsimp only;refine ck (qe ?_);have l:=g.mod ((cx a).size-1) Y;exact ck (qe (df ⟨lo+m,rfl,l.push N (by omega) f,by omega⟩))
 case post =>
  rintro c st' ⟨rfl,d⟩;dsimp only
  have B:∀ st',SI lb kd (cy st) st' size->(cx st').size<=1->Q () st':=λ st' d hl=>by
   refine h st' d.perm d.failed ?_;by_cases z:0<size
   ·obtain⟨p,e⟩:=d.tiles.one z (by simpa using hl)
    have r:=d.runs (0,size-0,p) (by rw[e];simp);have r:jC lb ((cy st').extract 0 (0+(size-0))).toList:=r;have e1:=d.size;rw[show 0+(size-0)=(cy st').size by omega,Array.extract_size]at r;exact r
   ·have:(cy st').toList=[]:=qb.mp (by rw[iB];have:=d.size;omega)
    rw[this];exact Bl
  refine ck (uy (jx (I:=λ x c st'=>c=(none,())/\SI lb kd (cy st) st' size/\(cx st').size+x<=max (size+1) (1+x))
   (Q:=λ c st'=>c=(none,())/\SI lb kd (cy st) st' size/\(cx st').size<=1) ?_ ?_ ⟨rfl,d,by have:=d.len;omega⟩) ?_)
  ·rintro x c st' _ v ⟨rfl,d,hb⟩
   refine ck (zr ?_);by_cases h1:(cx st').size<=1
   ·rw[if_pos h1]
    exact df ⟨rfl,d,h1⟩
   rw[if_neg h1];have hg:∀ b:Bool,(if b=true then(cx st').size-2-1 else(cx st').size-2)+1<(cx st').size:=λ b=>by split<;>omega
   replace hg:=hg (Option.any (λ x=>decide (x<((cx st')[(cx st').size-2+1]?.elim 0 λ x=>x.snd.fst))) (if(cx st').size-2>0 then Gc (λ x=>x.snd.fst) (cx st')[(cx st').size-2-1]? else none))
   generalize(if(if(cx st').size-2>0 then Gc (λ x=>x.snd.fst) (cx st')[(cx st').size-2-1]? else none).any _=true then(cx st').size-2-1 else(cx st').size-2)=i at hg ⊢;refine ck (aU W S dd d hg λ o j H _=>?_);simp only[ze,eP,if_false];exact df ⟨rfl,j,by omega⟩
  ·rintro c st' ⟨rfl,d,hb⟩
   exact⟨rfl,d,by omega⟩
  ·rintro c st' ⟨rfl,d,hb⟩
   exact df (B _ d hb)
end
open PySem PySem.W PyProof.Rows
def lexLt:List Int->List Int->Bool
 | [],[]=>false
 | [],_::_=>true
 | _::_,[]=>false
 | a::x,b::y=>if a=b then lexLt x y else decide (a<b)
theorem lex_irr:∀ x,lexLt x x=false
 | []=>rfl
 | a::x=>by rw[lexLt,if_pos rfl];exact lex_irr x
theorem lex_tr:∀ x y z,lexLt x y=true->lexLt y z=true->lexLt x z=true
 | [],[],_,h,_=>nomatch h
 | [],_::_,[],_,h=>nomatch h
 | [],_::_,_::_,_,_=>rfl
 | _::_,[],_,h,_=>nomatch h
 | _::_,_::_,[],_,h=>nomatch h
 | a::x,b::y,c::z,h,k=>by
  rw[lexLt]at *;by_cases e:a=b
  ·subst e
   rw[if_pos rfl]at h;by_cases d:a=c
   ·subst d
    rw[if_pos rfl]at k ⊢;exact lex_tr x y z h k
   ·rw[if_neg d]at k ⊢
    exact k
  ·rw[if_neg e]at h
   by_cases d:b=c
   ·subst d
    rw[if_neg e];exact h
   ·rw[if_neg d]at k
    have h:=of_decide_eq_true h;have k:=of_decide_eq_true k;rw[if_neg (by omega)];exact decide_eq_true (by omega)
theorem lex_neg:∀ x y z,lexLt x z=true->lexLt x y=true\/lexLt y z=true
 | [],[],z,h=>.inr h
 | [],_::_,z,h=>.inl rfl
 | _::_,_,[],h=>nomatch h
 | _::_,[],_::_,h=>.inr rfl
 | a::x,b::y,c::z,h=>by
  rw[lexLt]at *;by_cases e:a=c
  ·subst e
   rw[if_pos rfl]at h;by_cases d:a=b
   ·subst d
    rw[if_pos rfl,lexLt,if_pos rfl];exact lex_neg x y z h
   ·rw[if_neg d,lexLt,if_neg (λ q=>d q.symm)]
    by_cases l:a<b
    ·exact .inl (decide_eq_true l)
    ·exact .inr (decide_eq_true (by omega))
  ·rw[if_neg e]at h
   have h:=of_decide_eq_true h;by_cases d:a=b
   ·subst d
    rw[lexLt,if_neg e];exact .inr (decide_eq_true h)
   ·rw[if_neg d]
    by_cases l:a<b
    ·exact .inl (decide_eq_true l)
    ·rw[lexLt,if_neg (by omega)]
     exact .inr (decide_eq_true (by omega))
theorem lex_tot:∀ x y,lexLt x y=false->lexLt y x=false->x=y
 | [],[],_,_=>rfl
 | [],_::_,h,_=>nomatch h
 | _::_,[],_,h=>nomatch h
 | a::x,b::y,h,k=>by
  rw[lexLt]at *;by_cases e:a=b
  ·subst e
   rw[if_pos rfl]at h k;rw[lex_tot x y h k]
  ·rw[if_neg e]at h
   rw[if_neg (λ q=>e q.symm)]at k;have h:=of_decide_eq_false h;have k:=of_decide_eq_false k;omega
def keyOf(h:iO):ar->List Int
 | .ref a=>match h.get? a with
  | some o=>match o.data with
   | .seq xs _=>xs.toList.map numOf
   | _=>[]
  | none=>[]
 | _=>[]
def lbT(h:iO)(x y:bh):Bool:=lexLt (keyOf h x.1) (keyOf h y.1)
def kTA(h:iO):Wk (lbT h):=⟨λ a=>lex_irr _,λ a b c=>lex_neg _ _ _,λ a b c=>lex_tr _ _ _⟩
def lbI(x y:bh):Bool:=decide (numOf x.1<numOf y.1)
def kTB:Wk lbI:=⟨λ a=>by unfold lbI;simp,λ a b c h=>by
  unfold lbI at *;have:=of_decide_eq_true h;by_cases l:numOf a.1<numOf b.1
  ·exact .inl (decide_eq_true l)
  ·exact .inr (decide_eq_true (by omega)),λ a b c h k=>by
  unfold lbI at *;have:=of_decide_eq_true h;have:=of_decide_eq_true k;exact decide_eq_true (by omega)⟩
def TupI(h:iO)(v:ar):Prop:=∃ a o b n,v=.ref a/\h.get? a=some o/\o.cls=.type "tuple"/\o.data=.seq b n/\(∀ u∈b.toList,∃ k t,u=.int k t)/\0<b.size
def TupI.kept{h h':iO}{v:ar}(x:TupI h v)(k:∀ a o,o.cls=.type "tuple"->h.get? a=some o->h'.get? a=some o):TupI h' v/\keyOf h' v=keyOf h v:=by
 obtain⟨a,o,f,n,rfl,c,b,d,i,g⟩:=x;refine⟨⟨a,o,f,n,rfl,k _ _ b c,b,d,i,g⟩,?_⟩;unfold keyOf;simp only[c,k _ _ b c]
def TupI.key{h:iO}{a:av}{o:Obj}{xs:Array ar}{n:Nat}(c:h.get? a=some o)(b:o.data=.seq xs n):keyOf h (.ref a)=xs.toList.map numOf:=by
 unfold keyOf;simp only[c,b]
section
variable {prog:fb} {w:iI} {A:fq} {E:ar->ay->Prop} {s:ay}
theorem kBQ{Q:Bool->ay->Prop}:∀(xs ys:List ar)(i:Nat),(∀ u∈xs,∃ k t,u=uk k t)->(∀ u∈ys,∃ k t,u=uk k t)->Q (lexLt (xs.map numOf) (ys.map numOf)) s->KatLex prog w A true (decide (xs.length<ys.length)) Q (xs.zip ys) i s
 | [],[],i,_,_,h=>by exact h
 | [],_::_,i,_,_,h=>by exact h
 | _::_,[],i,_,_,h=>by exact h
 | x::xs,y::ys,i,hx,hy,h=>by
  obtain⟨a,t,rfl⟩:=hx x (eW ..);obtain⟨b,u,rfl⟩:=hy y (eW ..);rw[BW,show decide ((uk a t::xs).length<(uk b u::ys).length)=decide (xs.length<ys.length) by simp];refine kat_cons (EA ?_);have h:Q (if a=b then lexLt (xs.map numOf) (ys.map numOf) else decide (a<b)) s:=h;by_cases e:a=b
  ·rw[if_pos e]at h
   rw[beq_iff_eq.mpr e];exact kat_yes (kBQ xs ys (i+1) (λ u c=>hx u (dh _ c)) (λ u c=>hy u (dh _ c)) h)
  ·rw[if_neg e]at h
   rw[beq_eq_false_iff_ne.mpr e];refine kat_no ?_;rw[Bool.true_and]
   cases i == 0 with
   | true=>exact oneLt_int h
   | false=>exact kat_one _ _ (GW h)
def kJF:vY (model prog w) A E s (lbT s.heap) (λ x=>TupI s.heap x.1) (tuples' true):=by
 intro x y B p st Q u q;obtain⟨a,H,d,n,l,g,D,f,o,I⟩:=B;obtain⟨b,C,c,m,i,j,G,h,r,J⟩:=p;rw[lt'_eq];refine ck (zr ?_);rw[u]
 have q:Q (some (lexLt (d.toList.map numOf) (c.toList.map numOf))) st:=by
  have:lbT s.heap x y=lexLt (d.toList.map numOf) (c.toList.map numOf):=by
   unfold lbT;rw[l,i,TupI.key g f,TupI.key j h]
  rw[<-this];exact q
 rw[l,i];refine ck (GT (zf (kat_lt g f j h ?_)))
 have:=kBQ (prog:=prog) (w:=w) (A:=A) (s:=s) (Q:=λ b v=>v=s/\wpS (model prog w) A E s (match(Except.ok b:Except ar Bool) with
  | .ok b=>pure (some b)
  | .error e=>do
   modify (λ s=>CU (kindOf s) (cy s) (cx s) (gallopOf s) (some e))
   pure none) Q st) d.toList c.toList 0 o r ⟨rfl,df q⟩
 simpa using this
def kJG:vY (model prog w) A E s lbI (λ x=>∃ k t,x.1=.int k t) oneType':=by
 intro x y h g st Q f q;obtain⟨a,t,d⟩:=h;obtain⟨b,u,c⟩:=g;rw[lt'_eq];refine ck (zr ?_);rw[f,d,c];unfold lbI at q;rw[d,c]at q;exact ck (GT (zf (kat_lt_int ⟨rfl,df q⟩)))
end
end Srt
namespace Fc
open Cyc Tri Rnd
section
variable {α:Type} {le:α->α->Bool}
theorem uP(c:∀ a b,le a b=true->le b a=true->a=b):∀{l m:List α},l.Perm m->l.Pairwise (λ a b=>le a b=true)->m.Pairwise (λ a b=>le a b=true)->l=m
 | [],m,p,_,_=>(List.nil_perm.mp p).symm
 | a::l,m,p,hl,hm=>by
  match m,p,hm with
  | [],p,_=>exact absurd p.length_eq (by simp)
  | b::m,p,hm =>
   have d:=BV.mp hl;have f:=BV.mp hm
   have e:a=b:=by
    rcases eK.mp (p.mem_iff.mp (eW ..)) with z | z
    ·exact z
    ·rcases eK.mp (p.mem_iff.mpr (eW ..)) with y | y
     ·exact y.symm
     ·exact c a b (d.1 b y) (f.1 a z)
   subst e;rw[uP c (List.Perm.cons_inv p) d.2 f.2]
def kFP(g:∀ a b c,le a b=true->le b c=true->le a c=true)(f:∀ a b,(le a b || le b a)=true)(d:∀ a b,le a b=true->le b a=true->a=b){l m:List α}(p:l.Perm m)(h:l.Pairwise (λ a b=>le a b=true)):l=m.mergeSort le :=
 uP d (p.trans (BC m le).symm) h (List.pairwise_mergeSort g f m)
end
def leP(a b:Nat×Nat):Bool:=decide (a.1<b.1\/a.1=b.1/\a.2<=b.2)
def bZ{a b:Nat×Nat}:leP a b=true↔a.1<b.1\/a.1=b.1/\a.2<=b.2:=decide_eq_true_iff
def sortP(T:List (Nat×Nat)):List (Nat×Nat):=T.mergeSort leP
def sortP_is{l m:List (Nat×Nat)}(p:l.Perm m)(h:l.Pairwise (λ a b=>leP a b=true)):l=sortP m :=
 kFP (λ a b c h k=>by rw[bZ]at *;omega) (λ a b=>by
  rw[Cj,bZ,bZ];omega) (λ a b h k=>by
  rw[bZ]at h k;exact ux (by omega) (by omega)) p h
def sortP_perm(T:List (Nat×Nat)):(sortP T).Perm T:=BC T leP
def zl(l:List Nat):List Int:=l.map λ n:Nat=>(n:Int)
theorem zl_inj:∀{a b:List Nat},zl a=zl b->a=b
 | [],[],_=>rfl
 | [],_::_,h=>nomatch h
 | _::_,[],h=>nomatch h
 | a::l,b::m,h=>by
  unfold zl at h;rw[gh,gh]at h;injection h with h1 h2
  rw[zl_inj (a:=l) (b:=m) h2,show a=b by omega]
def leL(a b:List Nat):Bool:=!Srt.lexLt (zl b) (zl a)
def leL_iff{a b:List Nat}:leL a b=true↔Srt.lexLt (zl b) (zl a)=false:=by
 unfold leL
 cases Srt.lexLt (zl b) (zl a)<;>simp
def sortL(T:List (List Nat)):List (List Nat):=T.mergeSort leL
def kSZ(a b c:List Nat)(h:leL a b=true)(k:leL b c=true):leL a c=true:=by
 rw[leL_iff]at *
 cases e:Srt.lexLt (zl c) (zl a) with
 | false=>rfl
 | true =>
  rcases Srt.lex_neg _ (zl b) _ e with z | z
  ·rw[k]at z;cases z
  ·rw[h]at z;cases z
def kPZ(a b:List Nat):(leL a b || leL b a)=true:=by
 rw[Cj,leL_iff,leL_iff]
 cases e:Srt.lexLt (zl b) (zl a) with
 | false=>exact .inl rfl
 | true =>
  right
  cases f:Srt.lexLt (zl a) (zl b) with
  | false=>rfl
  | true =>
   have:=Srt.lex_tr _ _ _ e f;rw[Srt.lex_irr]at this;cases this
def kNA(a b:List Nat)(h:leL a b=true)(k:leL b a=true):a=b:=by
 rw[leL_iff]at h k;exact zl_inj (Srt.lex_tot _ _ k h)
def sortL_is{l m:List (List Nat)}(p:l.Perm m)(h:l.Pairwise (λ a b=>leL a b=true)):l=sortL m:=kFP kSZ kPZ kNA p h
def vG(T:List (List Nat)):(sortL T).Perm T:=BC T leL
def leP_leL(a b:Nat×Nat):leL [a.1,a.2] [b.1,b.2]=leP a b:=by
 rw[iL,leL_iff,bZ];show Srt.lexLt [(b.1:Int),(b.2:Int)] [(a.1:Int),(a.2:Int)]=false↔_;unfold Srt.lexLt;by_cases e:(b.1:Int)=a.1
 ·rw[if_pos e]
  unfold Srt.lexLt;by_cases f:(b.2:Int)=a.2
  ·rw[if_pos f]
   exact⟨λ _=>by omega,λ _=>rfl⟩
  ·rw[if_neg f]
   rw[decide_eq_false_iff_not];omega
 ·rw[if_neg e]
  rw[decide_eq_false_iff_not];omega
open Classical in
noncomputable def per(W:Rows)(t:Nat×Nat):Nat:=if h:∃ k,0<k/\it (nxt W) k t=t/\∀ j,0<j->j<k->it (nxt W) j t≠t then wg h else 0
def per_is{W:Rows}{t:Nat×Nat}{k:Nat}(h0:0<k)(h1:it (nxt W) k t=t)(f:∀ j,0<j->j<k->it (nxt W) j t≠t):per W t=k:=by
 have d:∃ k,0<k/\it (nxt W) k t=t/\∀ j,0<j->j<k->it (nxt W) j t≠t:=⟨k,h0,h1,f⟩;unfold per;rw[dif_pos d];obtain⟨a,b,c⟩:=rg d;generalize wg d=m at *;rcases ya m k with l | l | l
 ·exact absurd b (f m a l)
 ·exact l
 ·exact absurd h1 (c k h0 l)
noncomputable def rnd(W:Rows)(t:Nat×Nat):List (Nat×Nat):=(cw (per W t)).map λ i=>it (nxt W) i t
noncomputable def fstep(W:Rows)(st:List (List Nat)×List (Nat×Nat))(t:Nat×Nat):List (List Nat)×List (Nat×Nat) :=
 if t∈st.2 then st else(st.1++[(rnd W t).map (·.1)],st.2++rnd W t)
noncomputable def fgo(W:Rows)(S:List (Nat×Nat)):List (List Nat)×List (Nat×Nat):=S.foldl (fstep W) ([],[])
def fgo_snoc(W:Rows)(S:List (Nat×Nat))(t:Nat×Nat):fgo W (S++[t])=fstep W (fgo W S) t:=by
 unfold fgo;rw[Dr]
 rfl
def stepsS(W:Rows):List (Nat×Nat):=sortP (kN W)
def tiesS(W:Rows):List (Nat×Nat):=(stepsS W).filter λ t=>decide (t.1<t.2)
noncomputable def uZ(W:Rows):List (List Nat):=(fgo W (stepsS W)).1
noncomputable def facesS(W:Rows):List (List Nat):=sortL (uZ W)
def mem_stepsS{W:Rows}{t:Nat×Nat}:t∈stepsS W↔E W t.1 t.2:=by
 unfold stepsS;rw[(sortP_perm _).mem_iff];exact mem_steps
section
variable {W:Rows} (S:Nb W)
def sQ(S:Nb W):Rnd.Perm (nxt W) (kN W):=mK S.nd S.sym
def sH(S:Nb W){t:Nat×Nat}(h:t∈kN W):0<per W t/\per W t<=(kN W).length/\it (nxt W) (per W t) t=t/\∀ j,0<j->j<per W t->it (nxt W) j t≠t:=by
 obtain⟨k,h1,c,a,b⟩:=(sQ S).comes h;have e:=per_is h1 a b;rw[e];exact⟨h1,c,a,b⟩
def kIS(S:Nb W){t:Nat×Nat}(h:t∈kN W):(rnd W t).Nodup:=(sQ S).round_nodup h (sH S h).2.2.2
def rnd_len(W:Rows)(t:Nat×Nat):(rnd W t).length=per W t:=by unfold rnd;simp
def rnd_sub(S:Nb W){t u:Nat×Nat}(h:t∈kN W)(a:u∈rnd W t):u∈kN W:=by
 unfold rnd at a;obtain⟨i,_,rfl⟩:=iR.mp a;exact(sQ S).it i h
def bW(S:Nb W){t u:Nat×Nat}(h:t∈kN W):u∈rnd W t↔∃ j,it (nxt W) j t=u:=by
 obtain⟨p0,_,back,_⟩:=sH S h;unfold rnd;rw[iR];constructor
 ·rintro⟨i,_,e⟩
  exact⟨i,e⟩
 ·rintro⟨j,e⟩
  refine⟨j % per W t,jr.mpr (Nat.mod_lt _ p0),?_⟩;rw[<-kND _ _ back];exact e
def rnd_self(S:Nb W){t:Nat×Nat}(h:t∈kN W):t∈rnd W t:=(bW S h).mpr ⟨0,rfl⟩
def kAU(S:Nb W){t u:Nat×Nat}(h:t∈kN W)(a:u∈rnd W t):nxt W u∈rnd W t:=by
 obtain⟨j,rfl⟩:=(bW S h).mp a;exact(bW S h).mpr ⟨j+1,rfl⟩
structure FI(W:Rows)(T:List (Nat×Nat))(st:List (List Nat)×List (Nat×Nat)):Prop where
 reps:∃ R:List (Nat×Nat),(∀ r∈R,r∈T)/\st.1=R.map (λ r=>(rnd W r).map (·.1))/\st.2=R.flatMap (rnd W)
 nd:st.2.Nodup
 sub:∀ t∈st.2,t∈kN W
 cl:∀ t∈st.2,nxt W t∈st.2
 cov:∀ t∈T,t∈st.2
def FI.start(W:Rows):FI W [] ([],[]):=⟨⟨[],by simp,rfl,rfl⟩,yo,by simp,by simp,by simp⟩
theorem FI.it{T:List (Nat×Nat)}{st:List (List Nat)×List (Nat×Nat)}(h:FI W T st){t:Nat×Nat}(a:t∈st.2)(j:Nat):it (nxt W) j t∈st.2:=by
 induction j with
 | zero=>exact a
 | succ j ih=>exact h.cl _ ih
def FI.step(S:Nb W){T:List (Nat×Nat)}{st:List (List Nat)×List (Nat×Nat)}(h:FI W T st){t:Nat×Nat}(f:t∈kN W):FI W (T++[t]) (fstep W st t):=by
 unfold fstep;obtain⟨R,m,l,r3⟩:=h.reps
 split
 ·rename_i c
  refine⟨⟨R,λ r i=>dc _ (m r i),l,r3⟩,h.nd,h.sub,h.cl,λ u d=>?_⟩;rcases cf.mp d with z | z
  ·exact h.cov u z
  ·rw[bz.mp z]
   exact c
 ·rename_i c
  have g:∀ a∈st.2,∀ b∈rnd W t,a≠b:=λ a n b o e=>by
   subst e;obtain⟨j,rfl⟩:=(bW S f).mp o;obtain⟨p0,_,back,_⟩:=sH S f
   have:Rnd.it (nxt W) (per W t*(j+1)-j) (Rnd.it (nxt W) j t)=t:=by
    have le:j<=per W t*(j+1):=ju (Ai j) (Nat.le_mul_of_pos_left _ p0);rw[<-bF,uf le,kND _ _ back,Nat.mul_mod_right]
    rfl
   rw[<-this]at c;exact c (h.it n _)
  refine⟨⟨R++[t],λ r i=>?_,by rw[du,l];rfl,by rw[oz,r3,xg]⟩,?_,λ u d=>?_,λ u d=>?_,λ u d=>?_⟩
  ·rcases cf.mp i with z | z
   ·exact dc _ (m r z)
   ·exact cm _ z
  ·exact cu.mpr ⟨h.nd,kIS S f,g⟩
  ·rcases cf.mp d with z | z
   ·exact h.sub u z
   ·exact rnd_sub S f z
  ·rcases cf.mp d with z | z
   ·exact dc _ (h.cl u z)
   ·exact cm _ (kAU S f z)
  ·rcases cf.mp d with z | z
   ·exact dc _ (h.cov u z)
   ·rw[bz.mp z]
    exact cm _ (rnd_self S f)
def fgo_ok(S:Nb W):∀(T:List (Nat×Nat)),(∀ t∈T,t∈kN W)->FI W T (fgo W T):=by
 intro T
 have:∀(n:Nat),n<=T.length->(∀ t∈T,t∈kN W)->FI W (T.take n) (fgo W (T.take n)):=λ n=>by
  induction n with
  | zero=>intro _ _;rw[BG];exact FI.start W
  | succ n ih =>
   intro b a;have h:=ih (by omega) a;have e:T.take (n+1)=T.take n++[T[n]]:=by rw[iq,ae (by omega)];rfl
   rw[e,fgo_snoc];exact h.step S (a _ (ie _))
 intro a;have:=this T.length (be _) a;rwa[iJ]at this
def FI.len{T:List (Nat×Nat)}{st:List (List Nat)×List (Nat×Nat)}(h:FI W T st):st.2.length<=(kN W).length:=eY h.nd h.sub
end
end Fc
namespace Srt
set_option autoImplicit false
open PySem PySem.W PyProof.Rows
def kOQ(lb:bh->bh->Bool)(l:List ar):Prop:=l.Pairwise λ u v=>le lb (u,u) (v,v)
def kSQ{lb:bh->bh->Bool}{c:List ar}{l:List bh}(p:l.Perm (c.zip c))(f:jC lb l):(l.map (·.2)).Perm c/\kOQ lb (l.map (·.2)):=by
 have same:∀ x∈l,x=(x.2,x.2):=λ x d=>by
  have:=(mem_zip_self (p.mem_iff.mp d)).1;obtain⟨a,b⟩:=x;have:a=b:=this;rw[this]
 refine⟨?_,?_⟩
 ·have:=p.map (λ x:bh=>x.2)
  rwa[show(c.zip c).map (λ x:bh=>x.2)=c from Ac (be _)]at this
 ·refine km.mpr (f.imp_of_mem λ{x y} d g h=>?_)
  rw[<-same x d,<-same y g];exact h
section
variable {prog:fb} {w:iI} {A:fq} {E:ar->ay->Prop} {s:ay}
def kLP{lb:bh->bh->Bool}{D:bh->Prop}{kd:oy}(W:Wk lb){a:av}{c:List ar}{n:Nat}{P:uq->ay->Prop}(r:s.heap.get? a=some (seqObj "list" c.toArray n))(hz:c.length<=sizeLine)
  (H:2<=c.length->∀(i:iO),(∀ b o,o.cls≠.type "list"->s.heap.get? b=some o->i.get? b=some o)->∀ Q:oy->ay->Prop,Q kd {s with heap:=i}->dr (model prog w) A (keyKind' c.toArray) Q E {s with heap:=i})
  (T:∀(i:iO),(∀ b o,o.cls≠.type "list"->s.heap.get? b=some o->i.get? b=some o)->vY (model prog w) A E {s with heap:=i} lb D kd) (dd:∀ v∈c,D (v,v))
  (h:∀ out:List ar,out.Perm c->kOQ lb out->P (.done (.ret .none)) {s with heap:=sortedHeap s.heap a c out.toArray}) :
  dr (model prog w) A (zo.«list.sort» ⟨[.ref a],[]⟩) P E s:=by
 rw[list_sort_plain];have ha:a<s.heap.objs.size:=cg r;refine ai (Ds r rfl (ai (Bt r rfl ?_ (by simpa using hz) (iG _))));obtain⟨C,p⟩ : ∃ C,(s.heap.update a (ud λ _=>#[])).get? a=some (seqObj "list" #[] C):=⟨_,Aw r (λ _=>#[])⟩;refine ai (EM p rfl (ai (Cw (ai (DN (mj ?_) (iG _))) (by simpa using hz))));generalize I:((s.heap.update a (ud λ _=>#[])).push (seqObj "tuple" c.toArray 0)).push (seqObj "list" #[] 0)=G
 have g:G.get? a=some (seqObj "list" #[] C):=by
  rw[<-I];exact au _ (au _ p)
 have L:∀ b o,o.cls≠.type "list"->s.heap.get? b=some o->G.get? b=some o:=λ b o O e=>by
  have hb:b≠a:=λ q=>by
   subst q;rw[r]at e;exact O (by cases e;rfl)
  rw[<-I];refine au _ (au _ ?_);rw[yx _ _ _ _ hb];exact e
 have heap:∀ out:List ar,sortedHeap s.heap a c out.toArray=G.update a (ud λ _=>out.toArray):=λ out=>by rw[<-I];rfl
 have eS:∀ X Y:Sem uq,X=Y->dr (model prog w) A X P E {s with heap:=G}->dr (model prog w) A Y P E {s with heap:=G}:=λ X Y e h=>e ▸ h
 have m:∀ d:eR,uz d=none->(cy d).toList.Perm (c.zip c)->jC lb (cy d).toList ->
   P (.done (.ret .none)) {s with heap:=G.update a (ud λ _=>(cy d).map (·.2))}:=λ d _ f B=>by
  have:=kSQ f B;have q:=h _ this.1 this.2;rw[heap]at q;rw[show(cy d).map (·.2)=((cy d).toList.map (·.2)).toArray by rw[<-Array.toList_map]];exact q
 have l:∀{d:eR},(cy d).toList.Perm (c.zip c)->((cy d).map (·.2)).size<=sizeLine+1:=λ{d} f=>by
  have:=f.length_eq;rw[Array.size_map];simp at this;omega
 dsimp only;by_cases j:c.toArray.size<2
 ·rw[if_pos j,if_pos j]
  refine ai (bj ?_);rw[StateT.run_pure];refine ai (bj ?_)
  have f:(cy (CU general' (c.toArray.zip c.toArray) #[] 7 none)).toList.Perm (c.zip c):=by
   show(c.toArray.zip c.toArray).toList.Perm _;simp
  refine ai (EM g rfl (ai (Bt g rfl ?_ (iG _) (l f))));dsimp only;simp only[bne_self_eq_false,eP,if_false];refine bj (m (CU general' (c.toArray.zip c.toArray) #[] 7 none) rfl f ?_)
  have:(c.zip c).length<=1:=by
   simp at j ⊢;omega
  show jC lb (c.toArray.zip c.toArray).toList;rw[show(c.toArray.zip c.toArray).toList=c.zip c by simp];exact rY this
 ·rw[if_neg j,if_neg j]
  refine ai (H (by simp at j;omega) G L _ ?_)
  refine ai (vi (tV (s:={s with heap:=G}) W (T G L) (st:=CU kd (c.toArray.zip c.toArray) #[] 7 none) rfl rfl rfl (λ x y=>?_)
   (Q:=λ _ d=>(cy d).toList.Perm (c.zip c)/\uz d=none/\jC lb (cy d).toList) λ d S U Z=>⟨?_,U,Z⟩) ?_ λ _ _ e=>e)
  ·have y:x∈(c.toArray.zip c.toArray).toList:=y
   rw[show(c.toArray.zip c.toArray).toList=c.zip c by simp]at y;obtain⟨J,N⟩:=mem_zip_self y;obtain⟨u,v⟩:=x;have J:u=v:=J;subst J;exact dd u N
  ·refine S.trans ?_
   show(c.toArray.zip c.toArray).toList.Perm _;simp
  ·rintro⟨⟨⟩,d⟩ s' ⟨rfl,f,M,B⟩
   refine ai (EM g rfl (ai (Bt g rfl ?_ (iG _) (l f))));dsimp only;rw[M];simp only[bne_self_eq_false,eP,if_false];exact bj (m d M f B)
def kEN{l:av}{o:Obj}{a:List ar}{n:Nat}{Q:List ar->ay->Prop}(j:s.heap.get? l=some o)(v:o.cls=.type "list"\/o.cls=.type "tuple")(m:o.data=.seq a.toArray n)(hz:a.length<=sizeLine)
  (h:∀ h1:iO,h1.objs.size=s.heap.objs.size+1->(∀ b u,s.heap.get? b=some u->h1.get? b=some u)->Q a {s with heap:=h1}):dr (model prog w) A (collect (.ref l)) Q E s:=by
 unfold collect;refine ai (wpAny_runValue (EW entry_proto_collect' ?_));show dr _ _ (newList [] >>= λ x=>again (.builtin "list.__iadd__" ⟨[x,.ref l],[]⟩)) _ _ s;refine ai (DN (bj ⟨Code.quiet_builtin _ (by decide +kernel),EW entry_list_iadd' ?_⟩) (iG _));generalize d:s.heap.push (seqObj "list" #[] 0)=G;have q:G.objs.size=s.heap.objs.size+1:=by rw[<-d,size_push']
 have i:∀ b u,s.heap.get? b=some u->G.get? b=some u:=λ b u e=>by rw[<-d];exact au _ e
 have g:G.get? s.heap.objs.size=some (seqObj "list" #[] 0):=by rw[<-d];exact cj _ rfl
 show dr _ _ (BF (.ref s.heap.objs.size) (.ref l) (.ref s.heap.objs.size)) _ _ {s with heap:=G}
 unfold BF
 have c:dr (model prog w) A (load s.heap.objs.size >>= λ o=>match o.data with
   | .seq xs _=>pure xs.toList
   | _=>unsupported "internal:collect") Q E {s with heap:=G.update s.heap.objs.size (ud (·++a.toArray))}:=by
  refine ai (wpAny_load (Aw g _) ?_);show dr _ _ (pure ((#[]:Array ar)++a.toArray).toList) Q E _;rw[show((#[]:Array ar)++a.toArray).toList=a by simp];refine bj (h _ (by rw[Heap.size_update,q]) λ b u e=>?_);rw[yx _ _ _ _ (eA (cg e))];exact i b u e
 have r:∃ T:String,o.cls=.type T/\(T = "list"\/T = "tuple"):=by
  rcases v with e | e
  ·exact⟨_,e,.inl rfl⟩
  ·exact⟨_,e,.inr rfl⟩
 obtain⟨T,p,f⟩:=r;refine ai (AH (T:=T) ⟨o,i l o j,p⟩ ?_)
 have y:(BJ T == BJ "list" || BJ T == BJ "tuple")=true:=by
  rcases f with rfl | rfl<;>rfl
 rw[if_pos (by rw[Bool.or_assoc,y,Bool.or_true])];refine ai (Ds (i l o j) m (ai (Ds (xs:=#[]) (n:=0) g rfl ?_)));rw[if_neg (by simp)];refine ai (Bt (xs:=#[]) (n:=0) g rfl ?_ (iG _) (by show(#[]++a.toArray).size<=sizeLine+1;rw[yf];simp;omega));exact bj c
def gW{lb:bh->bh->Bool}{D:bh->Prop}{kd:oy}(W:Wk lb){l:av}{o:Obj}{f:List ar}{n:Nat}{Q:ar->ay->Prop}(T:s.heap.get? l=some o)(H:o.cls=.type "list"\/o.cls=.type "tuple")(O:o.data=.seq f.toArray n)(hz:f.length<=sizeLine)
  (y:2<=f.length->∀(j:fq)(r:ar->ay->Prop)(d:iO),(∀ b o,o.cls≠.type "list"->s.heap.get? b=some o->d.get? b=some o)->∀ Q:oy->ay->Prop,Q kd {s with heap:=d}->dr (model prog w) j (keyKind' f.toArray) Q r {s with heap:=d})
  (J:∀(j:fq)(r:ar->ay->Prop)(d:iO),(∀ b o,o.cls≠.type "list"->s.heap.get? b=some o->d.get? b=some o)->vY (model prog w) j r {s with heap:=d} lb D kd) (U:∀ v∈f,D (v,v))
  (h:∀(a:List ar)(k:Nat)(h':iO),a.Perm f->kOQ lb a->(∀ b u,s.heap.get? b=some u->h'.get? b=some u)->h'.get? (s.heap.objs.size+1)=some (seqObj "list" a.toArray k)->Q (.ref (s.heap.objs.size+1)) {s with heap:=h'}) :
  dr (model prog w) A (call (.builtin "sorted") [.ref l]) Q E s:=by
 refine Calls.call_function_entry kind_sorted plain_sorted entry_sorted (args_sorted1 _) ?_;unfold zo.«sorted»;refine ai (m:=checkCount "sorted" 1 1 _) (bj (ai (kEN T H O hz λ h1 g X=>?_)));refine ai (DN ?_ (by simpa using hz));generalize B:h1.push (seqObj "list" f.toArray 0)=G
 have i:G.get? (s.heap.objs.size+1)=some (seqObj "list" f.toArray 0):=by
  rw[<-B,<-g];exact cj _ rfl
 have p:∀ b u,s.heap.get? b=some u->G.get? b=some u:=λ b u e=>by
  rw[<-B];exact au _ (X b u e)
 show dr _ _ _ _ _ {s with heap:=G}
 rw[g];refine ai (mj (mo slot_list_sort ⟨_,i,rfl⟩ entry_list_sort (kLP (s:={s with heap:=G}) W i hz (λ M d x Q q=>y M _ _ d (λ b o c e=>x b o c (p b o e)) Q q) (λ d x=>J _ _ d λ b o c e=>x b o c (p b o e)) U λ a L N=>⟨_,rfl,?_⟩) (args_list_sort _)))
 have I:s.heap.objs.size+1<G.objs.size:=cg i;have S:(G.update (s.heap.objs.size+1) (ud λ _=>#[])).get? (s.heap.objs.size+1)=some (seqObj "list" #[] (if(#[]:Array ar).size == f.toArray.size then 0 else 1)):=Aw i (λ _=>#[]);refine bj ⟨_,rfl,h a _ _ L N (λ b u e=>?_) (Aw (au _ (au _ S)) (λ _=>a.toArray))⟩;have C:b≠s.heap.objs.size+1:=eA (yd (cg e));unfold sortedHeap;rw[yx _ _ _ _ C];refine au _ (au _ ?_);rw[yx _ _ _ _ C];exact p b u e
def sorted_tups{l:av}{o:Obj}{i:List ar}{n:Nat}{Q:ar->ay->Prop}(ho:s.heap.get? l=some o)(M:o.cls=.type "list"\/o.cls=.type "tuple")(hd:o.data=.seq i.toArray n)(hz:i.length<=sizeLine)
  (G:∀ v∈i,TupI s.heap v)
  (h:∀(g:List ar)(k:Nat)(h':iO),g.Perm i->kOQ (lbT s.heap) g->(∀ b u,s.heap.get? b=some u->h'.get? b=some u)->h'.get? (s.heap.objs.size+1)=some (seqObj "list" g.toArray k)->Q (.ref (s.heap.objs.size+1)) {s with heap:=h'}) :
  dr (model prog w) A (call (.builtin "sorted") [.ref l]) Q E s:=by
 have r:∀{d:iO},(∀ b o,o.cls≠.type "list"->s.heap.get? b=some o->d.get? b=some o)->∀ b o,o.cls=.type "tuple"->s.heap.get? b=some o->d.get? b=some o:=λ j b o c e=>j b o (by rw[c];intro q;injection q with q;exact absurd q (by decide)) e
 refine gW (D:=λ x=>TupI s.heap x.1) (kd:=tuples' true) (kTA s.heap) ho M hd hz (λ h2 L U d j Q q=>?_) (λ L U d j=>?_) (λ v f=>G v f) h
 ·have X:∀ v∈i,TupI d v:=λ v f=>((G v f).kept (r j)).1
  have:∀ p:List ar,(∀ v∈p,TupI d v)->∃ fs,KatTups d p fs/\fs.length=p.length/\∀ v∈fs,∃ k t,v=uk k t:=λ p=>by
   induction p with
   | nil=>intro _;exact⟨[],.nil,rfl,by simp⟩
   | cons u p ih =>
    intro J;obtain⟨fs,B,H,C⟩:=ih λ v f=>J v (dh _ f);obtain⟨a,o,I,m,rfl,Z,O,e3,e4,N⟩:=J u (eW ..);refine⟨I[0]::fs,.cons Z O e3 (getElem?_pos I 0 N) B,by simp[H],λ v f=>?_⟩;rcases eK.mp f with rfl | z
    ·exact e4 _ (by simp)
    ·exact C v z
  obtain⟨fs,B,H,C⟩:=this i X;refine kat_kind (T:=.type "int") B (by omega) (λ v f=>?_) rfl q;obtain⟨k,t,rfl⟩:=C v f;exact Fg rfl
 ·intro x y hx S st Q Y q
  have a:=hx.kept (r j);have b:=S.kept (r j);refine kJF (s:={s with heap:=d}) x y a.1 b.1 st Q Y ?_
  show Q (some (lexLt (keyOf d x.1) (keyOf d y.1))) st;rw[a.2,b.2];exact q
def sorted_nums{l:av}{o:Obj}{c:List ar}{n:Nat}{Q:ar->ay->Prop}(y:s.heap.get? l=some o)(j:o.cls=.type "list"\/o.cls=.type "tuple")(g:o.data=.seq c.toArray n)(hz:c.length<=sizeLine)
  (f:∀ v∈c,∃ k t,v=uk k t)
  (h:∀(a:List ar)(k:Nat)(h':iO),a.Perm c->kOQ lbI a->(∀ b u,s.heap.get? b=some u->h'.get? b=some u)->h'.get? (s.heap.objs.size+1)=some (seqObj "list" a.toArray k)->Q (.ref (s.heap.objs.size+1)) {s with heap:=h'}) :
  dr (model prog w) A (call (.builtin "sorted") [.ref l]) Q E s:=by
 refine gW (D:=λ x=>∃ k t,x.1=.int k t) (kd:=oneType') kTB y j g hz (λ r i p B m Q q=>?_) (λ i p B m=>kJG) (λ v d=>f v d) h;refine kas_kind (T:=.type "int") r (λ v d=>?_) rfl rfl q;obtain⟨k,t,rfl⟩:=f v d;exact Fg rfl
end
def perm_back{α β:Type}{f:α->β}:∀{d c:List β},d.Perm c->∀{l:List α},c=l.map f->∃ m:List α,m.Perm l/\d=m.map f:=by
 intro d c h
 induction h with
 | nil =>
  intro l e
  match l,e with
  | [],_=>exact⟨[],.refl _,rfl⟩
 | cons x _ ih =>
  intro l e
  match l,e with
  | y::l,e =>
   rw[gh]at e;injection e with e1 e2
   obtain⟨m,a,b⟩:=ih e2;exact⟨y::m,a.cons y,by rw[gh,b,e1]⟩
 | swap x y l0 =>
  intro l e
  match l,e with
  | a::b::l,e =>
   rw[gh,gh]at e;injection e with e1 e2
   injection e2 with e2 e3
   exact⟨b::a::l,.swap _ _ _,by rw[gh,gh,e1,e2,e3]⟩
 | trans _ _ ih1 ih2 =>
  intro l e;obtain⟨m,a,b⟩:=ih2 e;obtain⟨i,g,j⟩:=ih1 b;exact⟨i,g.trans a,j⟩
end Srt
namespace L2
open PySem PySem.Spec PyProof.Rows
section
variable {X:Cx}
theorem cS:∀{ps:List (av×List Int)}{a:List ar},Vals (ps.map λ q=>V.ref q.1) a->a=ps.map λ q=>jz q.1
 | [],_,.nil=>rfl
 | p::ps,_,.cons r t=>by
  rw[cS t,show _=jz p.1 from r]
  rfl
theorem pF:∀(ps:List (av×List Int)),Vals (ps.map λ q=>V.ref q.1) (ps.map λ q=>jz q.1)
 | []=>.nil
 | p::ps=>.cons rfl (pF ps)
def kQU(H:Hp)(ps:List (av×List Int)):Prop:=∀ q∈ps,H q.1=some (.tup (q.2.map V.int))/\q.2≠[]
def rJ{b:List (av×Obj)}{q:St}{H:Hp}{s:ay}(I:Inv X b q H s){a:av}{c:List Int}(h:H a=some (.tup (c.map V.int)))(h0:c≠[]):Srt.TupI s.heap (.ref a)/\Srt.keyOf s.heap (.ref a)=c:=by
 obtain⟨p,g,⟨o,i,m,n,d⟩,r⟩:=I.tuple (SqT.of (K:=X.K) h);have f:=gJ g;have l:=g.length;refine⟨⟨a,o,_,n,rfl,i,m,d,λ u j=>f.all u (by simpa using j),?_⟩,?_⟩
 ·rw[ak]at l
  have:0<c.length:=vy.mpr h0;simp;omega
 ·rw[Srt.TupI.key i d]
  exact f.nums
inductive fL(K:az)(xs:List V)(H:Hp)(Q:VK):Prop
 | mk:∀(p:av)(ps:List (av×List Int)),(xs=[.ref p])->((SqL K H p (ps.map λ q=>V.ref q.1)\/SqT K H p (ps.map λ q=>V.ref q.1)))->(kQU H ps)->(∀(l:av)(ps':List (av×List Int)),H l=none->ps'.Perm ps->ps'.Pairwise (λ a b=>Srt.lexLt b.2 a.2=false)->Q (.ref l) (upd H l (.lst (ps'.map λ q=>V.ref q.1))))->fL K xs H Q
def zS:yY X (.builtin "sorted") (fL X.K):=by
 intro D s σ H xs us Q I r h;obtain⟨p,ps,rfl,m,g,q⟩:=h;obtain⟨u,rfl,S⟩:=vS r;cases S
 have obj:∃(o:Obj)(n:Nat),s.heap.get? p=some o/\(o.cls=.type "list"\/o.cls=.type "tuple")/\o.data=.seq (ps.map λ q=>jz q.1).toArray n/\ps.length<=sizeLine:=by
  rcases m with m | m
  ·obtain⟨C,B,j,f⟩:=I.list m
   rw[cS B]at j;obtain⟨o,y,i,n,l⟩:=j.isList;exact⟨o,n,y,.inl i,l,by simpa using f⟩
  ·obtain⟨C,B,j,f⟩:=I.tuple m
   rw[cS B]at j;obtain⟨o,y,i,n,l⟩:=j;exact⟨o,n,y,.inr i,l,by simpa using f⟩
 obtain⟨o,n,y,i,l,f⟩:=obj;refine Srt.sorted_tups y i l (by simpa using f) (λ v T=>?_) λ Y k N U od M e=>?_
 ·obtain⟨x,J,rfl⟩:=iR.mp T
  exact(rJ I (g x J).1 (g x J).2).1
 ·obtain⟨d,c,rfl⟩:=Srt.perm_back U rfl
  refine⟨.ref (s.heap.objs.size+1),_,I.laid (t':=s.toks) M (Ai _) (show ObjOk X.prog X.w _ N _ (.lst (d.map λ q=>V.ref q.1)) from⟨by simpa[c.length_eq] using f,_,k,pF d,e⟩),rfl,q _ d (I.hok.fresh (Ai _)) c ?_⟩;refine(km.mp od).imp_of_mem λ{a b} G L A=>?_;have Z:=(rJ I (g a (c.mem_iff.mp G)).1 (g a (c.mem_iff.mp G)).2).2;have O:=(rJ I (g b (c.mem_iff.mp L)).1 (g b (c.mem_iff.mp L)).2).2;have A:Srt.lexLt (Srt.keyOf s.heap (.ref b.1)) (Srt.keyOf s.heap (.ref a.1))=false:=A;rw[Z,O]at A;exact A
inductive fO(K:az)(xs:List V)(H:Hp)(Q:VK):Prop
 | mk:∀(p:av)(ns:List Int),(xs=[.ref p])->((SqL K H p (ns.map V.int)\/SqT K H p (ns.map V.int)))->(∀(l:av)(ns':List Int),H l=none->ns'.Perm ns->ns'.Pairwise (·<=·)->Q (.ref l) (upd H l (.lst (ns'.map V.int))))->fO K xs H Q
def kEP:yY X (.builtin "sorted") (fO X.K):=by
 intro D s Z H Y S Q I r h;obtain⟨p,J,rfl,m,q⟩:=h;obtain⟨u,rfl,O⟩:=vS r;cases O
 have obj:∃(o:Obj)(n:Nat)(c:List ar),s.heap.get? p=some o/\(o.cls=.type "list"\/o.cls=.type "tuple")/\o.data=.seq c.toArray n/\c.length<=sizeLine/\Vals (J.map V.int) c:=by
  rcases m with m | m
  ·obtain⟨c,j,B,f⟩:=I.list m
   obtain⟨o,x,g,n,l⟩:=B.isList;exact⟨o,n,c,x,.inl g,l,by rw[<-j.length];exact f,j⟩
  ·obtain⟨c,j,B,f⟩:=I.tuple m
   obtain⟨o,x,g,n,l⟩:=B;exact⟨o,n,c,x,.inr g,l,by rw[<-j.length];exact f,j⟩
 obtain⟨o,n,c,x,g,l,f,M⟩:=obj;have C:=gJ M;refine Srt.sorted_nums x g l f (λ v i=>C.all v i) λ d k N y G L e=>?_;have all:∀ v∈d,∃ k t,v=uk k t:=λ v i=>C.all v (y.mem_iff.mp i)
 have U:Vals ((d.map numOf).map V.int) d:=by
  clear e G y
  induction d with
  | nil=>exact .nil
  | cons u S ih =>
   obtain⟨k,t,rfl⟩:=all u (eW ..);exact .cons ⟨t,rfl⟩ (ih λ v i=>all v (dh _ i))
 have T:(d.map numOf).Perm J:=by
  have:=y.map numOf;rwa[C.nums]at this
 refine⟨.ref (s.heap.objs.size+1),_,I.laid (t':=s.toks) L (Ai _) (show ObjOk X.prog X.w _ N _ (.lst ((d.map numOf).map V.int)) from⟨?_,_,k,U,e⟩),rfl,q _ _ (I.hok.fresh (Ai _)) T ?_⟩
 ·rw[ak,ak,y.length_eq]
  exact f
 ·refine km.mpr (G.imp λ{a b} A=>?_)
  have A:decide (numOf b<numOf a)=false:=A;have:=of_decide_eq_false A;omega
end
end L2
namespace Hsh
set_option autoImplicit false
open PySem PySem.Spec PyProof.Rows
def kJX:Nat->List Nat->Bool
 | 0,l=>l.length<=1
 | k+1,l=>match l with
  | []=>true
  | [_]=>true
  | l=>kJX k (l.filter λ n=>(n / 2 ^ k) % 2 == 0) && kJX k (l.filter λ n=>!((n / 2 ^ k) % 2 == 0))
def kQP:∀(k:Nat)(l:List Nat),kJX k l=true->l.Nodup:=by
 intro k
 induction k with
 | zero =>
  intro l h
  match l,h with
  | [],_=>exact yo
  | [x],_=>exact fu.mpr ⟨by simp,yo⟩
  | _::_::_,h=>simp[kJX]at h
 | succ k ih =>
  intro l h
  match l,h with
  | [],_=>exact yo
  | [x],_=>exact fu.mpr ⟨by simp,yo⟩
  | a::b::l,h =>
   unfold kJX at h;rw[iK]at h;have h1:=ih _ h.1;have g:=ih _ h.2;generalize a::b::l=m at *
   have:∀ m:List Nat,(m.filter λ n=>(n / 2 ^ k) % 2 == 0).Nodup->(m.filter λ n=>!((n / 2 ^ k) % 2 == 0)).Nodup->m.Nodup:=λ m=>by
    induction m with
    | nil=>intro _ _;exact yo
    | cons x m ih =>
     intro c d
     have mem:x∉m:=λ f=>by
      cases e:(x / 2 ^ k) % 2 == 0 with
      | true =>
       rw[ve,if_pos e]at c;exact(fu.mp c).1 (iX.mpr ⟨f,e⟩)
      | false =>
       rw[ve,if_pos (by rw[e];rfl)]at d;exact(fu.mp d).1 (iX.mpr ⟨f,by rw[e];rfl⟩)
     refine fu.mpr ⟨mem,ih ?_ ?_⟩
     ·rw[ve]at c
      split at c
      ·exact(fu.mp c).2
      ·exact c
     ·rw[ve]at d
      split at d
      ·exact(fu.mp d).2
      ·exact d
   exact this m h1 g
def hp(p q:Nat):Nat:=(reduceHash (FK [hashInt (p:Int),hashInt (q:Int)])+2 ^ 63).toNat
def all:List Nat:=(cw 1764).map λ i=>hp (i / 42) (i % 42)
def kON:kJX 64 all=true:=by decide +kernel
def hp_inj{p q c d:Nat}(h1:p<42)(g:q<42)(f:c<42)(h:d<42)(e:hp p q=hp c d):p=c/\q=d:=by
 have nd:=kQP 64 all kON
 have at':∀ p q:Nat,p<42->q<42->all[42*p+q]?=some (hp p q):=λ p q a b=>by
  unfold all;rw[bg,DH (by omega)];show some (hp ((42*p+q) / 42) ((42*p+q) % 42))=_;rw[show(42*p+q) / 42=p by omega,show(42*p+q) % 42=q by omega]
 have a:=at' p q h1 g;have b:=at' c d f h;rw[<-e]at b;have:=(ye (ao.mp a).1 nd).mp (a.trans b.symm);omega
end Hsh
namespace Dct
set_option autoImplicit false
open PySem PySem.Spec PyProof.Rows
section
variable {prog:fb} {w:iI} {A:fq} {E:ar->ay->Prop} {s:ay} {κ:Type} [DecidableEq κ] {kd:KeyKind prog w κ}
def fold(xs ys:List (List κ×av×ar)):List (List κ×av×ar):=ys.foldl (λ a y=>storedH a y.1 y.2.1 y.2.2) xs
def fold_len(xs ys:List (List κ×av×ar)):(fold xs ys).length<=xs.length+ys.length:=by
 induction ys generalizing xs with
 | nil=>exact be _
 | cons y ys ih =>
  have:=ih (storedH xs y.1 y.2.1 y.2.2)
  have l:(storedH xs y.1 y.2.1 y.2.2).length<=xs.length+1:=by
   unfold storedH
   split<;>simp
  rw[iQ];unfold fold at *;rw[vk];omega
theorem kBY:∀(xs ys:List (List κ×av×ar)),((xs++ys).map (·.1)).Nodup->fold xs ys=xs++ys
 | xs,[],_=>by rw[iU];rfl
 | xs,y::ys,h=>by
  have a:atKey xs y.1=none:=by
   refine Du λ j p e=>?_;rw[du,gh,cu]at h;exact h.2.2 y.1 (iR.mpr ⟨_,di e,rfl⟩) y.1 (eW ..) rfl
  unfold fold;rw[vk,storedH_new a];have:=kBY (xs++[y]) ys (by simpa using h);unfold fold at this;rw[show(y.1,y.2.1,y.2.2)=y from rfl,this];simp
def pU(xs ys:List (List κ×av×ar))(i:Nat)(y:List κ×av×ar)(h:ys[i]?=some y):fold xs (ys.take (i+1))=storedH (fold xs (ys.take i)) y.1 y.2.1 y.2.2:=by
 unfold fold;rw[List.take_add_one,h,Dr]
 rfl
def mC{d a:av}{xs:List (List κ×av×ar)}{k:List κ}{v:ar}{Q:Unit->ay->Prop}(J:A.units<cLine)(B:(tupleKind kd).is s.heap k a)(H:s.heap.DictOfH (tupleKind kd) d xs)(hz:xs.length<=sizeLine)
  (q:∀ h',h'.DictOfH (tupleKind kd) d (storedH xs k a v)->jb d s.heap h'->Q () {s with heap:=h'}):dr (model prog w) A (dictSetHashed d (.ref a) ((tupleKind kd).hash k) v) Q E s:=by
 obtain⟨o,G,D,c,r,b,i,f,g⟩:=H;have sz:=Ck i;unfold dictSetHashed
 try with_reducible refine mj ?_
 refine ai (wpAny_dictFind_heap (knd:=tupleKind kd) J B c b i f g (λ C=>?_) λ j p u=>?_)
 ·have I:=not_mem_keys_of_get C
  have e:=storedH_new (Du C) a v;refine ai (xb (wpAny_updateDictKeys (hz:=by omega) c b (q _ ⟨_,_,D+1,qz _ c (BD (yn b _)),r.mapDictKeys _,yn b _,?_,?_,?_⟩ (jw ..))))
  ·rw[e]
   simp[i,entryOfKey]
  ·rw[e]
   intro x h;rcases cf.mp h with z | z
   ·exact(tupleKind kd).keeps (f x z) c b (jw ..)
   ·rw[bz.mp z]
    exact(tupleKind kd).keeps B c b (jw ..)
  ·rw[e,du,cu]
   refine⟨g,by simp,λ x h y n z=>I ?_⟩;have:y=k:=by simpa using n
   rw[<-this,<-z];exact h
 ·have e:=storedH_old (atKey_of_get g u) a v
  refine ai (xb (ai (wpAny_updateDict c b (wpAny_point (q _ ⟨_,_,D,qz _ c (BD (EH b _)),r.mapDict _,EH b _,?_,?_,?_⟩ (jw ..))))))
  ·rw[e]
   have m:=modify_map_putAt (entryOfKey (tupleKind kd)) (λ z:CB=>{z with val:=v}) k v (λ _ _=>rfl) g u
   rw[<-i]at m;obtain⟨l⟩:=G;simpa using m
  ·rw[e]
   intro x h;obtain⟨y,n,rfl⟩:=iR.mp h;unfold putAt
   split<;>exact(tupleKind kd).keeps (f y n) c b (jw ..)
  ·rw[e,keys_map_putAt]
   exact g
def kIU{k:List κ}{a:av}{Q:Bool->ay->Prop}(b:(tupleKind kd).is s.heap k a)(q:Q false s):dr (model prog w) A (Cz (.ref a)) Q E s:=by
 unfold Cz;have b:IsTupleKey kd s.heap k a:=b;refine ai (Cg b.typeIs F.slot_tuple_eq.lookup (bj ?_));exact q
def kCC{id:String}{d:av}{o:Obj}{a:Array CB}{ep:Nat}{xs:List (List κ×av×ar)}{Q:Array CB->ay->Prop}(B:s.heap.get? d=some o)(v:o.data=.dict a ep)(p:a.toList=xs.map (entryOfKey (tupleKind kd)))(j:∀ x∈xs,(tupleKind kd).is s.heap x.1 x.2.1)
  (r:(xs.map λ x=>(tupleKind kd).hash x.1).Nodup) (q:Q a s):dr (model prog w) A (Ax id d) Q E s:=by
 have i:∀ e∈a,¬ (a.filter λ z=>z.hash == e.hash).size>1:=λ e f g=>by
  have:(a.toList.map λ z=>z.hash)=xs.map λ x=>(tupleKind kd).hash x.1:=by
   rw[p,ui]
   rfl
  rw[<-this]at r
  have l:(a.filter λ z=>z.hash == e.hash).size=((a.toList.map λ z=>z.hash).filter λ z=>z == e.hash).length:=by
   rw[<-iB,Array.toList_filter,List.filter_map,ak]
   rfl
  have c:=List.nodup_iff_count.mp r e.hash;rw[List.count_eq_length_filter]at c;omega
 unfold Ax;refine ai (sk B v (ai ?_));rw[<-Array.forIn_toList];refine AZ _ (λ rest _ m=>m=s/\∀ e∈rest,e∈a) _ ?_ ?_ _ _ ⟨rfl,λ e h=>uu.mp h⟩
 ·rintro e rest b m ⟨rfl,u⟩
  have f:=u e (eW ..)
  obtain⟨x,n,rfl⟩ : ∃ x∈xs,e=entryOfKey (tupleKind kd) x:=by
   have:e∈xs.map (entryOfKey (tupleKind kd)):=p ▸ uu.mpr f;obtain⟨x,n,z⟩:=iR.mp this;exact⟨x,n,z.symm⟩
  refine ai (kIU (j x n) ?_);simp only[Es,if_true];rw[if_neg (i _ f)];exact bj ⟨rfl,λ z y=>u z (dh _ y)⟩
 ·rintro b m ⟨rfl,_⟩
  exact bj q
def kJE{nm:String}{d o:av}{xs ys:List (List κ×av×ar)}{Q:Unit->ay->Prop}(hu:A.units<cLine)(L:d≠o)(U:(o == sysModules)=false)(hd:s.heap.DictOfH (tupleKind kd) d xs)(ho:s.heap.DictOfH (tupleKind kd) o ys)
  (hz:xs.length+ys.length<=sizeLine) (hh:xs=[]->(ys.map λ y=>(tupleKind kd).hash y.1).Nodup)
  (q:∀ h',h'.DictOfH (tupleKind kd) d (fold xs ys)->jb d s.heap h'->Q () {s with heap:=h'}):dr (model prog w) A (CY nm d o) Q E s:=by
 obtain⟨od,X,Z,u,Y,p,T,a0,a2⟩:=id hd;obtain⟨S,a,a3,m,a1,c,B,r,N⟩:=id ho;have H:=Ck B;have O:=Ck T;unfold CY;rw[if_neg (by simpa using L)];unfold GE;rw[if_neg (by rw[U];exact dw)]
 refine ai (bj (ai (sk m c ?_)))
 have I:∃ h' i,s={s with heap:=h'}/\AC 0 a.size=AC i (a.size-i)/\i<=a.size/\h'.DictOfH (tupleKind kd) d (fold xs (ys.take i))/\h'.get? o=some S/\jb d s.heap h' :=
  ⟨s.heap,0,rfl,rfl,iG _,by rw[BG];exact hd,m,AJ _ _⟩
 dsimp only
 split
 ·refine ai (sk u p ?_)
  split
  ·rename_i hemp
   have z:xs=[]:=by
    have h0:X = #[]:=Dv.mp hemp;rw[h0]at O;exact qb.mp O.symm
   subst z;have ff:fold [] ys=ys:=kBY [] ys N;rw[ff]at q;refine ai (kCC m c B r (hh rfl) ?_)
   split
   ·refine ai (wpAny_updateDictKeysTo u p (bj (q _ ⟨_,_,Z+1,qz _ u (BD (yn p _)),Y.mapDictKeys _,yn p _,B,λ x hx=>(tupleKind kd).keeps (r x hx) u p (jw ..),N⟩ (jw ..))) ?_)
    simp only[yh]at hz;omega
   ·rename_i hne
    have h0:a = #[]:=Dv.mp (by simpa using hne)
    have z:ys=[]:=by
     rw[h0]at H;exact qb.mp H.symm
    subst z;exact bj (q _ hd (AJ _ _))
  ·refine ai (Ay m c (ai (sk m c (ai ?_))))
   rw[sh];simp only[AU,Dw,DW,GU];refine AZ _ (λ rest _ M=>∃ h' i,M={s with heap:=h'}/\rest=AC i (a.size-i)/\i<=a.size/\h'.DictOfH (tupleKind kd) d (fold xs (ys.take i))/\h'.get? o=some S/\jb d s.heap h') _ ?_ ?_ _ _ I
   ·rintro x rest b M ⟨h',i,rfl,n,hi,j,f,h⟩
    by_cases C:i<a.size
    ·rw[show a.size-i=(a.size-(i+1))+1 by omega,we]at n
     injection n with h1 h2
     subst h1;refine ai (sk f c ?_);have G:ys[x]?=some (ys[x]'(by omega)):=ae _;rw[entry_at B x,G];generalize ys[x]'(by omega)=y at G;have hk:(tupleKind kd).is h' y.1 y.2.1:=(tupleKind kd).keeps (r y (di G)) u p h;have lz:=fold_len xs (ys.take x);have lt:(ys.take x).length<=ys.length:=by rw[de];omega
     refine ai (mj (mC (s:={s with heap:=h'}) hu hk j (by omega) λ v D l=>?_))
     have g:v.get? o=some S:=(l.2 o (sj L)).trans f;refine ai (Ay g c ?_);rw[if_neg (by simp)];exact bj ⟨v,x+1,rfl,h2,C,by rw[pU xs ys x y G];exact D,g,h.trans l⟩
    ·rw[show a.size-i=0 by omega]at n
     exact nomatch n
   ·rintro b M ⟨h',i,rfl,n,hi,j,f,h⟩
    have J:i=a.size:=by
     by_cases C:i<a.size
     ·rw[show a.size-i=(a.size-(i+1))+1 by omega,we]at n
      exact nomatch n
     ·omega
    refine bj (q h' ?_ h);rw[J,H,iJ]at j;exact j
 ·refine ai (Ay m c (ai (sk m c (ai ?_))))
  rw[sh];simp only[AU,Dw,DW,GU];refine AZ _ (λ rest _ M=>∃ h' i,M={s with heap:=h'}/\rest=AC i (a.size-i)/\i<=a.size/\h'.DictOfH (tupleKind kd) d (fold xs (ys.take i))/\h'.get? o=some S/\jb d s.heap h') _ ?_ ?_ _ _ I
  ·rintro x rest b M ⟨h',i,rfl,n,hi,j,f,h⟩
   by_cases C:i<a.size
   ·rw[show a.size-i=(a.size-(i+1))+1 by omega,we]at n
    injection n with h1 h2
    subst h1;refine ai (sk f c ?_);have G:ys[x]?=some (ys[x]'(by omega)):=ae _;rw[entry_at B x,G];generalize ys[x]'(by omega)=y at G;have hk:(tupleKind kd).is h' y.1 y.2.1:=(tupleKind kd).keeps (r y (di G)) u p h;have lz:=fold_len xs (ys.take x);have lt:(ys.take x).length<=ys.length:=by rw[de];omega
    refine ai (mj (mC (s:={s with heap:=h'}) hu hk j (by omega) λ v D l=>?_))
    have g:v.get? o=some S:=(l.2 o (sj L)).trans f;refine ai (Ay g c ?_);rw[if_neg (by simp)];exact bj ⟨v,x+1,rfl,h2,C,by rw[pU xs ys x y G];exact D,g,h.trans l⟩
   ·rw[show a.size-i=0 by omega]at n
    exact nomatch n
  ·rintro b M ⟨h',i,rfl,n,hi,j,f,h⟩
   have J:i=a.size:=by
    by_cases C:i<a.size
    ·rw[show a.size-i=(a.size-(i+1))+1 by omega,we]at n
     exact nomatch n
    ·omega
   refine bj (q h' ?_ h);rw[J,H,iJ]at j;exact j
end
def meets_upd{prog:fb}{w:iI}{j:Type}[DecidableEq j](kd:KeyKind prog w j)(d o:av)(f:d≠o)(c:(o == sysModules)=false) :
  MeetsIn prog w (zo.«dict.update» ⟨[.ref d,.ref o],[]⟩) (λ A R s=>A.in1.units<cLine/\∃ xs ys,s.heap.DictOfH (tupleKind kd) d xs/\s.heap.DictOfH (tupleKind kd) o ys/\xs.length+ys.length<=sizeLine/\(xs=[]->(ys.map λ y=>(tupleKind kd).hash y.1).Nodup) /\
   ∀ h',h'.DictOfH (tupleKind kd) d (fold xs ys)->jb d s.heap h'->R (.ok (.ret .none)) {s with heap:=h'}) :=
 .of_wp λ A R s ⟨m,xs,ys,i,a,l,n,h⟩=>by
  unfold zo.«dict.update»;refine ai ?_;unfold Fh;refine ai (wpAny_notOrdered_dict i.typeIs ?_);refine bj (show dr _ _ (CH "dict.update" d (.ref o) [] .none) _ _ s from ?_);unfold CH;refine ai (AH a.typeIs ?_);rw[if_neg (by decide)];refine ai ?_;unfold Gd;refine ai ?_;unfold FL;refine ai (CI a.typeIs isSubtype_dict_dict ?_);simp only[ze,eP,if_false];refine ai (Cg a.typeIs F.slot_dict_iter.lookup (bj ?_));simp only[beq_self_eq_true,if_true];refine ai (bj (kJE m f c i a l n λ h' g b=>?_));refine show dr _ _ (Fi d [] >>= _) _ _ _ from ?_;exact ai (bj (bj ⟨.none,rfl,h h' g b⟩))
end Dct
namespace L2
open PySem PySem.Spec PyProof.Rows
section
variable {X:Cx} {pins:List (av×Obj)} {σ:St} {H:Hp} {s:ay} {a:av} {y v:V} {u r:ar} {o:Option V} {A:fq} {E:ar->ay->Prop}
def kKA{H':Hp}{Q:Unit->ay->Prop}(N:A.units<cLine)(I:Inv X pins σ H s)(g:DPut H a y v H')(G:RelV y u)(B:RelV v r)(h:∀ s',Inv X pins σ H' s'->Q () s') :
  dr (model X.prog X.w) A (dictSet a u r) Q E s:=by
 rcases g with⟨i,k,e,p,l,m⟩ | ⟨i,k,b,e,p,D,l,m⟩
 ·subst p m
  obtain⟨z,o,Z,d,x⟩:=kOD I.hok e;refine wpAny_dictSet_pairs (hsz:=by rw[<-d.length];exact z) (kBR G) x λ L f n=>h _ ?_;exact aI I (by rw[e];exact so) n (let ⟨q,_,_,j,_⟩:=f;⟨q,j⟩) (kOE (by have:=xW i k v;omega) o (d.put k B) f)
 ·subst p m
  cases(show u=jz b from G)
  obtain⟨z,o,xs,d,x⟩:=kHC I.hok e;refine wpAny_dictSet_heap (hsz:=by rw[<-vh d];exact z) N (mR I.hok D) x λ L f n=>h _ ?_;obtain⟨q,J,T,j,M,O,S,_,U⟩:=f;refine aI I (by rw[e];exact so) n ⟨q,j⟩ ⟨by have:=xW i k v;omega,o,_,(d.put k D B).keeps λ c Y C=>?_,q,J,T,j,M,O,S,U⟩;rw[kM (wR C e (λ z=>nomatch z))];exact C
end
def kVO(D:av)(tk c:TE):TB:=λ N a H=>tk a H λ y d=>c a d λ v f=>∃ b,DPut f D y v b/\N a b
def gD{X:Cx}{c f:iS}{tk d:TE}{D:av}(O:X.A.units+1<cLine)(u:PE X c tk)(p:PE X f d):PBd X (pX c f X.env (.ref D)) (kVO D tk d):=by
 intro a s b H N I h;unfold pX;refine ai (thn (u a s b H _ I h) λ C n ⟨y,j,q,m,i⟩=>?_);refine ai (mj (thn (p a n b j _ q i) λ G J ⟨x,M,v,o,B,g,l⟩=>?_));exact ai (xm (mj (kKA (by omega) v g m o λ L r=>⟨b,B,r,l⟩)))
section
variable {X:Cx} {tg iter kx vx:iS} {ifs:List iS} {sc:wc} {pos:Pos} {Nc:List Str} {js:List (Option Nat)} {wi:TI}
def kWE(js:List (Option Nat))(c:TI)(g:TG)(bd:av->TB):TE:=λ b H Q=>c b H λ J a=>∀ D,a D=none->uG J g (bd D) (λ _ d=>Q (.ref D) d) (dN js b) (upd a D (.dT []))
def kPP{g:TG}{bd:av->TB}(hx:X.xe=λ _ _=>False)(hc:X.calm=true)(hi:PI X tg iter wi)(S:CS sc X.env.scope)(a3:cL js Nc X.N sc.names=true)
  (hg:∀ C s₂ H₂ fp pins,PG (cxC X Nc sc C s₂ H₂ fp pins) tg g)
  (l:∀ C s₂ H₂ fp pins D L,PTl (cxC X Nc sc C s₂ H₂ fp pins) (xZ ifs (cxC X Nc sc C s₂ H₂ fp pins).env (pX kx vx (cxC X Nc sc C s₂ H₂ fp pins).env (.ref D)) L) L (bd D))
  (hs:∀ x,foldedSetIterable iter X.env x=pure x:=by intro _;rfl) :
  PE X (.DictComp kx vx [⟨tg,iter,ifs,0⟩] sc pos) (kWE js wi g bd):=by
 intro pins s σ H Q I h;rw[Do];have a1:closureFor sc X.env=pure (aK sc X.env):=yL λ y hy hf=>I.ok.has y.1 (.inl (S.free y hy hf));refine ox (use:=none) rfl hs a1 S.kind S.names (thn (hi pins s σ H _ I h) λ v s1 h1=>thn h1 λ a5 d h2=>?_);obtain⟨it,fp,tn,J,O,e,Z,T,Y,f2,hw⟩:=h2;subst e;have r:∀ b∈fp,b<d.heap.objs.size:=λ b l=>let ⟨o,ho,_⟩:=T.obj _ _ Y b l;cg ho;refine jh (sd S.nocell (by intro y hy;simp at hy) (λ i f a=>?_) S.kind);dsimp only at f a ⊢;generalize n:d.heap.push {cls:=.type "dict",dict:=none,data:=.dict #[]}=G at f a ⊢;have a6:G.objs.size=d.heap.objs.size+1:=by rw[<-n,ip]
 have M:d.heap.objs.size≠G.objs.size:=by omega
 have j:d.heap.objs.size<=G.objs.size:=by omega
 have B:∀ b o,d.heap.get? b=some o->i.get? b=some o:=λ b o e=>a.extBut b o (eA (cv (cg e) j)) (au _ (n ▸ au _ e));have u:i.get? d.heap.objs.size=some {cls:=.type "dict",dict:=none,data:=.dict #[]}:=a.extBut _ _ M (au _ (n ▸ cj _ rfl))
 have new:ObjOk X.prog X.w (upd O d.heap.objs.size (.dT [])) i d.heap.objs.size (.dT []):=by
  exact⟨iG _,beq_eq_false_iff_ne.mpr (sj (eA Z.big)),[],.nil,_,_,_,u,⟨rfl,rfl,rfl⟩,rfl,rfl,yo⟩
 have I4:=wS (js:=js) (Nc:=Nc) (tk:=d.toks+([]:List (Str×ar)).length) Z S f2 r a3 j (be _) M B f new;have hn:O d.heap.objs.size=none:=Z.fresh
 have f4:∀ b∈fp,yX (cxC X Nc sc G.objs.size d O fp pins) [] (upd O d.heap.objs.size (.dT [])) b:=λ b l=>by
  obtain⟨h0,h1,h2,h3,h4,h5⟩:=f2 b l;refine⟨?_,eA (cv (r b l) j),λ z=>?_,.inl l,λ x c z=>?_,λ p hp=>?_⟩
  ·rw[kM (eA (r b l))];exact h0
  ·rcases eK.mp (Z.stkSub b z) with q | q
   ·exact h1 q
   ·exact h2 q
  ·exact h4 x c (cK sc.names [] (λ z=>nomatch z) z)
  ·rcases cf.mp hp with z | z
   ·exact h5 p z
   ·exact absurd z (by simp)
 have U:tn 0 i:=T.keep _ _ _ Y λ b l o e=>B b o e
 have m:codeAny (model X.prog X.w) X.A (.compLoop (.DictComp kx vx [⟨tg,iter,ifs,0⟩] sc pos) 0 (.ref it) (.ref d.heap.objs.size) (compEnvC sc (aK sc X.env) G.objs.size X.env))
   (compPost (model X.prog X.w) X.A X.xe none (EP X pins σ Q) (.ref d.heap.objs.size) G.objs.size) {d with heap:=i,toks:=d.toks+([]:List (Str×ar)).length}:=by
  refine yK (X:=cxC X Nc sc G.objs.size d O fp pins) (.inr ⟨kx,vx,rfl⟩) hx hc (rH _ _ _ _ _ _ _ _ _ _) T (hg _ _ _ _ _) (l _ _ _ _ _ _ _) I4 U f4 (hw _ hn) λ a4 H' s' I' q=>?_;obtain⟨m',a0,_⟩:=I'.loc;exact⟨m',a0,λ h' a2=>⟨.ref d.heap.objs.size,H',wU Z f2 j I' a2,rfl,q⟩⟩
 exact xV (.inr ⟨kx,vx,rfl⟩) rfl rfl m (T.self _ _ _ _ _ U m)
def yH(kvs more:List (List Key×V)):List (List Key×V):=more.foldl (λ a y=>xB a y.1 y.2) kvs
theorem KT.fold{H:Hp}:∀{more:List (List Key×V)}{ys:List (List Key×av×ar)}{kvs:List (List Key×V)}{xs:List (List Key×av×ar)},KT H kvs xs->KT H more ys->KT H (yH kvs more) (Dct.fold xs ys)
 | [],_,_,_,r,.nil=>r
 | p::more,_,kvs,xs,r,.cons (b:=q) z t=>by
  have:=KT.fold (KT.put r q.1 (b:=q.2.1) (y:=p.2) (u:=q.2.2) (by rw[<-z.1];exact z.2.1) z.2.2) t;rw[<-z.1]at this;unfold yH at *;unfold Dct.fold at *;rw[vk,vk,<-z.1];exact this
def kOP(k:List Key):Prop:=∃ p q:Nat,k=[gw (p:Int),gw (q:Int)]/\p<42/\q<42
def kQI{prog:fb}{w:iI}:∀{ys:List (List Key×av×ar)},(∀ y∈ys,kOP y.1)->(ys.map (·.1)).Nodup->(ys.map λ y=>(tupleKind (qG prog w)).hash y.1).Nodup:=by
 intro ys hp nd;have:ys.map (λ y=>(tupleKind (qG prog w)).hash y.1)=(ys.map (·.1)).map (tupleKind (qG prog w)).hash:=by rw[ui];rfl
 rw[this];refine km.mpr (nd.imp_of_mem λ{a b} f m j e=>j ?_);obtain⟨x,l,rfl⟩:=iR.mp f;obtain⟨y,g,rfl⟩:=iR.mp m;obtain⟨p,q,o,p1,c⟩:=hp x l;obtain⟨d,h,n,p2,i⟩:=hp y g;rw[o,n]at e ⊢
 have:Hsh.hp p q=Hsh.hp d h:=by
  unfold Hsh.hp;exact congrArg (λ z:Int=>(z+2 ^ 63).toNat) e
 obtain⟨rfl,rfl⟩:=Hsh.hp_inj p1 c p2 i this
 rfl
inductive kRE(x:V)(vs:List V)(H:Hp)(Q:VK):Prop
 | mk:∀(a b:av)(kvs more:List (List Key×V)),(x=.ref a)->(vs=[.ref b])->(a≠b)->(H a=some (.dT kvs))->(H b=some (.dT more))->((∀ y∈more,kOP y.1))->(kvs.length+more.length<=sizeLine)->(Q .non (upd H a (.dT (yH kvs more))))->kRE x vs H Q
def kPV(hu:X.A.units+1<cLine):MtM X "dict.update" kRE:=by
 intro J s σ H x vs v us Q I Z Y h;obtain⟨a,b,j,more,rfl,rfl,ab,p,hb,hp,hz,q⟩:=h;cases Z
 obtain⟨u,rfl,ru⟩:=Y.one;cases ru
 obtain⟨za,i,S,o,L⟩:=kHC I.hok p;obtain⟨zb,D,f,g,M⟩:=kHC I.hok hb
 have B:∀ y∈f,kOP y.1:=by
  have:∀{l:List (List Key×V)}{m:List (List Key×av×ar)},KT H l m->(∀ y∈l,kOP y.1)->∀ y∈m,kOP y.1:=by
   intro l m r
   induction r with
   | nil=>intro _ y d;exact nomatch d
   | @cons p1 q1 ps qs z t ih =>
    intro O y d;rcases eK.mp d with rfl | d
    ·rw[<-z.1]
     exact O _ (eW ..)
    ·exact ih (λ y h=>O y (dh _ h)) y d
  exact this g hp
 have nd:(f.map (·.1)).Nodup:=let ⟨_,_,_,_,_,_,_,_,n⟩:=M;n;have lx:=vh o;have ly:=vh g;refine call_meetsIn Bu L.typeIs PySem.F.entry_dict_update (PySem.F.args_dict_update_2 _ _) (Dct.meets_upd (qG X.prog X.w) a b ab D) ⟨zu (knd:=qG X.prog X.w) hu,S,f,L,M,by omega,λ _=>kQI B nd,λ h' C hs=>?_⟩;obtain⟨G,U,ep,T,h2,h3,h4,_,h5⟩:=C;have lf:=vh (KT.fold o g);have lz:=Dct.fold_len S f;refine⟨.non,upd H a (.dT (yH j more)),aI (t':=s.toks) I (by rw[p];exact so) hs ⟨G,T⟩ ⟨by omega,i,_,(KT.fold o g).keeps λ c zs N=>?_,G,U,ep,T,h2,h3,h4,h5⟩,rfl,q⟩;rw[kM (wR N p (λ z=>nomatch z))];exact N
end
section
variable {X:Cx}
end
section
variable {prog:fb} {w:iI} {A:fq} {E:ar->ay->Prop} {s:ay} {z TI TO i1 i2:av} {fp1 fp2:List av} {n1 n2 j:Nat} {P1 P2:Nat->ar->Prop} {S1 S2:Nat->iO->Prop} {a b:ar}
def kHW{Q:uq->ay->Prop}(O:EL prog w A i1 fp1 n1 P1 S1)(N:EL prog w A i2 fp2 n2 P2 S2)(d:ZAp z TI TO i1 i2 fp1 fp2)
  (hz:wq s.heap z TI TO .none) (v:xu s.heap TI (.ref i1) (.ref i2)) (y:xu s.heap TO a b) (h1:S1 n2 s.heap) (h2:S2 n2 s.heap) (l1:n2<n1)
  (hE:∀ h' e tk,(∀ c o,c≠z->c≠TO->c≠i1->c≠i2->s.heap.get? c=some o->h'.get? c=some o)->(∃ o,h'.get? e=some o/\o.cls=.type "StopIteration")->E (.ref e) {s with heap:=h',toks:=tk}) :
  dr (model prog w) A (zo.«zip.__next__» ⟨[.ref z],[]⟩) Q E s:=by
 have u:∀{i:Nat}{h h':iO}{c:av},S1 i h->jb c h h'->c∉fp1->S1 i h':=λ st r p=>O.frame _ _ _ st λ b C o e=>r.extBut b o (λ q=>p (q ▸ C)) e;have f:∀{i:Nat}{h h':iO}{c:av},S2 i h->jb c h h'->c∉fp2->S2 i h':=λ st r p=>N.frame _ _ _ st λ b C o e=>r.extBut b o (λ q=>p (q ▸ C)) e;show dr _ _ (field (.ref z) 2 >>= _) _ _ _;refine ai (iY hz rfl (x:=.bool false) rfl ?_);show dr _ _ (field (.ref z) 3 >>= _) _ _ _;refine ai (iY hz rfl (x:=.ref TI) rfl ?_);refine ai (kg v rfl ?_);show dr _ _ (iA (.ref z) >>= _) _ _ _;refine ai ?_;unfold iA;refine ai (iY hz rfl (x:=.none) rfl (bj ?_));simp only[if_true];refine ai (xb ?_);refine ai (iY hz rfl (x:=.ref TO) rfl ?_);refine ai (kl hz (by simp) λ S n l=>?_)
 replace n:wq S z TI TO .ellipsis:=n
 refine ai ?_
 simp only[yp,Av,zm,BQ]
 refine ai (ai (vt ?_));show dr _ _ (gv (.ref i1) >>= _) _ _ _;refine ai (O.item n2 _ _ _ l1 (u h1 l d.z1) λ x Z T px a0 m=>bj ?_);have H:xu Z TO a b:=m.extBut _ _ d.TOi1 (l.extBut _ _ d.zTO.symm y);refine ai (kg H rfl ?_);refine ai (Ak H λ D J B=>?_)
 replace J:xu D TO x b:=J
 refine ai (Al (bj ?_));refine ai (ai (vt ?_));show dr _ _ (gv (.ref i2) >>= _) _ _ _;refine ai (N.done _ _ _ (f (f (f h2 l d.z2) m d.i1f) B d.t2) λ g4 e I X=>?_);obtain⟨oe,g,j⟩:=X;have U:wq D z TI TO .ellipsis:=B.extBut _ _ d.zTO (m.extBut _ _ d.zi1 n);have L:wq g4 z TI TO .ellipsis:=I _ _ d.zi2 U;have ez:e≠z:=λ q=>by subst q;rw[L]at g;cases g;simp at j
 exact kl L (by simp) λ g5 _ M=>hE g5 e _ (λ c o G Y c3 c4 q=>M.extBut _ _ G (I _ _ c4 (B.extBut _ _ Y (m.extBut _ _ c3 (l.extBut _ _ G q))))) ⟨oe,M.extBut _ _ ez g,j⟩
end
def kTY(g f : Bool)(K : az)(a b : av) : It :=
  ⟨λ i H => ∃ c d x y, SqX K g H a c /\ SqX K f H b d /\ c[i]? = some x /\ d[i]? = some y,
   λ i H v h => ∃ T x y, H T = none /\ v = .ref T /\ (∀ c, SqX K g H a c -> c[i]? = some x) /\ (∀ d, SqX K f H b d -> d[i]? = some y) /\ h = upd H T (.tup [x, y]),
   λ i H => ∃ c d x, SqX K g H a c /\ SqX K f H b d /\ c[i]? = some x /\ d.length = i⟩
def kIE{P:fb}{w:iI}{K:az}{a0:List iS} {x1} {a1:Pos} (k1 k2:Bool) (a b z TI TO p r:av) (B:ZAp z TI TO p r [p,a] [r,b]) :
  Turn P w K (.Tuple a0 x1 a1) (kTY k1 k2 K a b) [z,TO,p,r,TI] z
   (λ i h=>wq h z TI TO .none/\xu h TI (.ref p) (.ref r)/\(∃ u v,xu h TO u v)/\ItOf k1 h p a i/\ItOf k2 h r b i) where
 mem:=by simp
 obj:=λ i h st c L=>by
  obtain⟨C,l,⟨u,v,m⟩,h1,D⟩:=st;simp only[eK,si,or_false]at L;rcases L with rfl | rfl | rfl | rfl | rfl
  ·exact⟨_,C,λ v q=>by cases q⟩
  ·exact⟨_,m,λ v q=>by cases q⟩
  ·exact h1.live
  ·exact D.live
  ·exact⟨_,l,λ v q=>by cases q⟩
 keep:=λ i h h' st Z=>by
  obtain⟨C,l,⟨u,v,m⟩,h1,D⟩:=st;exact⟨Z z (by simp) _ C,Z TI (by simp) _ l,⟨u,v,Z TO (by simp) _ m⟩,h1.at λ o q=>Z p (by simp) o q,D.at λ o q=>Z r (by simp) o q⟩
 item:=by
  intro X hP hw hK L i S s σ H E I hf st hg;subst hP hw hK;obtain⟨C,l,⟨u0,v0,m⟩,h1,D⟩:=st;obtain⟨xs,ys,x,y,G,J,hx,hy⟩:=hg;obtain⟨j,N,p1⟩:=I.sq G;obtain⟨f,O,p2⟩:=I.sq J;obtain⟨u,hu,ru⟩:=N.get hx;obtain⟨v,hv,rv⟩:=O.get hy;have D1:=xR (prog:=X.prog) (w:=X.w) (A:=X.A.in1) (I.ok.hd L) k1 p a (aL p1 h1) j.toArray;have D2:=xR (prog:=X.prog) (w:=X.w) (A:=X.A.in1) (I.ok.hd L) k2 r b (aL p2 D) f.toArray;have M:i<j.toArray.size:=by simpa using(ao.mp hu).1
  have Y:i<f.toArray.size:=by simpa using(ao.mp hv).1
  have U:s.TypeIs (.ref z) "zip":=⟨_,C,rfl⟩;unfold pyNext
  refine ai (zf (ka (name:=xa "__next__") U tf (mo tf U Ad
   (kHV D1 D2 B C l m ⟨h1,p1⟩ ⟨D,p2⟩ M Y λ u' v' h' tk a2 aa z' o' ab a6 t' hk=>bj ?_) (AO _))))
  have eu:u'=u:=by
   have q:j[i]?=some u':=by simpa using a2
   rw[hu]at q;exact(bq q).symm
  have ev:v'=v:=by
   have q:f[i]?=some v':=by simpa using aa
   rw[hv]at q;exact(bq q).symm
  subst eu ev;refine⟨_,rfl,Be z' λ g a4 n=>?_⟩;have a9:z<s.heap.objs.size:=cg C;have ag:TO<s.heap.objs.size:=cg m;have af:p<s.heap.objs.size:=let ⟨_,e,_⟩:=h1.live;cg e;have ac:r<s.heap.objs.size:=let ⟨_,e,_⟩:=D.live;cg e;have Q:TI<s.heap.objs.size:=cg l;have a5:g.get? s.heap.objs.size=some {cls:=.type "tuple",data:=.seq #[u',v']}:=n.extBut _ _ (jc a9) t'
  obtain⟨I2,n2⟩:=I.handed (t':=tk) (ch:=[z,TO,p,r]) ru rv a5 (λ c o d q=>n.extBut c o (λ e=>d (by simp[e])) (hk c o (λ e=>d (by simp[e])) (λ e=>d (by simp[e])) (λ e=>d (by simp[e])) (λ e=>d (by simp[e])) q))
   (λ c d=>hf c (by simp at d ⊢;rcases d with e | e | e | e<;>simp[e]))
   (λ c d=>by simp at d;rcases d with rfl | rfl | rfl | rfl<;>assumption)
  refine⟨.ref s.heap.objs.size,_,I2,rfl,⟨_,x,y,I.hok.fresh (be _),rfl,(λ al a3=>by rw[I.sq_inj a3 G];exact hx),(λ ah a8=>by rw[I.sq_inj a8 J];exact hy),rfl⟩,?_,λ c d=>?_⟩
  ·exact⟨a4,n.extBut _ _ B.zTI.symm (hk _ _ B.zTI.symm B.TITO B.TIi1 B.TIi2 l),⟨_,_,n.extBut _ _ B.zTO.symm o'⟩,ab.1.at λ o q=>n.extBut p o B.zi1.symm q,a6.1.at λ o q=>n.extBut r o B.zi2.symm q⟩
  ·by_cases e:c=TI
   ·subst e
    rw[kM (eA Q)];exact(hf c (by simp)).1
   ·exact n2 c (by simp at d ⊢;rcases d with q | q | q | q | q<;>simp_all)
 done:=by
  intro X hP hw hK L i S s σ H E I hf st hg;subst hP hw hK;obtain⟨C,l,⟨u0,v0,m⟩,h1,D⟩:=st;obtain⟨xs,ys,x,G,J,hx,hy⟩:=hg;obtain⟨j,N,p1⟩:=I.sq G;obtain⟨f,O,p2⟩:=I.sq J;obtain⟨u,hu,ru⟩:=N.get hx;have D1:=xR (prog:=X.prog) (w:=X.w) (A:=X.A.in1) (I.ok.hd L) k1 p a (aL p1 h1) j.toArray;have D2:=xR (prog:=X.prog) (w:=X.w) (A:=X.A.in1) (I.ok.hd L) k2 r b (aL p2 D) f.toArray;have hl:f.toArray.size=i:=by rw[<-hy,O.length];simp
  have M:i<j.toArray.size:=by simpa using(ao.mp hu).1
  have U:s.TypeIs (.ref z) "zip":=⟨_,C,rfl⟩;unfold pyNext
  refine ai (zf (ka (name:=xa "__next__") U tf (mo tf U Ad
   (kHW D1 D2 B C l m ⟨hl ▸ h1,p1⟩ ⟨hl ▸ D,p2⟩ (by omega) λ h' e tk hk he=>?_) (AO _))))
  obtain⟨o,ho,a7⟩:=he;refine ai (CI (T:="StopIteration") (b:=true) ⟨o,ho,a7⟩ Ew ?_)
  refine bj ⟨rfl,I.turnedL (t':=tk) (ch:=[z,TO,p,r]) (λ c o d q=>hk c o (λ e=>d (by simp[e])) (λ e=>d (by simp[e])) (λ e=>d (by simp[e])) (λ e=>d (by simp[e])) q)
   (λ c d=>hf c (by simp at d ⊢;rcases d with e | e | e | e<;>simp[e]))⟩
 self:=λ _ _ _ _ _ st h=>Ae st.1 h
section
variable {X:Cx}
inductive kNH(k1:Bool)(k2:Bool)(K:az)(R:It->Hp->Prop)(vs:List V)(H1:Hp):Prop
 | mk:∀ a b,(vs=[.ref a,.ref b])->((∃ xs,SqX K k1 H1 a xs))->((∃ ys,SqX K k2 H1 b ys))->(R (kTY k1 k2 K a b) H1)->kNH k1 k2 K R vs H1
def kVC(g f:Bool)(K:az)(a:TA):TI:=λ d H R=>a d H λ c b=>kNH g f K R c b
def kPM(Q O:Bool){a b:iS}{L:TA}{p m l:Pos}{o:List iS} {x1} (hg:Gl X "zip") (Y:X.mg "zip" = none) (ha:PA X [a,b] L) (hs:starEach [a,b] X.env=[(false,eval a X.env),(false,eval b X.env)]:=by rfl) (i:starEach [b] X.env=[(false,eval b X.env)]:=by rfl) :
  PI X (.Tuple o x1 l) (.Call (.Name "zip" p) [a,b] [] m) (kVC Q O X.K L):=by
 intro d s σ H R I h;refine Fn (wK I hg Y boot_zip (ir (thn (ha m d s σ H _ I h) λ us g ⟨vs,G,n,Z,T⟩=>?_) (by rw[hs,i]) (by rw[i];rfl)));obtain⟨l1,S,rfl,⟨xs,A⟩,⟨ys,x⟩,q⟩:=T;obtain⟨u,v,rfl,r,r'⟩:=kEW Z;cases r
 cases r'
 obtain⟨N,a0,p1⟩:=n.sq A;obtain⟨M,a1,p2⟩:=n.sq x;have D:=p1.lt;have C:=p2.lt;refine kCL p1 p2 λ U J y B h1 h2 hk=>?_;refine Ae (s:={g with heap:=U}) J ?_
 have f:∀ c,g.heap.objs.size<=c->yX X d G c:=λ c j=>n.fpOk j (n.hok.fresh j)
 refine⟨_,[g.heap.objs.size+4,g.heap.objs.size+3,g.heap.objs.size,g.heap.objs.size+1,g.heap.objs.size+2],_,_,G,rfl,n.kept (t':=g.toks) hk,
  kIE Q O l1 S _ _ _ _ _ (zap _ _ _ D C),⟨J,y,⟨_,_,B⟩,h1,h2⟩,λ c j=>?_,q⟩
 simp at j;rcases j with rfl | rfl | rfl | rfl | rfl<;>exact f _ (by omega)
end
end L2
namespace HT
open PySem PySem.Spec PyProof.Rows
section
variable {prog:fb} {w:iI} {A:fq} {E:ar->ay->Prop} {s:ay}
def cat_tup0{t b:av}{j:List ar}{Q:ar->ay->Prop}(r:Eb s.heap t ([]:List ar).toArray)(v:Eb s.heap b j.toArray)(h:Q (.ref b) s):dr (model prog w) A (binaryOp .Add (.ref t) (.ref b)) Q E s:=by
 obtain⟨⟨cls,p,data,q⟩,o,l,n,i⟩:=id r;obtain⟨⟨m,f,data2,g⟩,c,a,u,d⟩:=id v;simp only at l i a d;subst l i a d
 exact Df ⟨_,o,rfl⟩ ⟨_,c,rfl⟩ CA DL AG AB (yz _ _)
   (tuple_addW0 t b _ j.toArray n u p f q g (by simp)) ⟨o,c,h⟩
end
end HT
namespace L2
open PySem PySem.Spec PyProof.Rows
def kTZ(H H':Hp):Prop:=∀ b o,H b=some o->H' b=some o
section
variable {X:Cx}
def kBV{H:Hp}{p:av}(h:H p=none)(o:HO):kTZ H (upd H p o):=λ b u q=>by rw[kM (kO q h)];exact q
inductive kUO(K:az)(x:V)(lo:Option Int)(hi:Option Int)(H:Hp)(Q:VK):Prop
 | mk:∀ a xs,(x=.ref a)->(H a=some (.tup xs))->(∀ p H',kTZ H H'->H' p=some (.tup (xS xs lo hi))->Q (.ref p) H')->kUO K x lo hi H Q
def yN:SlR X (kUO X.K):=by
 intro d s r H x v u n lo g m Q I l o i y h;obtain⟨a,b,rfl,f,q⟩:=h;refine kPA d s r H _ v u n lo g m Q I l o i y ?_;by_cases c:HT.sIx b.length 0 lo=0/\HT.sIx b.length b.length g=b.length
 ·refine .inr ⟨a,b,rfl,SqT.of f,c,q a H (λ _ _ e=>e) ?_⟩
  rw[f];unfold xS;rw[c.1,c.2];simp
 ·exact .inl ⟨a,b,rfl,SqT.of f,c,λ p j=>q p _ (kBV j _) kA⟩
inductive kME(K:az)(x:V)(y:V)(H:Hp)(Q:VK):Prop
 | mk:∀ a b xs ys,(x=.ref a)->(y=.ref b)->(H a=some (.tup xs))->(H b=some (.tup ys))->(xs.length+ys.length<=sizeLine)->(∀ p H',kTZ H H'->H' p=some (.tup (xs++ys))->Q (.ref p) H')->kME K x y H Q
def aF:OpR X (binaryOp .Add) (kME X.K):=by
 intro d s B H x y v u Q I i l h;obtain⟨a,b,m,n,rfl,rfl,f,g,r,q⟩:=h;by_cases c:m=[]
 ·subst c
  cases i
  cases l
  obtain⟨C,o,p1,_⟩:=I.tuple (SqT.of (K:=X.K) f);obtain⟨j,D,p2,_⟩:=I.tuple (SqT.of (K:=X.K) g);cases o
  exact HT.cat_tup0 p1 p2 ⟨.ref b,H,I,rfl,q b H (λ _ _ e=>e) (by simpa using g)⟩
 ·refine kPR d s B H _ _ v u Q I i l ⟨a,b,m,n,rfl,rfl,SqT.of f,SqT.of g,c,r,λ e=>q a H (λ _ _ z=>z) (by rw[e,iU];exact f),λ _ p A=>q p _ (kBV A _) kA⟩
end
def kIA{k:Bool}{K:az}{a:av}{xs:List V}{g:TG}{b:TB}{h:St->Hp->Prop}{c:St}{H:Hp}(Pv:Nat->St->Hp->Prop)(h0:Pv 0 c H)(o:∀ i c H,i<=xs.length->Pv i c H->SqX K k H a xs)
  (s:∀ i x T c H,xs[i]?=some x->H T=none->Pv i c H->g (.ref T) c (upd H T (.tup [.int i,x])) λ σ2 H2=>b (Pv (i+1)) σ2 H2) (l:∀ c H,Pv xs.length c H->h c H):uG (Ite k K a) g b h c H:=by
 refine⟨λ i m c H=>m=xs.length-i/\i<=xs.length/\Pv i c H,⟨xs.length,by simp,iG _,h0⟩,?_⟩;rintro i m c H ⟨rfl,f,p⟩;have d:=o i c H f p;rcases iV i xs.length with j | j
 ·refine .inr ⟨⟨xs,xs[i],d,by simp[j]⟩,Pv (i+1),λ u v q=>⟨xs.length-(i+1),by omega,rfl,by omega,q⟩,λ x v r=>?_⟩
  obtain⟨T,n,y,rfl,A,rfl⟩:=r;exact s i n T c H (A xs d) y p
 ·obtain rfl:i=xs.length:=by omega
  exact .inl ⟨⟨xs,d,rfl⟩,l c H p⟩
section
variable {X:Cx}
def kBS{M:yt}{A:fq}{E:ar->ay->Prop}{s:ay}{a b:Bool}{Q:ar->ay->Prop}(h:Q (.bool (!(a == b))) s):dr M A (compareOp .IsNot (.bool a) (.bool b)) Q E s:=by
 cases a<;>cases b<;>exact bj h
inductive mH(x:V)(y:V)(H:Hp)(Q:VK):Prop
 | mk:∀(a b:Bool),(x=.bl a)->(y=.bl b)->(Q (.bl (!(a == b))) H)->mH x y H Q
def kJA:OpR X (compareOp .IsNot) mH:=by
 intro c s g H x y v u Q I d f h;obtain⟨a,b,rfl,rfl,q⟩:=h;cases d
 cases f
 exact kBS (qE I q rfl)
end
end L2
namespace SetI
open PySem L2 PyProof.Rows PySem.Spec
section
variable {prog:fb} {w:iI} {A:fq} {E:ar->ay->Prop} {s:ay}
end
end SetI
namespace L2
open PySem PySem.Spec PyProof.Rows
section
variable {X:Cx}
end
end L2
namespace HT
open PySem PySem.Spec PyProof.Rows
section
variable {prog:fb} {w:iI} {A:fq} {E:ar->ay->Prop} {s:ay}
end
end HT
namespace L2
open PySem PySem.Spec PyProof.Rows
section
variable {X:Cx}
end
end L2
namespace Tri
open Cyc Rnd
end Tri
namespace HT
open PySem PySem.Spec PyProof.Rows
section
variable {prog:fb} {w:iI} {A:fq} {E:ar->ay->Prop} {s:ay}
end
end HT
namespace L2
open PySem PySem.Spec PyProof.Rows
section
variable {X:Cx}
def aQ(n:Nat):List V:=(cw n).map λ(i:Nat)=>V.int (i:Int)
def kKL{n:Nat}{a:Array ar}(h:ItemsOf (λ i v=>∃ t,v=.int ((0:Int)+i*1) t) a n):Vals (aQ n) a.toList:=by
 obtain⟨h1,d⟩:=h
 have:∀(m:Nat)(l:List ar)(k:Nat),l.length=m->(∀(j:Nat)(v:ar),l[j]?=some v->∃ t,v=uk (((k+j:Nat):Int)) t)->Vals ((AC k m).map λ(i:Nat)=>V.int (i:Int)) l:=λ m=>by
  induction m with
  | zero=>intro l k b _;rw[qb.mp b];exact .nil
  | succ m ih =>
   intro l k b c
   match l,b with
   | x::l,b =>
    rw[we,gh];refine .cons ?_ (ih l (k+1) (by simpa using b) λ j v e=>?_)
    ·obtain⟨t,rfl⟩:=c 0 x rfl
     exact⟨t,by simp⟩
    ·obtain⟨t,rfl⟩:=c (j+1) v (by simpa using e)
     exact⟨t,by congr 1;omega⟩
 unfold aQ;rw[List.range_eq_range'];refine this n a.toList 0 (by simpa using h1) λ j v e=>?_;obtain⟨t,rfl⟩:=d j v (by simpa using e);exact⟨t,by simp⟩
inductive kQW(tp:Bool)(Q:VK)(vs:List V)(H1:Hp):Prop
 | mk:∀(n:Nat),(vs=[.int (n:Int)])->(n<=1000)->(∀ l,H1 l=none->Q (.ref l) (upd H1 l (if tp then .tup (aQ n) else .lst (aQ n))))->kQW tp Q vs H1
def kVZ(a:Bool)(b:TA):TE:=λ f H Q=>b f H λ d c=>kQW a Q d c
def kPN{a:iS}{x:TA}{p p2 l c:Pos}(G:X.calm=true)(U:Gl X "list")(J:X.mg "list" = none)(j:Gl X "range")(r:X.mg "range" = none)(M:PA X [a] x)(T:starEach [a] X.env=[(false,eval a X.env)]:=by rfl)
  (i:starEach [.Call (.Name "range" p2) [a] [] c] X.env=[(false,eval (.Call (.Name "range" p2) [a] [] c) X.env)]:=by rfl):PE X (.Call (.Name "list" p) [.Call (.Name "range" p2) [a] [] c] [] l) (kVZ false x):=by
 intro d s y H Q I h;refine Fn (wK I U J boot_list (ir ?_ i rfl));refine GB (Fn (wK I j r Ee (ir (thn (M c d s y H _ I h) λ us f ⟨vs,C,v,L,B⟩=>?_) T rfl)));obtain⟨n,rfl,N,q⟩:=B;obtain⟨u,rfl,t,rfl⟩:=vS L;refine call_range_1 ?_;refine GF ?_;have A:Inv X d y C {f with heap:=f.heap.push {cls:=.type "range",data:=.fields #[.int 0 f.toks,.int n t,.int 1 (f.toks+1)]},toks:=f.toks+1+1}:=v.kept λ b o e=>au _ e
 refine call_list_range (n:=n) (v.ok.hd G) (GP ..) (small_one (by omega) (by omega) (by omega) (by omega)) (by rw[rangeSize_one];split<;>omega) (by omega) λ Z tk m Y O S g=>?_;have D:=A.laid (t':=tk) (o:=.lst (aQ n)) O (be _) (show ObjOk X.prog X.w _ _ _ (.lst (aQ n)) from⟨by unfold aQ;rw[ak,iH];exact ju N (by decide),m.toList,_,kKL g,by simpa using S⟩);exact⟨.ref _,_,D,rfl,q _ (A.hok.fresh (be _))⟩
end
end L2
namespace Tri
open Cyc
end Tri
namespace Fc
open Cyc Tri Rnd
def kNU{α:Type}(l:List α)(p:α->Bool):(l.filter p).length+(l.filter λ x=>!p x).length=l.length:=by
 induction l with
 | nil=>rfl
 | cons x l ih =>
  rw[ve,ve,iQ]
  cases p x<;>simp<;>omega
section
variable {W:Rows}
def kMT(S:Nb W){t:Nat×Nat}(h:t∈kN W):nxt W t≠t:=λ e=>by
 have a:=S.e (mem_steps.mp (show(t.1,t.2)∈kN W from h));have:(nxt W t).1=t.2:=rfl;rw[e]at this;exact a.2.2 this.symm
def kSY(S:Nb W):(stepsS W).Nodup:=(sortP_perm _).nodup_iff.mpr (dQ S.nd)
def kKQ(S:Nb W):2*(tiesS W).length=(kN W).length:=by
 have nd:=kSY S;have l:(stepsS W).length=(kN W).length:=(sortP_perm _).length_eq;have c:=kNU (stepsS W) λ t=>decide (t.1<t.2)
 have perm:(((stepsS W).filter λ t=>!decide (t.1<t.2)).map λ t=>(t.2,t.1)).Perm ((stepsS W).filter λ t=>decide (t.1<t.2)):=by
  refine(ug ?_ (nd.filter _)).mpr λ t=>?_
  ·exact km.mpr ((nd.filter _).imp λ{a b} h e=>h (by
    injection e with e1 e2
    exact ux e2 e1))
  ·constructor
   ·intro h
    obtain⟨u,d,rfl⟩:=iR.mp h;obtain⟨a,b⟩:=iX.mp d;have e:=mem_stepsS.mp a;have f:=(S.e e).2.2;refine iX.mpr ⟨mem_stepsS.mpr (S.sym _ _ e),?_⟩;have b:¬ u.1<u.2:=by simpa using b
    exact decide_eq_true (show u.2<u.1 by omega)
   ·intro h
    obtain⟨a,b⟩:=iX.mp h;have b:=of_decide_eq_true b;refine iR.mpr ⟨(t.2,t.1),iX.mpr ⟨mem_stepsS.mpr (S.sym _ _ (mem_stepsS.mp a)),?_⟩,rfl⟩;have:¬ t.2<t.1:=by omega
    simpa using this
 have e:=perm.length_eq;rw[ak]at e;unfold tiesS;omega
def kCM(S:Nb W):(fgo W (stepsS W)).2.Perm (kN W):=by
 have a:=fgo_ok S (stepsS W) λ t h=>(sortP_perm _).mem_iff.mp h;exact(ug a.nd (dQ S.nd)).mpr λ t=>⟨a.sub t,λ h=>a.cov t ((sortP_perm _).mem_iff.mpr h)⟩
def kJV(S:Nb W):((uZ W).map jd).sum=(kN W).length:=by
 have a:=fgo_ok S (stepsS W) λ t h=>(sortP_perm _).mem_iff.mp h;obtain⟨R,_,b,r3⟩:=a.reps;have e:=(kCM S).length_eq;unfold uZ;rw[b,<-e,r3,vw,ui]
 congr 1
 refine qk λ r _=>?_;show((rnd W r).map _).length=_;rw[ak]
def kTQ(S:Nb W):(∀ f∈facesS W,f.length=3)↔∀ t∈kN W,(nxt W (nxt W t)).2=t.1:=by
 have x:=fgo_ok S (stepsS W) λ t h=>(sortP_perm _).mem_iff.mp h;obtain⟨R,u,v,r3⟩:=x.reps
 have d:∀ f,f∈facesS W↔∃ r∈R,f=(rnd W r).map (·.1):=λ f=>by
  unfold facesS;rw[(vG _).mem_iff];unfold uZ;rw[v,iR];exact⟨λ⟨r,a,b⟩=>⟨r,a,b.symm⟩,λ⟨r,a,b⟩=>⟨r,a,b.symm⟩⟩
 have n:∀ r∈R,r∈kN W:=λ r g=>(sortP_perm _).mem_iff.mp (u r g);constructor
 ·intro h t q
  have o:=(kCM S).mem_iff.mpr q;rw[r3,AD]at o;obtain⟨r,g,m⟩:=o;have p:=h _ ((d _).mpr ⟨r,g,rfl⟩);rw[ak,rnd_len]at p;obtain⟨j,rfl⟩:=(bW S (n r g)).mp m;have back:=(sH S (n r g)).2.2.1;rw[p]at back
  have e:nxt W (nxt W (nxt W (it (nxt W) j r)))=it (nxt W) j r:=by
   show it (nxt W) 3 (it (nxt W) j r)=_;rw[<-bF,AI,bF,back]
  have l:(nxt W (nxt W (nxt W (it (nxt W) j r)))).1=(nxt W (nxt W (it (nxt W) j r))).2:=rfl;rw[e]at l;exact l.symm
 ·intro h f y
  obtain⟨r,g,rfl⟩:=(d f).mp y;have i:=n r g;rw[ak,rnd_len];have to:=(sQ S).to
  have c:it (nxt W) 3 r=r:=by
   show nxt W (nxt W (nxt W r))=r;have a:=h r i;have b:=h _ (to r i);have l:(nxt W (nxt W (nxt W r))).1=r.1:=a;have s:(nxt W (nxt W (nxt W r))).2=r.2:=b;exact ux l s
  refine per_is (by decide) c λ j A B=>?_;have:j=1\/j=2:=by omega
  rcases this with rfl | rfl
  ·exact kMT S i
  ·intro e
   have e:nxt W (nxt W r)=r:=e;have c:nxt W (nxt W (nxt W r))=r:=c;rw[e]at c;exact kMT S i c
def three_cornered(S:Nb W):(W.length+(facesS W).length=(tiesS W).length+2/\∀ f∈facesS W,f.length=3)↔((∀ t∈kN W,(nxt W (nxt W t)).2=t.1)/\(kN W).length+12=6*W.length):=by
 rw[<-kTQ S];have l:=kKQ S;have fs:=kJV S;have d:(facesS W).length=(uZ W).length:=(vG _).length_eq
 have key:(∀ f∈facesS W,f.length=3)->3*(facesS W).length=(kN W).length:=λ h=>by
  have c:∀ f∈uZ W,f.length=3:=λ f j=>h f ((vG _).mem_iff.mpr j);rw[d,<-fs];generalize uZ W=F at c;clear h fs d
  induction F with
  | nil=>rfl
  | cons f F ih =>
   rw[gh,Ah,iQ,<-ih λ g i=>c g (dh _ i),c f (eW ..)];omega
 constructor
 ·rintro⟨a,b⟩
  have:=key b;exact⟨b,by omega⟩
 ·rintro⟨b,a⟩
  have:=key b;exact⟨by omega,b⟩
end
end Fc
namespace Tri
open Cyc Rnd
section
variable {L L2:Rows} {Os Ps:List (List Nat)} {A M C:List Nat} {f l:Nat}
end
def stF(W:Rows)(top b:List Nat)(a:Nat):Option (List Nat) :=
 let below:=b.filter λ q=>decide (q∈W.getD a [])
 let st:=top.filter λ q=>decide (q∈below)
 if st.length<2\/st.length≠below.length then none
 else if(top.drop (top.idxOf (st.headD 0))).take st.length≠st then none
 else if(st.zip st.tail).all (λ t=>decide ((nxt W t).2=a))=true then some st else none
def poF(top st:List Nat)(a:Nat):List Nat:=top.take (top.idxOf (st.headD 0)+1)++a::top.drop (top.idxOf (st.getLastD 0))
def goF(W:Rows)(a:List Nat):Nat->Option (List (List Nat)×List (List Nat))
 | 0=>some ([],[a.take 2])
 | i+1=>match goF W a i with
  | none=>none
  | some (found,tops)=>match stF W (tops.getLastD []) (a.take (i+2)) (a.getD (i+2) 0) with
   | none=>none
   | some st=>some (found++[st],tops++[poF (tops.getLastD []) st (a.getD (i+2) 0)])
theorem bJ:∀{l:List Nat}{a b:Nat},(a,b)∈l.zip l.tail->Adj l a b
 | [],_,_,h=>by simp at h
 | [x],_,_,h=>by simp at h
 | x::y::l,a,b,h=>by
  rw[Ex,BW]at h;rcases eK.mp h with e | e
  ·injection e with e1 e2
   exact(cP x y l a b).mpr (.inl ⟨e1,e2⟩)
  ·exact(cP x y l a b).mpr (.inr (bJ (l:=y::l) e))
theorem kGR{m:Nat->Nat}:∀{B:List Nat}{x:Nat}{C:List Nat},(∀ b∈B,m b≠m x)->((B++x::C).map m).idxOf (m x)=B.length
 | [],x,C,_=>by simp
 | b::B,x,C,h=>by
  have:=kGR (B:=B) (x:=x) (C:=C) λ b a=>h b (dh _ a);rw[ji,gh,List.idxOf_cons,this,iQ];have:(m b == m x)=false:=beq_eq_false_iff_ne.mpr (h b (eW ..));rw[this]
  rfl
def kMS{W:Rows}(nd:∀(p:Nat)(row:List Nat),W[p]?=some row->row.Nodup){x y v:Nat}(h:R W y v x):(nxt W (x,y)).2=v:=by
 obtain⟨row,e,n⟩:=h;unfold nxt;show(xH (W.getD y []) x).getD 0=v;rw[aj,e];show(xH row x).getD 0=v;rw[rZ (nd y row e) n]
 rfl
section
variable {W:Rows} {ms:List Nat} {n:Nat}
end
def jR{W:Rows}(G:Good W):(∀ t∈kN W,(nxt W (nxt W t)).2=t.1)/\(kN W).length+12=6*W.length:=by
 have S:=(Wb.of G).toNb;refine⟨λ t b=>?_,by rw[yM];exact G.tot⟩;obtain⟨x,y⟩:=t;obtain⟨z,r,a,_⟩:=uH S (mem_steps.mp b);rw[a];exact kMS G.nd (G.tri _ _ _ r)
def kFB{W:Rows}{top b st:List Nat}{pl:Nat}(h:stF W top b pl=some st) :
  ∃ B f M l C,st=f::M++[l]/\top=B++(f::M++[l])++C/\(∀ q∈st,q∈b/\q∈W.getD pl [])/\∀ t∈st.zip st.tail,(nxt W t).2=pl:=by
 unfold stF at h;dsimp only at h;by_cases d:(top.filter λ q=>decide (q∈b.filter λ q=>decide (q∈W.getD pl []))).length<2\/(top.filter λ q=>decide (q∈b.filter λ q=>decide (q∈W.getD pl []))).length≠(b.filter λ q=>decide (q∈W.getD pl [])).length
 ·rw[if_pos d]at h
  cases h
 rw[if_neg d]at h
 split at h
 ·cases h
 rename_i c
 split at h
 ·rename_i c3
  have h:=bq h;have c:=Decidable.not_not.mp c;rw[h]at d c c3
  have mem:∀ q∈st,q∈b/\q∈W.getD pl []:=λ q j=>by
   rw[<-h]at j;have:=of_decide_eq_true (iX.mp j).2;exact⟨(iX.mp this).1,of_decide_eq_true (iX.mp this).2⟩
  have len:2<=st.length:=by omega
  obtain⟨f,r,i⟩ : ∃ a r,st=a::r:=by
   match st,len with
   | a::r,_=>exact⟨a,r,rfl⟩
  have g:r≠[]:=λ z=>by rw[i,z]at len;simp at len
  refine⟨top.take (top.idxOf (st.headD 0)),f,r.dropLast,r.getLast g,(top.drop (top.idxOf (st.headD 0))).drop st.length,?_,?_,mem,λ t m=>of_decide_eq_true (wo.mp c3 t m)⟩
  ·rw[i,ji,eN g]
  ·rw[ji,eN g,<-i]
   have n:top.drop (top.idxOf (st.headD 0))=st++(top.drop (top.idxOf (st.headD 0))).drop st.length:=by
    conv=>lhs;rw[<-gk st.length (top.drop (top.idxOf (st.headD 0))),c]
   rw[bp,<-n,gk]
 ·cases h
def kEH{B:List Nat}{x:Nat}{C:List Nat}(h:x∉B):(B++x::C).idxOf x=B.length:=by
 have:=kGR (m:=id) (B:=B) (x:=x) (C:=C) λ b a e=>h (by rw[<-(show b=x from e)];exact a);simpa using this
def xC{top B M C:List Nat}{f l pl:Nat}(e:top=B++(f::M++[l])++C)(nd:top.Nodup):poF top (f::M++[l]) pl=B++[f,pl,l]++C:=by
 subst e;have n:=cu.mp nd;have a:=cu.mp n.1;have p:=cu.mp a.2.1;have q:f∉B:=λ h=>a.2.2 f h f (by simp) rfl
 have i:l∉B++(f::M):=λ h=>by
  rcases cf.mp h with z | z
  ·exact a.2.2 l z l (by simp) rfl
  ·exact p.2.2 l z l (by simp) rfl
 have c:B++(f::M++[l])++C=B++f::(M++[l]++C):=by simp
 have b:B++(f::M++[l])++C=(B++f::M)++l::C:=by simp
 have j:(B++(f::M++[l])++C).idxOf f=B.length:=by rw[c];exact kEH q
 have o:(B++(f::M++[l])++C).idxOf l=(B++f::M).length:=by rw[b];exact kEH i
 unfold poF;have m:(f::M++[l]).getLastD 0=l:=by rw[kh,jj];rfl
 rw[show(f::M++[l]).headD 0=f from rfl,m,j,o]
 have d:(B++(f::M++[l])++C).take (B.length+1)=B++[f]:=by
  rw[c,show B++f::(M++[l]++C)=(B++[f])++(M++[l]++C) by simp,yj (by simp)]
 have g:(B++(f::M++[l])++C).drop (B++f::M).length=l::C:=by rw[b,Ci rfl]
 rw[d,g];simp
structure Top(W:Rows)(some top:List Nat):Prop where
 nd:top.Nodup
 sub:∀ x∈top,x∈some
 path:∀ x y,Adj top x y->E W x y
def Top.step{W:Rows}{c top st:List Nat}{pl:Nat}(T:Top W c top)(sym:∀ a b,E W a b->E W b a)(r:pl∉c)(h:stF W top c pl=some st) :
  Top W (c++[pl]) (poF top st pl)/\(∀ x∈st,x∈top)/\st≠[]/\∀ t∈st.zip st.tail,E W t.1 t.2:=by
 obtain⟨B,f,M,l,C,rfl,n,mem,nx⟩:=kFB h;have nd:=T.nd;rw[xC n nd];have d:=T.path;have sub:=T.sub;rw[n]at nd d sub
 have o:∀ q,q∈f::M++[l]->E W pl q:=λ q D=>by
  have:=(mem q D).2;rw[aj]at this
  cases e:W[pl]? with
  | none=>rw[e]at this;cases this
  | some row=>rw[e]at this;exact⟨row,e,this⟩
 have j:=cu.mp nd;have m:=cu.mp j.1;have u:=cu.mp m.2.1;have all:∀ x∈B++(f::M++[l])++C,x≠pl:=λ x g e=>r (by rw[<-e];exact sub x g);refine⟨⟨?_,λ x g=>?_,λ x y ad=>?_⟩,λ x g=>by rw[n];exact dc _ (cm _ g),by simp,λ t p=>?_⟩
 ·have A:f≠l:=u.2.2 f (by simp) l (by simp)
  have h1:B.Nodup:=m.1;have s:C.Nodup:=j.2.1;refine cu.mpr ⟨cu.mpr ⟨h1,?_,λ x g y i=>?_⟩,s,λ x g y i=>?_⟩
  ·have a:=all f (by simp)
   have b:=all l (by simp);simp[a,A,b.symm]
  ·simp only[eK,si,or_false]at i
   rcases i with rfl | rfl | rfl
   ·exact m.2.2 x g _ (by simp)
   ·exact all x (by simp[g])
   ·exact m.2.2 x g _ (by simp)
  ·rcases cf.mp g with z | z
   ·exact j.2.2 x (dc _ z) y i
   ·simp only[eK,si,or_false]at z
    rcases z with rfl | rfl | rfl
    ·exact j.2.2 _ (by simp) y i
    ·exact λ e=>all y (by simp[i]) e.symm
    ·exact j.2.2 _ (by simp) y i
 ·rcases cf.mp g with z | z
  ·rcases cf.mp z with z | z
   ·exact dc _ (sub x (by simp[z]))
   ·simp only[eK,si,or_false]at z
    rcases z with rfl | rfl | rfl
    ·exact dc _ (sub _ (by simp))
    ·simp
    ·exact dc _ (sub _ (by simp))
  ·exact dc _ (sub x (by simp[z]))
 ·have v:B++[f,pl,l]++C=B++f::(pl::(l::C)):=by simp
  have p1:B++(f::M++[l])++C=B++f::(M++l::C):=by simp
  have p2:B++(f::M++[l])++C=(B++f::M)++l::C:=by simp
  rw[v,jB]at ad;rcases ad with z | z
  ·exact d x y (by rw[p1,jB];exact .inl z)
  ·rw[cP]at z
   rcases z with⟨rfl,rfl⟩ | z
   ·exact sym _ _ (o _ (by simp))
   ·rw[cP]at z
    rcases z with⟨rfl,rfl⟩ | z
    ·exact o _ (by simp)
    ·exact d x y (by rw[p2,jB];exact .inr z)
 ·obtain⟨a,b⟩:=t
  have ad:=bJ p;have e:f::M++[l]++C=(f::M)++l::C:=by simp
  have this:Adj (f::(M++l::C)) a b:=by
   have:Adj ((f::M)++l::C) a b:=by
    rw[jB];exact .inl ad
   exact this
  refine d a b ?_;rw[show B++(f::M++[l])++C=B++f::(M++l::C) by simp,jB];exact .inr this
theorem wW{W:Rows}{ms:List Nat}{i:Nat}(h:goF W ms i=none):∀ j,goF W ms (i+j)=none
 | 0=>h
 | j+1=>by
  have:=wW h j;show goF W ms (i+j+1)=none;unfold goF;rw[this]
def jX(W:Rows)(a b c:Nat)(ms:List Nat):Option (List (List Nat)×List (List Nat)) :=
 if ms[0]?=some a/\ms[1]?=some b/\ms.getLast?=some c then goF W ms (ms.length-2) else none
def uX{W:Rows}{ms:List Nat}{i:Nat}{fs ts:List (List Nat)}(h:goF W ms i=some (fs,ts))(z:stF W (ts.getLastD []) (ms.take (i+2)) (ms.getD (i+2) 0)=none):goF W ms (i+1)=none:=by
 unfold goF;rw[h];dsimp only;rw[z]
def vK{W:Rows}{ms:List Nat}{i:Nat}{fs ts:List (List Nat)}{st:List Nat}(h:goF W ms i=some (fs,ts))(z:stF W (ts.getLastD []) (ms.take (i+2)) (ms.getD (i+2) 0)=some st):goF W ms (i+1)=some (fs++[st],ts++[poF (ts.getLastD []) st (ms.getD (i+2) 0)]):=by
 unfold goF;rw[h];dsimp only;rw[z]
def jT{α:Type}(l:List (List α))(x:List α):(l++[x]).getLastD []=x:=by
 rw[kh,jj]
 rfl
def Top.len{W:Rows}{some top:List Nat}(T:Top W some top):top.length<=some.length:=eY T.nd T.sub
end Tri
namespace L2
open PySem PySem.Spec PyProof.Rows
def mY:entryFor table "dict_itemiterator.__iter__" = some zo.«dict_keyiterator.__iter__»:=by first | (rw[<-F.entry_dict_keyiterator_iter];rfl) | kernel_rfl | rfl | decide +kernel
section
variable {prog:fb} {w:iI} {A:fq} {E:ar->ay->Prop} {s:ay}
def nW{it d:av}{i n ep:Nat}{ok b:ar}{Q:ar->ay->Prop}(c:IsItemIter s.heap it d i n ep ok b)(h:Q (.ref it) s):dr (model prog w) A (pyIter (.ref it)) Q E s:=by
 have a:s.TypeIs (.ref it) "dict_itemiterator":=⟨_,c,rfl⟩;refine wpAny_pyIter_slot a Aq (mo Aq a mY ?_ (F.args_dict_itemiterator_iter_1 _));show dr _ _ (ret (.ref it)) _ _ s;exact bj ⟨_,rfl,"dict_itemiterator",_,a,F.slot_dict_itemiterator_next.lookup,h⟩
end
def kTH{P:fb}{w:iI}{k:Key}{u:ar}(h:(qG P w).is k u=true):RelV (kV k) u:=by
 rw[kEB]at h;rcases qX h with⟨i,t,rfl,rfl⟩ | ⟨x,t,rfl,rfl⟩
 ·exact⟨t,rfl⟩
 ·exact⟨t,rfl⟩
def Itm(d:av)(o:Obj):It :=
 ⟨λ i H=>∃ a b,H d=some (.frz o (.dK a))/\a[i]?=some b,λ i H v c=>∃ T b,H T=none/\v=.ref T/\(∀ a,H d=some (.frz o (.dK a))->a[i]?=some b)/\c=upd H T (.tup [kV b.1,b.2]),λ i H=>∃ a,H d=some (.frz o (.dK a))/\a.length=i⟩
def kEJ{P:fb}{w:iI}{H:Hp}{h:iO}{d:av}{o:Obj}{b:Array CB}{ep:Nat}{kvs:List (Key×V)}(ok:HOk P w H h)(e:H d=some (.frz o (.dK kvs)))(f:o.data=.dict b ep):∃ vs,KV kvs vs/\h.DictAt (qG P w) d vs ep/\vs.length=b.size:=by
 obtain⟨i,_,_,vs,c,m,j,l,g,x,a,k,p,nd⟩:=ok d _ e;rw[i]at g;cases g
 rw[f]at a;injection a with z1 z2
 subst z1;subst z2;exact⟨vs,c,⟨o,b,i,x,f,k,p,nd⟩,by rw[<-p.length];simp⟩
def KV.at'{kvs:List (Key×V)}{c:List (Key×ar)}(r:KV kvs c){i:Nat}{a:Key×V}{p:Key×ar}(h1:kvs[i]?=some a)(b:c[i]?=some p):a.1=p.1/\RelV a.2 p.2:=by
 induction r generalizing i with
 | nil=>simp at h1
 | cons h t ih =>
  cases i with
  | zero =>
   simp at h1 b;subst h1;subst b;exact h
  | succ i=>exact ih (by simpa using h1) (by simpa using b)
def kCW{P:fb}{w:iI}{K:az}{B:List iS} {x1} {N:Pos} (d it:av) (o:Obj) {es:Array CB} {ep:Nat} (T:o.data=.dict es ep):Turn P w K (.Tuple B x1 N) (Itm d o) [it] it (λ i h=>∃ ok ov,IsItemIter h it d i es.size ep ok ov) where
 mem:=by simp
 obj:=λ i h st b c=>by
  obtain⟨ok,ov,a⟩:=st;rw[bz.mp c];exact⟨_,a,λ v z=>by cases z⟩
 keep:=λ i h h' st kk=>by
  obtain⟨ok,ov,a⟩:=st;exact⟨ok,ov,kk it (by simp) _ a⟩
 item:=by
  intro X J L O hc i l s σ H E I Q st U;subst J L O;obtain⟨ok,ov,a⟩:=st;obtain⟨m,Z,C,Y⟩:=U;obtain⟨M,f,dd,D⟩:=kEJ I.hok C T;have hi:i<m.length:=(ao.mp Y).1;obtain⟨⟨k',u⟩,hu⟩ : ∃ p,M[i]?=some p:=⟨M[i]'(by rw[<-f.length];exact hi),ae _⟩;have g:=f.at' Y hu;rw[<-D]at a;refine wpAny_pyNext_items_item a dd hu λ key h' n ho hT hz hk=>?_;refine⟨_,rfl,wpAny_letOwnedTupleGo_items ho λ h2 G j=>?_⟩;have r:it<s.heap.objs.size:=cg a;have S:h2.get? s.heap.objs.size=some {cls:=.type "tuple",data:=.seq #[key,u]}:=j.extBut _ _ (jc r) hT
  obtain⟨I2,n2⟩:=I.handed (x:=kV Z.1) (y:=Z.2) (u:=key) (v:=u) (t':=s.toks) (ch:=[it]) (by rw[g.1];exact kTH n) g.2 S (λ b o c q=>j.extBut b o (λ z=>c (by simp[z])) (hk b o (λ z=>c (by simp[z])) q)) Q
   (λ b c=>by rw[bz.mp c];exact r)
  refine⟨.ref s.heap.objs.size,_,I2,rfl,⟨_,Z,I.hok.fresh (be _),rfl,λ ks A=>?_,rfl⟩,⟨_,_,by rw[<-D];exact G⟩,n2⟩;rw[C]at A;cases A
  exact Y
 done:=by
  intro X J L O hc i l s σ H E I Q st U;subst J L O;obtain⟨ok,ov,a⟩:=st;obtain⟨m,C,hl⟩:=U;obtain⟨M,f,dd,D⟩:=kEJ I.hok C T;rw[<-D]at a;refine wpAny_pyNext_items_end (I.ok.hd hc) a dd (uh (by rw[<-f.length,hl];exact be _)) λ h' eb=>⟨rfl,I.turnedL (t':=s.toks) (ch:=[it]) (λ b o c q=>eb b o (λ z=>c (by simp[z])) q) λ b c=>Q b c⟩
 self:=λ _ _ _ _ _ st h=>by
  obtain⟨ok,ov,a⟩:=st;exact nW a h
section
variable {X:Cx}
inductive kGS(R:It->Hp->Prop)(x:V)(H1:Hp):Prop
 | mk:∀ d kvs,(x=.ref d)->(((H1 d=some (.dK kvs)/\∀ o,R (Itm d o) (upd H1 d (.frz o (.dK kvs))))\/∃ o,H1 d=some (.frz o (.dK kvs))/\R (Itm d o) H1))->kGS R x H1
def kTK(c:TE):TI:=λ b H R=>c b H λ x a=>kGS R x a
def kAY{o:iS}{Z:TE}{j i y:Pos}{G:List iS} {x1} (ho:PE X o Z)
  (l:attributeBase o "items" X.env (eval o X.env)=eval o X.env:=by rfl) (n:(j.endLine == i.line)=true:=by rfl):PI X (.Tuple G x1 y) (.Call (.Attribute o "items" j) [] [] i) (kTK Z):=by
 intro f s Y H R I h;refine wpAny_Call_method0_late l n (thn (ho f s Y H _ I h) λ v c ⟨x,H1,M,r1,d,m,ex,q1⟩=>?_);subst ex;obtain rfl:v=jz d:=r1
 have fr:∃ a D,Inv X f Y D c/\D d=some (.frz a (.dK m))/\R (Itm d a) D:=by
  rcases q1 with⟨e,q⟩ | ⟨a,e,q⟩
  ·obtain⟨z,O,A,B,p⟩:=kOD M.hok e
   obtain⟨a,es,L,h1,r⟩:=id p;exact⟨a,_,aI (t':=c.toks) (ob:=.frz a (.dK m)) M (by rw[e];exact so) ⟨rfl,λ _ _=>rfl⟩ ⟨a,h1⟩ ⟨h1,z,O,A,B,p⟩,kA,q a⟩
  ·exact⟨a,H1,M,e,q⟩
 obtain⟨a,D,J,T,hR⟩:=fr;obtain⟨h1,z,O,a0,S,Q⟩:=J.hok d _ T;obtain⟨a1,es,L,C,N,g,_⟩:=id Q;rw[h1]at C
 cases C
 obtain⟨A,B,p,lv⟩:=kEJ J.hok T g;have U:=p.dictOf.typeIs (s:=c);refine⟨"dict","dict.items",F.plainAttrs_dict,Dx,F.type_dict_items,U,λ b q=>?_,?_⟩
 ·cases q
  exact⟨a,h1,N.2.1⟩
 refine CP rfl (PySem.evalArgs_none (call_meetsIn Dx U F.entry_dict_items (F.args_dict_items_1 _) (meets_dict_items (qG X.prog X.w) d O) ⟨⟨A,p.dictOf⟩,?_⟩));refine wpAny_pyIter_items (knd:=qG X.prog X.w) (v:=c.heap.objs.size) (d:=d) (kvs:=A) (ep:=L) ⟨_,cj _ rfl,rfl,rfl⟩ (p.push _) ?_;have hk:∀ b u,c.heap.get? b=some u->((c.heap.push {cls:=.type "dict_items",data:=.fields #[.ref d]}).push {cls:=.type "dict_itemiterator",data:=.fields #[.none,.bool false,.ref d,.int 0 0,.int A.length 0,.int L 0,.none,.none]}).get? b=some u:=λ b u e=>au _ (au _ e);have hz:(c.heap.push {cls:=.type "dict_items",data:=.fields #[.ref d]}).objs.size=c.heap.objs.size+1:=ip ..;refine⟨_,[(c.heap.push {cls:=.type "dict_items",data:=.fields #[.ref d]}).objs.size],_,_,D,rfl,J.kept (t':=c.toks) hk,kCW d _ a g,⟨.none,.none,?_⟩,λ b hb=>?_,hR⟩
 ·rw[<-lv]
  exact cj _ rfl
 ·rw[bz.mp hb,hz]
  exact J.fpOk (by omega) (J.hok.fresh (by omega))
end
def gM{d:av}{o:Obj}{kvs:List (Key×V)}{g:TG}{bd:TB}{f:St->Hp->Prop}{a:St}{H:Hp}(Pv:Nat->St->Hp->Prop)(h0:Pv 0 a H)(l:∀ i a H,i<=kvs.length->Pv i a H->H d=some (.frz o (.dK kvs)))
  (r:∀ i kv T a H,kvs[i]?=some kv->H T=none->Pv i a H->g (.ref T) a (upd H T (.tup [kV kv.1,kv.2])) λ σ2 H2=>bd (Pv (i+1)) σ2 H2) (h:∀ a H,Pv kvs.length a H->f a H):uG (Itm d o) g bd f a H:=by
 refine⟨λ i m a H=>m=kvs.length-i/\i<=kvs.length/\Pv i a H,⟨kvs.length,by simp,iG _,h0⟩,?_⟩;rintro i m a H ⟨rfl,c,p⟩;have b:=l i a H c p;by_cases j:i<kvs.length
 ·refine .inr ⟨⟨kvs,kvs[i],b,by simp[j]⟩,Pv (i+1),λ s u q=>⟨kvs.length-(i+1),by omega,rfl,by omega,q⟩,λ x u n=>?_⟩
  obtain⟨T,kv,v,rfl,y,rfl⟩:=n;exact r i kv T a H (y kvs b) v p
 ·have:i=kvs.length:=by omega
  subst this;exact .inl ⟨⟨kvs,b,rfl⟩,h a H p⟩
end L2
namespace Tri
open Cyc Rnd
def kLE{W:Rows}{top b a:List Nat}{pl:Nat}(p:b.Perm a):stF W top b pl=stF W top a pl:=by
 have c:(b.filter λ q=>decide (q∈W.getD pl [])).Perm (a.filter λ q=>decide (q∈W.getD pl [])):=p.filter _
 have d:(top.filter λ q=>decide (q∈b.filter λ q=>decide (q∈W.getD pl [])))=top.filter λ q=>decide (q∈a.filter λ q=>decide (q∈W.getD pl [])):=by
  refine List.filter_congr λ q _=>?_;rw[iL,decide_eq_true_iff,decide_eq_true_iff];exact c.mem_iff
 unfold stF;dsimp only;rw[d,c.length_eq]
def kRO(fs ts b a:List (List Nat)):Option (List (List Nat)×List (List Nat))->Option (List (List Nat)×List (List Nat))->Prop
 | none,none=>True
 | some (f,t),some (f',t')=>∃ X Y,f=fs++X/\f'=b++X/\t=ts++Y/\t'=a++Y/\t.getLastD []=t'.getLastD []
 | _,_=>False
theorem kGT{W:Rows}{ms ms':List Nat}{i:Nat}{fs ts d c:List (List Nat)}(h:goF W ms i=some (fs,ts))(h':goF W ms' i=some (d,c))(lst:ts.getLastD []=c.getLastD [])(p:(ms.take (i+2)).Perm (ms'.take (i+2)))(g:∀ j,i+2<=j->ms[j]?=ms'[j]?) :
  ∀ j,kRO fs ts d c (goF W ms (i+j)) (goF W ms' (i+j))
 | 0=>by
  rw[CV,h,h'];exact⟨[],[],by simp,by simp,by simp,by simp,lst⟩
 | j+1=>by
  have l:=kGT h h' lst p g j
  have A:(ms.take (i+j+2)).Perm (ms'.take (i+j+2)):=by
   have:∀ k,(ms.take (i+2+k)).Perm (ms'.take (i+2+k)):=λ k=>by
    induction k with
    | zero=>exact p
    | succ k ihk =>
     rw[show i+2+(k+1)=i+2+k+1 by omega,iq,iq,g (i+2+k) (by omega)];exact ihk.append_right _
   have:=this j;rwa[show i+2+j=i+j+2 by omega]at this
  have n:ms.getD (i+j+2) 0=ms'.getD (i+j+2) 0:=by
   rw[aj,aj,g (i+j+2) (by omega)]
  show kRO fs ts d c (goF W ms (i+j+1)) (goF W ms' (i+j+1))
  cases e:goF W ms (i+j) with
  | none =>
   cases e':goF W ms' (i+j) with
   | none =>
    have a:=wW e 1;have b:=wW e' 1;rw[a,b];exact trivial
   | some y=>rw[e,e']at l;exact l.elim
  | some x =>
   cases e':goF W ms' (i+j) with
   | none=>rw[e,e']at l;exact l.elim
   | some y =>
    rw[e,e']at l;obtain⟨f,t⟩:=x;obtain⟨C,q⟩:=y;obtain⟨X,Y,B,v,r,u,o⟩:=l
    have m:stF W (t.getLastD []) (ms.take (i+j+2)) (ms.getD (i+j+2) 0)=stF W (q.getLastD []) (ms'.take (i+j+2)) (ms'.getD (i+j+2) 0):=by
     rw[o,n];exact kLE A
    cases s:stF W (t.getLastD []) (ms.take (i+j+2)) (ms.getD (i+j+2) 0) with
    | none =>
     rw[uX e s,uX e' (by rw[<-m];exact s)];exact trivial
    | some st =>
     rw[vK e s,vK e' (by rw[<-m];exact s),o,n];refine⟨X++[st],Y++[poF (q.getLastD []) st (ms'.getD (i+j+2) 0)],by rw[B];simp,by rw[v];simp,by rw[r];simp,by rw[u];simp,?_⟩;rw[jT,jT]
def wO{W:Rows}{top a st:List Nat}{pl:Nat}(nd:top.Nodup)(h:stF W top a pl=some st) :
  ∃ B f M l C,st=f::M++[l]/\top=B++(f::M++[l])++C/\(∀ q,q∈st↔q∈a/\q∈W.getD pl [])/\∀ t∈st.zip st.tail,(nxt W t).2=pl:=by
 obtain⟨B,f,M,l,C,i,g,mem,nx⟩:=kFB h;refine⟨B,f,M,l,C,i,g,λ q=>⟨mem q,λ d=>?_⟩,nx⟩
 have snd:st.Nodup:=by
  rw[g]at nd;rw[i];exact(cu.mp (cu.mp nd).1).2.1
 have len:st.length=(a.filter λ q=>decide (q∈W.getD pl [])).length:=by
  unfold stF at h;dsimp only at h;by_cases b:(top.filter λ q=>decide (q∈a.filter λ q=>decide (q∈W.getD pl []))).length<2\/(top.filter λ q=>decide (q∈a.filter λ q=>decide (q∈W.getD pl []))).length≠(a.filter λ q=>decide (q∈W.getD pl [])).length
  ·rw[if_pos b]at h
   cases h
  rw[if_neg b]at h
  split at h
  ·cases h
  split at h
  ·have h:=bq h
   rw[h]at b;omega
  ·cases h
 by_cases c:q∈st
 ·exact c
 ·exfalso
  have:=eY (fu.mpr ⟨c,snd⟩) (l₂:=a.filter λ q=>decide (q∈W.getD pl [])) λ x j=>by
   rcases eK.mp j with rfl | z
   ·exact iX.mpr ⟨d.1,decide_eq_true d.2⟩
   ·exact iX.mpr ⟨(mem x z).1,decide_eq_true (mem x z).2⟩
  rw[iQ]at this;omega
def wN{W:Rows}{top a B M C:List Nat}{f l pl:Nat}(nd:top.Nodup)(g:a.Nodup)(e:top=B++(f::M++[l])++C)(sub:∀ q∈top,q∈a)(mem:∀ q,q∈f::M++[l]↔q∈a/\q∈W.getD pl [])(nx:∀ t∈(f::M++[l]).zip (f::M++[l]).tail,(nxt W t).2=pl) :
  stF W top a pl=some (f::M++[l]):=by
 have c:=nd;rw[e]at c;have m:=cu.mp c;have i:=cu.mp m.1
 have b:∀ q,q∈(a.filter λ q=>decide (q∈W.getD pl []))↔q∈f::M++[l]:=λ q=>by
  rw[iX,decide_eq_true_iff,mem]
 have s:(a.filter λ q=>decide (q∈W.getD pl [])).Perm (f::M++[l]):=(ug (g.filter _) i.2.1).mpr b
 have n:(top.filter λ q=>decide (q∈a.filter λ q=>decide (q∈W.getD pl [])))=f::M++[l]:=by
  have v:(λ q=>decide (q∈a.filter λ q=>decide (q∈W.getD pl [])))=λ q=>decide (q∈f::M++[l]):=by
   funext q
   rw[iL,decide_eq_true_iff,decide_eq_true_iff,b]
  rw[v,e,tz,tz];have j:B.filter (λ q=>decide (q∈f::M++[l]))=[]:=AQ.mpr λ q d h=>i.2.2 q d q (of_decide_eq_true h) rfl;have p:C.filter (λ q=>decide (q∈f::M++[l]))=[]:=AQ.mpr λ q d h=>m.2.2 q (cm _ (of_decide_eq_true h)) q d rfl;rw[j,p,DI.mpr λ q d=>decide_eq_true d];simp
 have u:(f::M++[l]).length=M.length+2:=by simp
 have j:f∉B:=λ h=>i.2.2 f h f (by simp) rfl
 have o:top.idxOf f=B.length:=by
  rw[e,show B++(f::M++[l])++C=B++f::(M++[l]++C) by simp];exact kEH j
 unfold stF;dsimp only;rw[n,s.length_eq,if_neg (by rw[u];omega),if_neg,if_pos]
 ·exact wo.mpr λ t r=>decide_eq_true (nx t r)
 ·intro h
  refine h ?_;rw[show(f::M++[l]).headD 0=f from rfl,o,e,bp,Ci rfl,yj rfl]
def tO{A B C D:List Nat}{u:Nat}(e:A++u::B=C++u::D)(h1:u∉A)(b:u∉C):A=C/\B=D:=by
 induction A generalizing C with
 | nil =>
  cases C with
  | nil=>simp at e;exact⟨rfl,e⟩
  | cons c C =>
   injection e with e1 e2
   exact absurd (show u∈c::C by rw[e1];exact eW ..) b
 | cons a A ih =>
  cases C with
  | nil =>
   injection e with e1 e2
   exact absurd (show u∈a::A by rw[<-e1];exact eW ..) h1
  | cons c C =>
   injection e with e1 e2
   obtain⟨d,f⟩:=ih e2 (λ z=>h1 (dh _ z)) (λ z=>b (dh _ z));rw[e1,d];exact⟨rfl,f⟩
def kDZ{l:List Nat}{u:Nat}(h:l.Nodup)(n:u∉l):(l++[u]).Nodup:=by
 rw[cu];exact⟨h,by simp,λ a d b c=>by rw[bz.mp c];exact λ z=>n (z ▸ d)⟩
def kGN{A B:List Nat}{x y:Nat}(h:A++[x]=B++[y]):A=B/\x=y:=by
 have:=List.append_inj' h rfl;exact⟨this.1,by simpa using this.2⟩
def kJS{W:Rows}{T c G U:List Nat}{u v:Nat}(TT:Top W c T)(x:c.Nodup)(sym:∀ a b,E W a b->E W b a)(hu:u∉c)(hv:v∉c)(uv:u≠v)(a0:u∉W.getD v [])(Z:v∉W.getD u [])(s1:stF W T c u=some G)(s2:stF W (poF T G u) (c++[u]) v=some U) :
  stF W T c v=some U/\stF W (poF T U v) (c++[v]) u=some G/\poF (poF T U v) G u=poF (poF T G u) U v:=by
 have T1:=(TT.step sym hu s1).1;obtain⟨B,f,M,l,C,rfl,eT,mu,nu⟩:=wO TT.nd s1;have p1:=xC (pl:=u) eT TT.nd;obtain⟨j,g,N,h,o,rfl,i,mv,nv⟩:=wO T1.nd s2;have O:=T1.nd;have p2:=xC (pl:=v) i O;have us:u∉g::N++[h]:=λ z=>a0 ((mv u).mp z).2
 have J:∀ q,q∈g::N++[h]↔q∈c/\q∈W.getD v []:=λ q=>by
  constructor
  ·intro z
   obtain⟨a,b⟩:=(mv q).mp z;rcases cf.mp a with w | w
   ·exact⟨w,b⟩
   ·rw[bz.mp w]at z
    exact absurd z us
  ·rintro⟨a,b⟩
   exact(mv q).mpr ⟨dc _ a,b⟩
 have I:∀ q,q∈f::M++[l]↔q∈c++[v]/\q∈W.getD u []:=λ q=>by
  constructor
  ·intro z
   obtain⟨a,b⟩:=(mu q).mp z;exact⟨dc _ a,b⟩
  ·rintro⟨a,b⟩
   rcases cf.mp a with w | w
   ·exact(mu q).mpr ⟨w,b⟩
   ·rw[bz.mp w]at b
    exact absurd b Z
 have s:=kDZ x hv;have e1:B++[f,u,l]++C=(B++[f])++u::(l::C):=by simp
 rw[p1]at i O p2 ⊢;rw[e1]at i O;rw[p2];have uA:u∉B++[f]:=λ z=>(cu.mp O).2.2 u z u (by simp) rfl;have X:(j++(g::N++[h])++o).Nodup:=by rw[<-i];exact O
 have mem:u∈j++(g::N++[h])++o:=by rw[<-i];simp
 rcases cf.mp mem with z | z
 ·rcases cf.mp z with z | z
  ·-- the other stretch lies behind u
   obtain⟨D,n,eB⟩:=rm z;rw[eB]at X i;have Y:u∉D:=λ w=>(cu.mp (cu.mp (cu.mp X).1).1).2.2 u w u (by simp) rfl;obtain⟨p,r⟩:=tO (A:=B++[f]) (B:=l::C) (C:=D) (D:=n++(g::N++[h])++o) (u:=u) (by rw[i];simp) uA Y
   have m:T=(B++f::M++n)++(g::N++[h])++o:=by
    rw[eT,show B++(f::M++[l])++C=(B++f::M)++(l::C) by simp,r];simp
   have H:=wN TT.nd x m TT.sub J nv;have p3:=xC (pl:=v) m TT.nd;have y:=(TT.step sym hv H).1
   obtain⟨E0,Q⟩ : ∃ E0,n++[g,v,h]++o=l::E0:=by
    cases n with
    | nil =>
     have:l=g:=by
      have r:l::C=g::(N++[h]++o):=by simpa using r
      injection r
     exact⟨[v,h]++o,by rw[this];rfl⟩
    | cons d L =>
     have:l=d:=by
      have r:l::C=d::(L++(g::N++[h])++o):=by simpa using r
      injection r
     exact⟨L++[g,v,h]++o,by rw[this];rfl⟩
   have S:poF T (g::N++[h]) v=B++(f::M++[l])++E0:=by
    rw[p3,show B++f::M++n++[g,v,h]++o=(B++f::M)++(n++[g,v,h]++o) by simp,Q];simp
   have a2:=wN y.nd s S y.sub I nu;refine⟨H,a2,?_⟩;rw[xC S y.nd,show B++[f,u,l]++E0=(B++[f,u])++(l::E0) by simp,<-Q,eB,<-p];simp
  ·exact absurd z us
 ·-- the other stretch lies c of u
  obtain⟨D,n,eC⟩:=rm z;rw[eC]at X i
  have Y:u∉j++(g::N++[h])++D:=λ w=>by
   have n3:((j++(g::N++[h])++D)++u::n).Nodup:=by
    have:(j++(g::N++[h])++D)++u::n=j++(g::N++[h])++(D++u::n):=by simp
    rw[this];exact X
   exact(cu.mp n3).2.2 u w u (by simp) rfl
  obtain⟨p,r⟩:=tO (A:=B++[f]) (B:=l::C) (C:=j++(g::N++[h])++D) (D:=n) (u:=u) (by rw[i];simp) uA Y
  have m:T=j++(g::N++[h])++(D++M++(l::C)):=by
   rw[eT,show B++(f::M++[l])++C=(B++[f])++(M++l::C) by simp,p];simp
  have H:=wN TT.nd x m TT.sub J nv;have p3:=xC (pl:=v) m TT.nd;have y:=(TT.step sym hv H).1
  obtain⟨E0,Q⟩ : ∃ E0,j++[g,v,h]++D=E0++[f]:=by
   rcases List.eq_nil_or_concat D with rfl | ⟨L,d,rfl⟩
   ·have p:B++[f]=(j++g::N)++[h]:=by simpa using p
    exact⟨j++[g,v],by rw[(kGN p).2];simp⟩
   ·have p:B++[f]=(j++(g::N++[h])++L)++[d]:=by simpa using p
    exact⟨j++[g,v,h]++L,by rw[(kGN p).2];simp⟩
  have S:poF T (g::N++[h]) v=E0++(f::M++[l])++C:=by
   rw[p3,show j++[g,v,h]++(D++M++l::C)=(j++[g,v,h]++D)++(M++l::C) by simp,Q];simp
  have a2:=wN y.nd s S y.sub I nu;refine⟨H,a2,?_⟩;rw[xC S y.nd,show E0++[f,u,l]++C=(E0++[f])++(u::l::C) by simp,<-Q,eC,<-r];simp
theorem kHQ:∀{l:List Nat}{a b:Nat},Adj l a b->(a,b)∈l.zip l.tail
 | [],_,_,h=>absurd h id
 | [x],_,_,h=>absurd h id
 | x::y::l,a,b,h=>by
  rw[Ex,BW];rcases(cP x y l a b).mp h with⟨rfl,rfl⟩ | z
  ·exact eW ..
  ·exact dh _ (kHQ (l:=y::l) z)
section
variable {W:Rows} {T ahead su sv:List Nat} {u v:Nat}
end
theorem cE{W:Rows}{ms ms':List Nat}:∀{i:Nat},ms.take (i+2)=ms'.take (i+2)->goF W ms i=goF W ms' i
 | 0,h=>by
  unfold goF;rw[show ms.take 2=ms'.take 2 from h]
 | i+1,h=>by
  have h1:ms.take (i+2)=ms'.take (i+2):=by
   have:=congrArg (Fv (i+2)) h;rwa[AN,AN,kq (by omega)]at this
  have a:ms[i+2]?=ms'[i+2]?:=by
   have:=congrArg (λ l:List Nat=>l[i+2]?) h;simpa[ow (show i+2<i+1+2 by omega)] using this
  unfold goF;rw[cE h1,h1,aj,aj,a]
theorem aG{W:Rows}{ms:List Nat}(c:ms.Nodup)(sym:∀ a b,E W a b->E W b a)(h0:Top W (ms.take 2) (ms.take 2)):∀{i:Nat}{fs ts:List (List Nat)},i+2<=ms.length->goF W ms i=some (fs,ts)->Top W (ms.take (i+2)) (ts.getLastD [])
 | 0,fs,ts,_,h=>by
  unfold goF at h;have h:=bq h;injection h with h1 h2
  rw[<-h2];exact h0
 | i+1,fs,ts,hl,h=>by
  cases e:goF W ms i with
  | none =>
   have:=wW e 1;rw[show i+1=i+1 from rfl,this]at h;cases h
  | some x =>
   obtain⟨f,t⟩:=x;have g:=aG c sym h0 (by omega) e
   cases s:stF W (t.getLastD []) (ms.take (i+2)) (ms.getD (i+2) 0) with
   | none=>rw[uX e s]at h;cases h
   | some st =>
    rw[vK e s]at h;have h:=bq h;injection h with h1 h2
    have d:ms.getD (i+2) 0∉ms.take (i+2):=by
     rw[aj,ae (by omega)];intro z;obtain⟨j,l,e⟩:=eV.mp z;rw[de]at l;rw[AM]at e;have:=(AA c).mp e;omega
    have tk:ms.take (i+1+2)=ms.take (i+2)++[ms.getD (i+2) 0]:=by
     rw[show i+1+2=i+2+1 by omega,iq,aj,ae (show i+2<ms.length by omega)]
     rfl
    rw[<-h2,jT,tk];exact(g.step sym d s).1
def wE{W:Rows}{ms:List Nat}{i j:Nat}{b a:List (List Nat)}(h:goF W ms (i+j)=some (b,a)):∃ fs ts,goF W ms i=some (fs,ts):=by
 cases e:goF W ms i with
 | none=>rw[wW e j]at h;cases h
 | some x=>exact⟨x.1,x.2,rfl⟩
def zO{W:Rows}{ms:List Nat}{i:Nat}{fs ts b a:List (List Nat)}(h:goF W ms i=some (fs,ts))(h':goF W ms (i+1)=some (b,a)):∃ st,stF W (ts.getLastD []) (ms.take (i+2)) (ms.getD (i+2) 0)=some st/\b=fs++[st]/\a=ts++[poF (ts.getLastD []) st (ms.getD (i+2) 0)]:=by
 cases s:stF W (ts.getLastD []) (ms.take (i+2)) (ms.getD (i+2) 0) with
 | none=>rw[uX h s]at h';cases h'
 | some st =>
  rw[vK h s]at h';have h':=bq h';injection h' with h1 h2
  exact⟨st,rfl,h1.symm,h2.symm⟩
def yG{W:Rows}{ms:List Nat}:∀{i:Nat}{fs ts:List (List Nat)},goF W ms i=some (fs,ts)->fs.length=i/\ts.length=i+1:=by
 intro i
 induction i with
 | zero =>
  intro fs ts h;unfold goF at h;have h:=bq h;injection h with h1 h2
  rw[<-h1,<-h2];exact⟨rfl,rfl⟩
 | succ i ih =>
  intro fs ts h;obtain⟨f,t,e⟩:=wE (i:=i) (j:=1) h;obtain⟨st,_,b,a⟩:=zO e h;obtain⟨p,q⟩:=ih e;rw[b,a,bu,bu,p,q];exact⟨rfl,rfl⟩
structure Swp(ms ms':List Nat)(i:Nat):Prop where
 len:ms'.length=ms.length
 lt:i+3<ms.length
 ahead:ms.take (i+2)=ms'.take (i+2)
 one:ms'.getD (i+2) 0=ms.getD (i+3) 0
 two:ms'.getD (i+3) 0=ms.getD (i+2) 0
 behind:∀ j,i+4<=j->ms[j]?=ms'[j]?
def take_one{ms:List Nat}{k:Nat}(h:k<ms.length):ms.take (k+1)=ms.take k++[ms.getD k 0]:=by
 rw[iq,aj,ae h]
 rfl
def xD{ms:List Nat}(a:ms.Nodup){k j:Nat}(h:k<=j)(c:j<ms.length):ms.getD j 0∉ms.take k:=by
 rw[aj,ae c];intro z;obtain⟨m,b,e⟩:=eV.mp z;rw[de]at b;rw[AM]at e;have:=(AA a).mp e;omega
def Swp.perm{ms ms':List Nat}{i:Nat}(s:Swp ms ms' i):(ms.take (i+2+2)).Perm (ms'.take (i+2+2)):=by
 have l:=s.lt;have a:=s.len;rw[show i+2+2=i+2+1+1 by omega,take_one (show i+2+1<ms.length by omega),take_one (show i+2<ms.length by omega),take_one (show i+2+1<ms'.length by omega),take_one (show i+2<ms'.length by omega),<-s.ahead,s.one,show i+2+1=i+3 by omega,s.two];rw[bp,bp];exact(DA _ _ _).append_left _
def kIJ{W:Rows}{ms ms':List Nat}{i j:Nat}{u r:List (List Nat)}(c:ms.Nodup)(sym:∀ a b,E W a b->E W b a)(h0:Top W (ms.take 2) (ms.take 2))(s:Swp ms ms' i)(M:ms.getD (i+2) 0∉W.getD (ms.getD (i+3) 0) [])(n2:ms.getD (i+3) 0∉W.getD (ms.getD (i+2) 0) [])(h:goF W ms (i+2+j)=some (u,r)) :
  ∃ fs ts su sv T1 T1' T2 X Y,fs.length=i/\ts.length=i+1/\u=fs++[su,sv]++X/\r=ts++[T1,T2]++Y/\goF W ms' (i+2+j)=some (fs++[sv,su]++X,ts++[T1',T2]++Y):=by
 have lt:=s.lt;obtain⟨D,a0,m⟩:=wE (i:=i+2) h;obtain⟨C,J,l⟩:=wE (i:=i+1) (j:=1) m;obtain⟨fs,ts,g⟩:=wE (i:=i) (j:=1) l;obtain⟨su,I,S,q⟩:=zO g l;obtain⟨sv,v,U,p⟩:=zO (i:=i+1) l m;have TT:=aG c sym h0 (by omega) g;rw[q,jT,show i+1+2=i+2+1 by omega,take_one (show i+2<ms.length by omega),show i+2+1=i+3 by omega]at v;rw[q,jT,show i+1+2=i+3 by omega]at p;have nd2:(ms.take (i+2)).Nodup:=c.sublist (wz _ _)
 have B:ms.getD (i+2) 0≠ms.getD (i+3) 0:=λ z=>xD c (k:=i+3) (j:=i+3) (be _) lt (by
  rw[<-z,show i+3=i+2+1 by omega,take_one (show i+2<ms.length by omega)];simp)
 obtain⟨H,N,T⟩:=kJS TT nd2 sym (xD c (be _) (by omega)) (xD c (by omega) lt) B M n2 I v;have n:goF W ms' i=some (fs,ts):=by rw[<-cE s.ahead];exact g
 have o:=vK n (by rw[<-s.ahead,s.one];exact H)
 have f:=vK (i:=i+1) (st:=su) o (by
  rw[jT,show i+1+2=i+2+1 by omega,take_one (show i+2<ms'.length by rw[s.len];omega),show i+2+1=i+3 by omega,<-s.ahead,s.one,s.two];exact N)
 rw[jT,s.one,show i+1+2=i+3 by omega,s.two,T]at f;have d:=kGT (i:=i+2) m f (by rw[p,jT,jT]) s.perm (λ k hk=>s.behind k (by omega)) j;rw[h]at d;obtain⟨L,lt'⟩:=yG g
 cases e':goF W ms' (i+2+j) with
 | none=>rw[e']at d;exact d.elim
 | some y =>
  rw[e']at d;obtain⟨Q,A⟩:=y;obtain⟨X,Y,x,G,Z,O,_⟩:=d;refine⟨fs,ts,su,sv,poF (ts.getLastD []) su (ms.getD (i+2) 0),poF (ts.getLastD []) sv (ms.getD (i+3) 0),poF (poF (ts.getLastD []) su (ms.getD (i+2) 0)) sv (ms.getD (i+3) 0),X,Y,L,lt',?_,?_,?_⟩
  ·rw[x,U,S]
   simp only[bp,ji,kb]
  ·rw[Z,p]
   simp only[bp,ji,kb]
  ·rw[G,O]
   simp only[bp,ji,kb]
def exN(ms:List Nat)(k:Nat):List Nat:=ms.take k++[ms.getD (k+1) 0,ms.getD k 0]++ms.drop (k+2)
section
variable {ms:List Nat} {k:Nat}
def kJW(h:k+1<ms.length):ms=ms.take k++[ms.getD k 0,ms.getD (k+1) 0]++ms.drop (k+2):=by
 have b:=take_one (ms:=ms) (k:=k) (by omega);have a:=take_one (ms:=ms) (k:=k+1) h
 conv=>lhs;rw[<-gk (k+2) ms,show k+2=k+1+1 by omega,a,b]
 simp
def aH(h:k+1<ms.length):(exN ms k).length=ms.length:=by
 unfold exN;simp;omega
def kCA(h:k+1<ms.length):(exN ms k).Perm ms:=by
 conv=>rhs;rw[kJW h]
 unfold exN;rw[bp,bp];exact(DA _ _ _).append_left _
def mX(h:k+1<ms.length){j:Nat}(a:j<=k):(exN ms k).take j=ms.take j:=by
 unfold exN;rw[bp,EG,AN,de,kq a,show j-min k ms.length=0 by omega,BG,iU]
def tK(h:k+1<ms.length){j:Nat}(a:j<k):(exN ms k)[j]?=ms[j]?:=by
 have:=congrArg (λ l:List Nat=>l[j]?) (mX h (j:=k) (be _));simpa[ow a] using this
def bG(h:k+1<ms.length){j:Nat}(a:k+2<=j):ms[j]?=(exN ms k)[j]?:=by
 have l:(ms.take k++[ms.getD (k+1) 0,ms.getD k 0]).length=k+2:=by simp;omega
 unfold exN;rw[bf (by omega),l,zw,show k+2+(j-(k+2))=j by omega]
def kGX(b:2<=k)(h:k+1<ms.length):Swp ms (exN ms k) (k-2):=by
 have lt:(ms.take k).length=k:=by rw[de];omega
 refine⟨aH h,by omega,?_,?_,?_,λ j a=>bG h (by omega)⟩
 ·rw[show k-2+2=k by omega]
  exact(mX h (be _)).symm
 ·rw[show k-2+2=k by omega,show k-2+3=k+1 by omega]
  unfold exN;rw[aj,bp,bf (by omega),lt,CW]
  rfl
 ·rw[show k-2+2=k by omega,show k-2+3=k+1 by omega]
  unfold exN;rw[aj,bp,bf (by omega),lt,show k+1-k=1 by omega]
  rfl
def kNW(h:k+2<ms.length):(exN ms k).getLast?=ms.getLast?:=by
 rw[og,og,aH (by omega)];exact(bG (by omega) (by omega)).symm
def kNX(d:2<=k)(h:k+2<ms.length)(a b c:Nat):((exN ms k)[0]?=some a/\(exN ms k)[1]?=some b/\(exN ms k).getLast?=some c)↔(ms[0]?=some a/\ms[1]?=some b/\ms.getLast?=some c):=by
 rw[tK (by omega) (by omega),tK (by omega) (by omega),kNW h]
variable {W:Rows} {a b c:Nat} {Fs Ts:List (List Nat)}
def kEF(d:ms.Nodup)(sym:∀ a b,E W a b->E W b a)(h0:Top W (ms.take 2) (ms.take 2))(f:2<=k)(h:k+2<ms.length)(m:ms.getD k 0∉W.getD (ms.getD (k+1) 0) [])(o:ms.getD (k+1) 0∉W.getD (ms.getD k 0) [])(l:jX W a b c ms=some (Fs,Ts)) :
  ∃ fs ts su sv T1 T1' T2 X Y,fs.length=k-2/\ts.length=k-1/\Fs=fs++[su,sv]++X/\Ts=ts++[T1,T2]++Y/\jX W a b c (exN ms k)=some (fs++[sv,su]++X,ts++[T1',T2]++Y):=by
 unfold jX at l ⊢
 split at l
 ·rename_i en
  rw[if_pos ((kNX f h a b c).mpr en),aH (by omega)];have e:ms.length-2=k-2+2+(ms.length-2-k):=by omega
  rw[e]at l ⊢;obtain⟨fs,ts,su,sv,T1,T1',T2,X,Y,g,p,j,n,i⟩:=kIJ d sym h0 (kGX f (by omega)) (by rw[show k-2+2=k by omega,show k-2+3=k+1 by omega];exact m) (by rw[show k-2+2=k by omega,show k-2+3=k+1 by omega];exact o) l;exact⟨fs,ts,su,sv,T1,T1',T2,X,Y,g,by omega,j,n,i⟩
 ·cases l
end
section
variable {W W':Rows} {g:Nat->Nat} {n:Nat}
end
end Tri
namespace Fc
open Cyc Rnd Tri
def mgN(a b x:Nat):Nat:=if x=b then a else x
def goL(m:List Nat)(a:List (Nat×Nat)):List Nat:=a.foldl (λ m l=>m.map (mgN (m.getD l.1 0) (m.getD l.2 0))) m
def cD(m:List Nat)(l:Nat×Nat)(a:List (Nat×Nat)):goL m (l::a)=goL (m.map (mgN (m.getD l.1 0) (m.getD l.2 0))) a:=rfl
theorem kGU:∀(a:List (Nat×Nat))(m:List Nat),(goL m a).length=m.length
 | [],_=>rfl
 | l::a,m=>by rw[cD,kGU a,ak]
theorem pR:∀(a:List (Nat×Nat))(m:List Nat)(c:Nat),(∀ x∈goL m a,x=c)->∃ V:List Nat,V.length<=a.length+1/\∀ x∈m,x∈V
 | [],m,c,h=>⟨[c],by simp,λ x b=>by rw[h x b];simp⟩
 | l::a,m,c,h=>by
  rw[cD]at h;obtain⟨V,h1,d⟩:=pR a _ c h;refine⟨m.getD l.2 0::V,by simp;omega,λ x b=>?_⟩;have:=d _ (iR.mpr ⟨x,b,rfl⟩);unfold mgN at this
  split at this
  ·rename_i e
   rw[e];exact eW ..
  ·exact dh _ this
def bX{m:List Nat}{f:Nat->Nat}{i:Nat}(h:i<m.length):(m.map f).getD i 0=f (m.getD i 0):=by
 rw[aj,aj,bg,ae h]
 rfl
theorem kBW:∀(a:List (Nat×Nat))(m:List Nat)(i j:Nat),i<m.length->j<m.length->m.getD i 0=m.getD j 0->(goL m a).getD i 0=(goL m a).getD j 0
 | [],_,_,_,_,_,h=>h
 | l::a,m,i,j,hi,hj,h=>by
  rw[cD];refine kBW a _ i j (by rw[ak];exact hi) (by rw[ak];exact hj) ?_;rw[bX hi,bX hj,h]
theorem kBX:∀(a:List (Nat×Nat))(m:List Nat)(i j:Nat),i<m.length->j<m.length->(i,j)∈a->(goL m a).getD i 0=(goL m a).getD j 0
 | l::a,m,i,j,hi,hj,h=>by
  rw[cD];have b:i<(m.map (mgN (m.getD l.1 0) (m.getD l.2 0))).length:=by rw[ak];exact hi
  have c:j<(m.map (mgN (m.getD l.1 0) (m.getD l.2 0))).length:=by rw[ak];exact hj
  rcases eK.mp h with e | h
  ·refine kBW a _ i j b c ?_
   rw[<-e,bX hi,bX hj];unfold mgN;simp only
   split<;>simp
  ·exact kBX a _ i j b c h
def kEE{F:Nat}{b:List (Nat×Nat)}(d:∀ l∈b,l.1<F/\l.2<F)(all:∀ m:List Nat,m.length=F->(∀ l∈b,m.getD l.1 0=m.getD l.2 0)->∀ i,i<F->m.getD i 0=m.getD 0 0):F<=b.length+1:=by
 have f:=kGU b (cw F);rw[iH]at f;have a:=all (goL (cw F) b) f λ l c=>kBX b _ l.1 l.2 (by rw[iH];exact(d l c).1) (by rw[iH];exact(d l c).2) c
 obtain⟨V,h1,h⟩:=pR b (cw F) ((goL (cw F) b).getD 0 0) λ x j=>by
  obtain⟨i,g,rfl⟩:=eV.mp j;rw[<-a i (by omega),aj,ae g]
  rfl
 have:=eY tw h;rw[iH]at this;omega
def kMZ{p:Nat->Prop}(h:∃ k,p k):∃ k,p k/\∀ j,j<k->¬ p j:=by
 obtain⟨k,b⟩:=h
 induction k using Az with
 | _ k ih =>
  by_cases c:∃ j,j<k/\p j
  ·obtain⟨j,a,hp⟩:=c
   exact ih j a hp
  ·exact⟨k,b,λ j a hp=>c ⟨j,a,hp⟩⟩
def rot_to{row:List Nat}(nd:row.Nodup){P:Nat->Prop}{y q:Nat}(r:y∈row)(h0:q∈row)(p0:P q)(st:∀ w v,w∈row->w≠y->xH row w=some v->P w->P v):P y:=by
 obtain⟨d,u,rfl⟩:=eV.mp r;obtain⟨j,s,rfl⟩:=eV.mp h0;have l:∀ i (h:i<row.length),row.idxOf row[i]=i:=λ i h=>(AA nd).mp (BX (gj (ie h)));have o:∀ i (h:i<row.length),i≠d->row[i]≠row[d]:=λ i h n z=>n ((AA nd).mp z)
 have step:∀ i (h:i+1<row.length),i+1≠d->P row[i+1]->P row[i]:=λ i h n p=>by
  refine st _ _ (ie h) (o _ h n) ?_ p;unfold xH;rw[l _ h,if_neg (by omega),show i+1-1=i by omega,ae (by omega)]
 have g:∀(h:0<row.length),0≠d->P row[0]->P (row[row.length-1]'(by omega)):=λ h n p=>by
  refine st _ _ (ie h) (o _ h n) ?_ p;unfold xH;rw[l _ h,if_pos rfl,og,ae (by omega)]
 have f:∀ k i (h:i+k<row.length),(∀ t,i<t->t<=i+k->t≠d)->P row[i+k]->P (row[i]'(by omega)):=λ k=>by
  induction k with
  | zero=>exact λ i h _ p=>p
  | succ k ih =>
   intro i h n p;exact ih i (by omega) (λ t h1 m=>n t h1 (by omega)) (step (i+k) (by omega) (n _ (by omega) (by omega)) p)
 rcases iV j d with c | c
 ·have a:=f j 0 (by omega) (λ t h1 m=>by omega) (by simpa using p0)
  have b:=g (by omega) (by omega) a;have:=f (row.length-1-d) d (by omega) (λ t h1 m=>by omega) (by simpa[show d+(row.length-1-d)=row.length-1 by omega] using b);exact this
 ·have:=f (j-d) d (by omega) (λ t h1 m=>by omega) (by simpa[show d+(j-d)=j by omega] using p0)
  exact this
section
variable {W:Rows} {par dist:Nat->Nat}
theorem kHK(a:Nat->Nat):∀ n:Nat,∃ N,∀ v,v<n->a v<=N
 | 0=>⟨0,λ v h=>by omega⟩
 | n+1=>by
  obtain⟨N,h⟩:=kHK a n;refine⟨max N (a n),λ v b=>?_⟩;rcases iV v n with c | c
  ·have:=h v c
   omega
  ·rw[show v=n by omega]
   omega
def kPG(S:Nb W):∃ R:List (Nat×Nat),R.length=(facesS W).length/\(∀ r∈R,r∈kN W)/\(∀ t∈kN W,∃ i,∃(h:i<R.length),t∈rnd W R[i])/\∀ t i j (hi:i<R.length) (d:j<R.length),t∈rnd W R[i]->t∈rnd W R[j]->i=j:=by
 have sub:∀ t∈stepsS W,t∈kN W:=λ t b=>(sortP_perm _).mem_iff.mp b;have I:=fgo_ok S (stepsS W) sub;obtain⟨R,n,m,r3⟩:=I.reps
 have l:(facesS W).length=R.length:=by
  rw[show(facesS W).length=(uZ W).length from(vG _).length_eq];show(fgo W (stepsS W)).1.length=_;rw[m,ak]
 have nd:=I.nd;rw[r3]at nd;have g:=(Cq.mp nd).2;refine⟨R,l.symm,λ r a=>sub r (n r a),λ t b=>?_,λ t i j hi d h1 f=>?_⟩
 ·have:=I.cov t ((sortP_perm _).mem_iff.mpr b)
  rw[r3]at this;obtain⟨r,a,h⟩:=AD.mp this;obtain⟨i,hi,rfl⟩:=eV.mp a;exact⟨i,hi,h⟩
 ·rcases ya i j with c | c | c
  ·exact absurd rfl (qh.mp g i j hi d c t h1 t f)
  ·exact c
  ·exact absurd rfl (qh.mp g j i d hi c t f t h1)
end
section
variable {W W':Rows}
end
section
variable {W W' L:Rows}
end
section
variable {W W':Rows}
end
def RC(W:Rows)(C:List Nat):Nat->Nat->Prop
 | 0,v=>v∈C
 | k+1,v=>∃ u,RC W C k u/\E W u v
def kUM{W:Rows}{C:List Nat}{c v:Nat}(b:c∈C)(h:Reach W c v):∃ k,RC W C k v:=by
 induction h with
 | here=>exact⟨0,b⟩
 | more _ e ih =>
  obtain⟨k,a⟩:=ih;exact⟨k+1,_,a,e⟩
structure CTree(W:Rows)(C:List Nat)(par dist:Nat->Nat):Prop where
 e:∀ v,v<W.length->v∉C->E W (par v) v
 d:∀ v,v<W.length->v∉C->dist (par v)+1=dist v
def kOJ{W:Rows}{C:List Nat}(f:∀ v,v<W.length->∃ c∈C,Reach W c v):∃ par dist,CTree W C par dist:=by
 have h1:∀ v,∃ k,v<W.length->RC W C k v/\∀ j,j<k->¬ RC W C j v:=λ v=>by
  by_cases c:v<W.length
  ·obtain⟨c0,g,r⟩:=f v c
   obtain⟨k,s⟩:=kMZ (kUM g r);exact⟨k,λ _=>s⟩
  ·exact⟨0,λ z=>absurd z c⟩
 have d:=λ v=>rg (h1 v);generalize A:(λ v=>wg (h1 v))=dist at *
 have d:∀ v,v<W.length->RC W C (dist v) v/\∀ j,j<dist v->¬ RC W C j v:=λ v q=>by
  rw[<-A];exact d v q
 have i:∀ v,∃ u,v<W.length->v∉C->E W u v/\dist u+1=dist v:=λ v=>by
  by_cases c:v<W.length/\v∉C
  ·obtain⟨a,b⟩:=d v c.1
   cases e:dist v with
   | zero =>
    rw[e]at a;exact absurd a c.2
   | succ k =>
    rw[e]at a b;obtain⟨u,y,l⟩:=a
    have x:u<W.length:=by
     obtain⟨row,B,_⟩:=l;exact(ao.mp B).1
    obtain⟨p,o⟩:=d u x;refine⟨u,λ _ _=>⟨l,?_⟩⟩;have G:¬ k<dist u:=λ z=>o k z y;have H:¬ dist u+1<k+1:=λ z=>b _ z ⟨u,p,l⟩;omega
  ·exact⟨0,λ D m=>absurd ⟨D,m⟩ c⟩
 exact⟨λ v=>wg (i v),dist,λ v h n=>(rg (i v) h n).1,λ v h n=>(rg (i v) h n).2⟩
section
variable {W:Rows} {C:List Nat} {par dist:Nat->Nat} {lab:Nat->Nat->Nat}
def row_at(S:Nb W){z:Nat}(hz:z<W.length):∃ r,W[z]?=some r/\r.Nodup/\(∀ w,w∈r↔E W z w)/\∀ w v,xH r w=some v->nxt W (w,z)=(z,v):=by
 refine⟨W[z],ae hz,S.nd z _ (ae hz),λ w=>⟨λ m=>⟨_,ae hz,m⟩,λ⟨r,a,m⟩=>?_⟩,λ w v h=>?_⟩
 ·rw[ae hz]at a
  cases a
  exact m
 ·show(z,(xH (W.getD z []) w).getD 0)=(z,v)
  rw[aj,ae hz];show(z,(xH W[z] w).getD 0)=(z,v);rw[h]
  rfl
def Fit(W:Rows)(lab:Nat->Nat->Nat):Prop:=∀ x y v,E W x y->nxt W (x,y)=(y,v)->lab y v=lab x y
def kQC(S:Nb W)(T:CTree W C par dist)(l:Fit W lab)
  (n:∀ x y,E W x y->¬ ((y∉C/\par y=x)\/(x∉C/\par x=y)\/Nx C x y\/Nx C y x)->lab x y=lab y x):∀ x y,E W x y->¬ Nx C x y->¬ Nx C y x->lab x y=lab y x:=by
 obtain⟨N,B⟩:=kHK dist W.length
 have a:∀ k z,z<W.length->z∉C->N-dist z=k->lab (par z) z=lab z (par z):=λ k=>by
  induction k using Az with
  | _ k ih =>
   intro z m i O;obtain⟨r,Q,nd,mem,nx⟩:=row_at S m;have j:=T.e z m i;obtain⟨v,M,G,p⟩:=uH S j;refine(rot_to nd (P:=λ w=>lab z w=lab (par z) z) ((mem _).mpr (S.sym _ _ j)) ((mem v).mpr p) (l _ _ _ j G) λ w u s L J I=>?_).symm;have g:=(mem w).mp s
   have back:lab z w=lab w z:=by
    by_cases t:(w∉C/\par w=z)\/(z∉C/\par z=w)\/Nx C z w\/Nx C w z
    ·rcases t with⟨c,f⟩ | ⟨_,A⟩ | h | h
     ·have b:=(S.e g).2.1
      have D:=T.d w b c;rw[f]at D;have:=B w b;have q:=ih (N-dist w) (by omega) w b c rfl;rwa[f]at q
     ·exact absurd A.symm L
     ·exact absurd (kT h).1 i
     ·exact absurd (kT h).2 i
    ·exact n z w g t
   rw[l w z u (S.sym _ _ g) (nx w u J),<-back,I]
 intro x y e H o;by_cases t:(y∉C/\par y=x)\/(x∉C/\par x=y)\/Nx C x y\/Nx C y x
 ·rcases t with⟨h,rfl⟩ | ⟨h,rfl⟩ | h | h
  ·exact a _ y (S.e e).2.1 h rfl
  ·exact(a _ x (S.e e).1 h rfl).symm
  ·exact absurd h H
  ·exact absurd h o
 ·exact n x y e t
def sX(S:Nb W)(f:Fit W lab)(d:∀ x y,E W x y->¬ Nx C x y->¬ Nx C y x->lab x y=lab y x){z w a:Nat}(hz:z∉C)(e:E W z w)(i:E W z a):lab z w=lab z a:=by
 obtain⟨r,j,nd,mem,nx⟩:=row_at S (S.e e).1;refine rot_to nd (P:=λ u=>lab z u=lab z a) ((mem w).mpr e) ((mem a).mpr i) rfl λ u v c _ g p=>?_;have b:=(mem u).mp c;rw[f u z v (S.sym _ _ b) (nx u v g),<-d z u b (λ h=>hz (kT h).1) (λ h=>hz (kT h).2)];exact p
def gI(S:Nb W)(nd:C.Nodup)(b:Fit W lab)(i:∀ p q,Nx C p q->E W p q)(B:∀ x y,E W x y->¬ Nx C x y->¬ Nx C y x->lab x y=lab y x){p c n:Nat}(h1:Nx C p c)(f:Nx C c n):lab c n=lab p c:=by
 have g:=i _ _ h1;have d:=i _ _ f;obtain⟨r,H,a,mem,nx⟩:=row_at S (S.e d).1;obtain⟨v,G,o,m⟩:=uH S g;refine rot_to a (P:=λ u=>lab c u=lab p c) ((mem n).mpr d) ((mem v).mpr m) (b _ _ _ g o) λ u v A D s q=>?_;have j:=(mem u).mp A;rw[b u c v (S.sym _ _ j) (nx u v s)];by_cases l:u=p
 ·rw[l]
 ·rw[<-B c u j (λ h=>D (jS nd h f)) (λ h=>l (yD nd h h1))]
  exact q
def kQB(S:Nb W)(nd:C.Nodup)(g:Fit W lab)(d:∀ p q,Nx C p q->E W p q)(i:∀ x y,E W x y->¬ Nx C x y->¬ Nx C y x->lab x y=lab y x){p c n w:Nat}(h1:Nx C p c)(b:Nx C c n)(e:E W c w):lab c w=lab p c\/lab c w=lab n c:=by
 have l:=d _ _ b;obtain⟨r,s,a,mem,nx⟩:=row_at S (S.e l).1;refine rot_to a (P:=λ u=>lab c u=lab p c\/lab c u=lab n c) ((mem w).mpr e) ((mem n).mpr l) (.inl (gI S nd g d i h1 b)) λ u v m A o q=>?_;have f:=(mem u).mp m;rw[g u c v (S.sym _ _ f) (nx u v o)];by_cases un:u=n
 ·exact .inr (by rw[un])
 ·by_cases j:u=p
  ·exact .inl (by rw[j])
  ·rw[<-i c u f (λ h=>un (jS nd h b)) (λ h=>j (yD nd h h1))]
   exact q
def kQD(S:Nb W)(T:CTree W C par dist)(nd:C.Nodup)(o:Fit W lab)(j:∀ p q,Nx C p q->E W p q)(m:∀ x y,E W x y->¬ Nx C x y->¬ Nx C y x->lab x y=lab y x){p q:Nat}(h:Nx C p q)(B:lab p q=lab q p) :
  ∀ x y,E W x y->lab x y=lab p q:=by
 have one:∀ c n,Nx C c n->lab c n=lab p q->lab n c=lab p q->∀ w,E W c w->lab c w=lab p q:=λ c n i a b w e=>by
  obtain⟨v,f⟩:=vH (kT i).1;have f:=zB nd (kT i).1 f;rcases kQB S nd o j m f i e with z | z
  ·rw[z,<-gI S nd o j m f i,a]
  ·rw[z,b]
 have s:∀ y∈C,∀ w,E W y w->lab y w=lab p q:=λ y A=>by
  refine rot_to nd (P:=λ c=>∀ w,E W c w->lab c w=lab p q) A (kT h).1 (one p q h rfl B.symm) λ c v g _ f z=>?_;have f:=zB nd g f;obtain⟨n,i⟩:=dD g;refine one v c f ?_ (z v (S.sym _ _ (j _ _ f)));rw[<-gI S nd o j m f i];exact z n (j _ _ i)
 have l:∀ k z,z<W.length->dist z=k->∀ w,E W z w->lab z w=lab p q:=λ k=>by
  induction k using Az with
  | _ k ih =>
   intro z u G w e;by_cases g:z∈C
   ·exact s z g w e
   ·have r:=T.e z u g
    have D:=T.d z u g;rw[sX S o m g e (S.sym _ _ r),<-m _ _ r (λ h=>g (kT h).2) (λ h=>g (kT h).1)];exact ih _ (by omega) _ (S.e r).1 rfl _ r
 exact λ x y e=>l _ x (S.e e).1 rfl y e
def kAB(v u:Nat):Nat×Nat:=if v<u then(v,u) else(u,v)
def kKR{v u w x:Nat}(h:kAB v u=kAB w x):(v=w/\u=x)\/(v=x/\u=w):=by
 unfold kAB at h
 split at h<;>split at h<;>injection h with h1 h2<;>omega
def kSV{v w:Nat}(nd:C.Nodup)(h1:Nx C v w)(d:Nx C w v):C.length<=2:=by
 have all:∀ x∈C,x=v\/x=w:=λ x b=>by
  refine rot_to nd (P:=λ x=>x=v\/x=w) b (kT h1).1 (.inl rfl) λ y u c _ a p=>?_;have a:=zB nd c a;rcases p with rfl | rfl
  ·exact .inr (yD nd a d)
  ·exact .inl (yD nd a h1)
 have:=eY nd (l₂:=[v,w]) λ x b=>by
  rcases all x b with rfl | rfl<;>simp
 simpa using this
def CtP(C:List Nat)(a:Nat->Nat)(t:Nat×Nat):Prop:=(t.2∉C/\a t.2=t.1)\/(t.1∉C/\a t.1=t.2)\/Nx C t.1 t.2\/Nx C t.2 t.1
open Classical in
def kCJ(S:Nb W)(T:CTree W C par dist)(nd:C.Nodup)(M:3<=C.length)(J:∀ p q,Nx C p q->E W p q):W.length<=((tiesS W).filter λ t=>decide (CtP C par t)).length:=by
 have A:∀ v,∃ u,v<W.length->(v∈C/\Nx C v u)\/(v∉C/\u=par v):=λ v=>by
  by_cases c:v∈C
  ·obtain⟨u,L⟩:=dD c
   exact⟨u,λ _=>.inl ⟨c,L⟩⟩
  ·exact⟨par v,λ _=>.inr ⟨c,rfl⟩⟩
 have g:=λ v=>rg (A v);generalize D:(λ v=>wg (A v))=f at *
 have g:∀ v,v<W.length->(v∈C/\Nx C v (f v))\/(v∉C/\f v=par v):=λ v i=>by
  rw[<-D];exact g v i
 have x:((cw W.length).map λ v=>kAB v (f v)).Nodup:=by
  refine km.mpr (AR.imp_of_mem λ{a b} l m H e=>?_);have l:=jr.mp l;have m:=jr.mp m;rcases kKR e with⟨z,_⟩ | ⟨y,o⟩
  ·omega
  ·rcases g a l with⟨r,j⟩ | ⟨r,j⟩<;>rcases g b m with⟨s,h⟩ | ⟨s,h⟩
   ·rw[o]at j
    rw[<-y]at h;have:=kSV nd j h;omega
   ·rw[o]at j
    exact s (kT j).2
   ·rw[<-y]at h
    exact r (kT h).2
   ·have G:=T.d a l r
    have I:=T.d b m s;rw[<-j,o]at G;rw[<-h,<-y]at I;omega
 have:=eY x (l₂:=(tiesS W).filter λ t=>decide (CtP C par t)) λ t B=>by
  obtain⟨v,i,rfl⟩:=iR.mp B;have i:=jr.mp i
  have two:E W v (f v)/\CtP C par (v,f v)/\CtP C par (f v,v):=by
   rcases g v i with⟨c,n⟩ | ⟨c,n⟩
   ·exact⟨J _ _ n,.inr (.inr (.inl n)),.inr (.inr (.inr n))⟩
   ·rw[n]
    exact⟨S.sym _ _ (T.e v i c),.inr (.inl ⟨c,rfl⟩),.inl ⟨c,rfl⟩⟩
  obtain⟨e,p1,p2⟩:=two;have N:=(S.e e).2.2;unfold kAB tiesS;rw[iX,iX,mem_stepsS]
  split
  ·rename_i c
   exact⟨⟨e,decide_eq_true c⟩,decide_eq_true p1⟩
  ·rename_i c
   exact⟨⟨S.sym _ _ e,decide_eq_true (by show f v<v;omega)⟩,decide_eq_true p2⟩
 rw[ak,iH]at this;exact this
open Classical in
def kTI(S:Nb W)(g:∀ v,v<W.length->Reach W 0 v)(fl:W.length+(facesS W).length=(tiesS W).length+2)(nd:C.Nodup)(X:3<=C.length)(L:∀ p q,Nx C p q->E W p q) :
  ∃ lab:Nat->Nat->Nat,Fit W lab/\(∀ x y,E W x y->¬ Nx C x y->¬ Nx C y x->lab x y=lab y x)/\∀ p q,Nx C p q->lab p q≠lab q p:=by
 refine eX λ no=>?_
 obtain⟨c0,j⟩ : ∃ c,c∈C:=by
  cases C with
  | nil=>simp at X
  | cons c C=>exact⟨c,eW⟩
 obtain⟨c1,O⟩:=dD j;have N:=L _ _ O;have lc:=(S.e N).1;obtain⟨b,Y,T⟩:=kOJ (C:=C) λ v hv=>⟨c0,j,(Reach.symm S.sym (g c0 lc)).trans (g v hv)⟩;obtain⟨R,lR,s,J,r⟩:=kPG S
 have o:∀ t,∃ i,t∈kN W->∃(h:i<R.length),t∈rnd W R[i]:=λ t=>by
  by_cases c:t∈kN W
  ·obtain⟨i,h,m⟩:=J t c
   exact⟨i,λ _=>⟨h,m⟩⟩
  ·exact⟨0,λ z=>absurd z c⟩
 have d:=λ t=>rg (o t);generalize hF:(λ t=>wg (o t))=a at *
 have d:∀ t,t∈kN W->∃(h:a t<R.length),t∈rnd W R[a t]:=λ t f=>by
  subst hF;exact d t f
 have B:∀ t,t∈kN W->a (nxt W t)=a t:=λ t f=>by
  obtain⟨h1,m1⟩:=d t f;have U:=kAU S (s _ (ie h1)) m1;have hs:=rnd_sub S (s _ (ie h1)) U;obtain⟨I,H⟩:=d _ hs;exact r _ _ _ I h1 H U
 have G:∀ i (h:i<R.length),a R[i]=i:=λ i h=>by
  have Q:=s _ (ie h);obtain⟨I,H⟩:=d _ Q;exact r _ _ _ I h H (rnd_self S Q)
 have st:∀ x y,E W x y->(x,y)∈kN W:=λ x y e=>mem_steps.mpr e
 have ls:R.length<=(((tiesS W).filter λ t=>!decide (CtP C b t)).map λ t=>(a t,a (t.2,t.1))).length+1:=by
  refine kEE (λ l u=>?_) λ m lm u i A=>?_
  ·obtain⟨t,f,rfl⟩:=iR.mp u
   have f:=(iX.mp f).1;unfold tiesS at f;have e:=mem_stepsS.mp (iX.mp f).1;exact⟨(d t (st _ _ e)).1,(d (t.2,t.1) (st _ _ (S.sym _ _ e))).1⟩
  ·have D:Fit W (λ x y=>m.getD (a (x,y)) 0):=λ x y v e n=>by
    have:=B _ (st x y e);rw[n]at this;show m.getD (a (y,v)) 0=_;rw[this]
   have sy:=kQC (lab:=λ x y=>m.getD (a (x,y)) 0) S T D λ x y e Z=>by
    show m.getD (a (x,y)) 0=m.getD (a (y,x)) 0;have ne:=(S.e e).2.2;rcases iV x y with c | c
    ·exact u (a (x,y),a (y,x)) (iR.mpr ⟨(x,y),iX.mpr ⟨iX.mpr ⟨mem_stepsS.mpr e,decide_eq_true c⟩,by rw[decide_eq_false (show ¬ CtP C b (x,y) from Z)];rfl⟩,rfl⟩)
    ·have M:¬ CtP C b (y,x):=λ z=>Z (by
      rcases z with z | z | z | z
      ·exact .inr (.inl z)
      ·exact .inl z
      ·exact .inr (.inr (.inr z))
      ·exact .inr (.inr (.inl z)))
     exact(u (a (y,x),a (x,y)) (iR.mpr ⟨(y,x),iX.mpr ⟨iX.mpr ⟨mem_stepsS.mpr (S.sym _ _ e),decide_eq_true (by show y<x;omega)⟩,by rw[decide_eq_false M];rfl⟩,rfl⟩)).symm
   have ex:∃ p q,Nx C p q/\m.getD (a (p,q)) 0=m.getD (a (q,p)) 0:=eX λ z=>no ⟨_,D,sy,λ p q h e=>z ⟨p,q,h,e⟩⟩;obtain⟨p,q,h,e⟩:=ex;have all:=kQD S T nd D L sy h e
   have key:∀ i,i<R.length->m.getD i 0=m.getD (a (p,q)) 0:=λ i A=>by
    have e:E W R[i].1 R[i].2:=mem_steps.mp (s _ (ie A));have:=all _ _ e;rw[show(R[i].1,R[i].2)=R[i] from rfl,G i A]at this;exact this
   rw[key i A,key 0 (by omega)]
 have tc:=kCJ S T nd X L
 have sum:((tiesS W).filter λ t=>decide (CtP C b t)).length+((tiesS W).filter λ t=>!decide (CtP C b t)).length=(tiesS W).length:=by
  have:∀ l:List (Nat×Nat),(l.filter λ t=>decide (CtP C b t)).length+(l.filter λ t=>!decide (CtP C b t)).length=l.length:=λ l=>by
   induction l with
   | nil=>rfl
   | cons t l ih =>
    rw[ve,ve]
    cases decide (CtP C b t)<;>simp<;>omega
  exact this _
 rw[ak]at ls;omega
end
section
variable {W:Rows} {C:List Nat} {lab:Nat->Nat->Nat}
def nx_mid(A:List Nat)(x y:Nat)(B:List Nat):Nx (A++x::y::B) x y:=by
 show Adj ((A++x::y::B)++(A++x::y::B).head?.toList) x y;rw[bp];exact(jB A x _ x y).mpr (.inr (.inl ⟨rfl,rfl⟩))
theorem kHR:∀{l:List Nat}{p q:Nat},Adj l.reverse p q->Adj l q p
 | [],_,_,h=>h.elim
 | [x],_,_,h=>h.elim
 | x::y::r,p,q,h=>by
  rw[Bq,Bq,bp]at h;rcases(jB _ y [x] p q).mp h with h | h
  ·refine .inr (kHR (l:=y::r) ?_)
   rw[Bq];exact h
  ·rcases h with⟨rfl,rfl⟩ | h
   ·exact .inl ⟨rfl,rfl⟩
   ·exact h.elim
def kTC(S:Nb W)(l:Fit W lab){k t:Nat}{row A B:List Nat}(j:W[k]?=some row):∀(seg:List Nat),Ro row (A++seg++t::B)->(∀ z∈seg.tail,lab k z=lab z k)->∀ z∈seg,lab k z=lab t k:=by
 have one:∀(u v:Nat)(A B:List Nat),Ro row (A++u::v::B)->lab k u=lab v k:=λ u v A B c=>by
  have r:R W k u v:=⟨row,j,(c.nx u v).mpr (nx_mid A u v B)⟩;exact l v k u (S.sym _ _ (zQ r).2) (mL S.nd r)
 suffices H:∀(n:Nat)(seg A B:List Nat)(t:Nat),seg.length=n->Ro row (A++seg++t::B)->(∀ z∈seg.tail,lab k z=lab z k)->∀ z∈seg,lab k z=lab t k from λ seg=>H _ seg A B t rfl
 intro n
 induction n with
 | zero =>
  intro seg A B t b _ _ z a;rw[qb.mp b]at a;cases a
 | succ n ih =>
  intro seg A B t b c f z a;have g:seg≠[]:=λ e=>by rw[e]at b;cases b
  obtain⟨I,u,rfl⟩ : ∃ I u,seg=I++[u]:=⟨seg.dropLast,seg.getLast g,(eN g).symm⟩;have d:lab k u=lab t k:=one u t (A++I) B (by simpa using c);rcases cf.mp a with m | m
  ·have h:I.length=n:=by simpa using b
   have q:=ih I A (t::B) u h (by simpa using c) (λ z a=>by
    cases I with
    | nil=>cases a
    | cons i I=>exact f z (by simp at a ⊢;exact .inl a)) z m
   rw[q,<-d]
   cases I with
   | nil=>cases m
   | cons i I=>exact(f u (by simp)).symm
  ·rw[bz.mp m]
   exact d
theorem kNC(S:Nb W)(d:Fit W lab){k:Nat}{row:List Nat}(c:W[k]?=some row):∀(seg A B:List Nat)(t:Nat),Ro row (A++t::(seg++B))->(∀ z∈seg,lab k z=lab z k)->∀ z∈seg,lab k z=lab k t
 | [],_,_,_,_,_,z,a=>by cases a
 | u::seg,A,B,t,ro,sy,z,a=>by
  have r:R W k t u:=⟨row,c,(ro.nx t u).mpr (nx_mid A t u _)⟩;have f:lab k t=lab u k:=d u k t (S.sym _ _ (zQ r).2) (mL S.nd r);have b:lab k u=lab k t:=by rw[sy u (by simp),f]
  rcases eK.mp a with rfl | m
  ·exact b
  ·rw[<-b]
   exact kNC S d c seg (A++[t]) B u (by simpa using ro) (λ z a=>sy z (dh _ a)) z m
theorem dH(S:Nb W)(n:Fit W lab)(i:∀ x y,E W x y->¬ Nx C x y->¬ Nx C y x->lab x y=lab y x){β:Nat}:∀(D:List Nat)(c:Nat),(∀ p q,Adj (c::D) p q->E W p q)->(∀ d∈D,d∉C)->(∀ d1,D.head?=some d1->lab c d1=β)->∀ d∈D,∀ w,E W d w->lab d w=β
 | [],_,_,_,_,d,f,_,_=>by cases f
 | d1::D,c,ad,nc,h1,d,f,w,e=>by
  have o:=ad c d1 (.inl ⟨rfl,rfl⟩);have g:=nc d1 (by simp);have a:=h1 d1 rfl;have b:lab d1 c=β:=by rw[<-i c d1 o (λ h=>g (kT h).2) (λ h=>g (kT h).1)];exact a
  have all:∀ w,E W d1 w->lab d1 w=β:=λ w e=>by rw[sX S n i g e (S.sym _ _ o)];exact b
  rcases eK.mp f with rfl | m
  ·exact all w e
  ·exact dH S n i D d1 (λ p q h=>ad p q (.inr h)) (λ d f=>nc d (dh _ f)) (λ j l=>by
    cases D with
    | nil=>cases l
    | cons d3 D =>
     cases l
     exact all j (ad d1 j (.inr (.inl ⟨rfl,rfl⟩)))) d m w e
def kQL(S:Nb W)(nd:C.Nodup)(o:Fit W lab)(j:∀ p q,Nx C p q->E W p q)(l:∀ x y,E W x y->¬ Nx C x y->¬ Nx C y x->lab x y=lab y x){p q b f:Nat}(h:Nx C p q)(h':Nx C b f):lab p q=lab b f:=by
 have:=rot_to nd (P:=λ c=>∀ n,Nx C c n->lab c n=lab b f) (kT h).1 (kT h').1 (λ n d=>by rw[jS nd d h']) (λ c v g _ a z n d=>by
  have a:=zB nd g a;have:=jS nd d a;subst this;obtain⟨m,i⟩:=dD g;rw[<-gI S nd o j l a i];exact z m i)
 exact this q h
end
section
variable {W:Rows} {T off:List Nat} {a b:Nat}
def kJR{W:Rows}(G:Good W):W.length+(facesS W).length=(tiesS W).length+2:=((three_cornered (Wb.of G).toNb).mpr (jR G)).1
def last_split{l:List Nat}{x:Nat}(h:l.getLast?=some x):∃ I,l=I++[x]:=by
 have a:l≠[]:=λ z=>by rw[z]at h;cases h
 rw[fj a]at h;exact⟨l.dropLast,by rw[<-bq h];exact(eN a).symm⟩
def head_split{l:List Nat}{x:Nat}(h:l.head?=some x):∃ I,l=x::I:=by
 cases l with
 | nil=>cases h
 | cons y l=>cases h;exact⟨l,rfl⟩
end
end Fc
namespace Tri
open Cyc Rnd
section
variable {W M:Rows}
end
section
variable {W V:Rows} {ns:List Nat}
end
section
variable {W W':Rows}
def uB{a b:Nat}(S:Nb W)(e:E W a b):Top W [a,b] [a,b]:=by
 refine⟨?_,λ x c=>c,λ x y ad=>?_⟩
 ·have:=(S.e e).2.2
  simp[this.symm]
 ·rcases ad with⟨rfl,rfl⟩ | z
  ·exact e
  ·exact absurd z id
end
end Tri
namespace Fc
open Tri Cyc Rnd
section
variable {W:Rows}
def mem_row{x y:Nat}(h:E W x y):y∈W.getD x []:=by
 obtain⟨row,e,m⟩:=h;rw[aj,e];exact m
end
end Fc
namespace Tri
open Cyc Rnd
def mvS(S:List (Nat×Int×Int))(G:List Nat)(a:Int):List (Nat×Int×Int):=S.map λ s=>if s.1∈G then(s.1,s.2.1+a,s.2.2) else s
def ovr(l r:Int×Int):Int×Int:=(l.1+(r.1-l.1+r.2-l.2) / 2,l.2+(r.1-l.1+r.2-l.2) / 2)
def atS(S:List (Nat×Int×Int))(p:Nat):Int×Int:=((S.find? λ s=>s.1 == p).map (·.2)).getD (0,0)
def gst(S:List (Nat×Int×Int))(U:Nat->List Nat)(v:Nat)(F T:List Nat):List (Nat×Int×Int)×(Nat->List Nat) :=
 let S2:=mvS (mvS S (F.tail.dropLast.flatMap U) 1) ((T.drop (T.idxOf (F.getLastD 0))).flatMap U) 2
 let q:=ovr (atS S2 (F.headD 0)) (atS S2 (F.getLastD 0))
 (S2++[(v,q.1,q.2)],λ p=>if p=v then v::F.tail.dropLast.flatMap U else U p)
def gF(ms:List Nat)(b a:List (List Nat)):Nat->List (Nat×Int×Int)×(Nat->List Nat)
 | 0=>((ms.take 2).map λ p=>(p,0,0),λ p=>[p])
 | i+1=>gst (gF ms b a i).1 (gF ms b a i).2 (ms.getD (i+2) 0) (b.getD i []) (a.getD i [])
def jW(S:List (Nat×Int×Int))(G:List Nat)(b:Int):(mvS S G b).map (·.1)=S.map (·.1):=by
 unfold mvS;rw[ui];refine qk λ s _=>?_;show(if s.1∈G then _ else _:Nat×Int×Int).1=s.1
 split<;>rfl
def kGL(S:List (Nat×Int×Int))(G:List Nat)(b:Int):(mvS S G b).length=S.length:=by unfold mvS;rw[ak]
def kHN{S:List (Nat×Int×Int)}{p:Nat}(h:p∈S.map (·.1)):(p,atS S p)∈S:=by
 unfold atS
 cases e:S.find? λ s=>s.1 == p with
 | none =>
  obtain⟨s,b,rfl⟩:=iR.mp h;have:=BY.mp e s b;simp at this
 | some s =>
  have h1:=List.mem_of_find?_eq_some e;have a:=List.find?_some e;have a:s.1=p:=by simpa using a
  rw[<-a];exact h1
section
variable {W:Rows}
def zN(sym:∀ a b,E W a b->E W b a){ms:List Nat}(p:ms.Nodup)(h0:Top W (ms.take 2) (ms.take 2)) :
  ∀{i:Nat}{fs ts:List (List Nat)},i+2<=ms.length->goF W ms i=some (fs,ts)->∀(k:Nat)(F T n:List Nat),fs[k]?=some F->ts[k]?=some T->ts[k+1]?=some n->Top W (ms.take (k+2)) T/\∃ B f M l C,F=f::M++[l]/\T=B++(f::M++[l])++C/\n=B++[f,ms.getD (k+2) 0,l]++C:=by
 intro i
 induction i with
 | zero =>
  intro fs ts _ h k F T n e;unfold goF at h;have h:=bq h;injection h with h1 h2
  rw[<-h1]at e;simp at e
 | succ i ih =>
  intro fs ts A h k F T n d g m;obtain⟨y,o,e⟩:=wE (i:=i) (j:=1) h;obtain⟨st,z,x,s⟩:=zO e h;have TT:=aG p sym h0 (by omega) e;obtain⟨D,lt⟩:=yG e;obtain⟨B,f,M,l,C,r,q,mem,G⟩:=wO TT.nd z;rw[x]at d;rw[s]at g m;rcases iV k i with c | c
  ·rw[bb (by omega)]at d g m
   exact ih (by omega) e k F T n d g m
  ·have v:k=i:=by
    have:=(ao.mp d).1;rw[bu,fk]at this;omega
   subst v
   have u:o[k]?=some (o.getLastD []):=by
    rw[kh,og,show o.length-1=k by omega,ae (by omega)]
    rfl
   rw[bf (by omega),show k-y.length=0 by omega]at d;rw[bb (by omega),u]at g;rw[bf (by omega),show k+1-o.length=0 by omega]at m;have d:=bq d;have g:=bq g;have m:=bq m;refine⟨by rw[<-g];exact TT,B,f,M,l,C,by rw[<-d,r],by rw[<-g,q],?_⟩;rw[<-m,r];exact xC q TT.nd
structure GI(ms:List Nat)(Ts:List (List Nat))(i:Nat)(S:List (Nat×Int×Int))(U:Nat->List Nat):Prop where
 fst:S.map (·.1)=ms.take (i+2)
 nd:((Ts.getD i []).flatMap U).Nodup
 sub:∀ x∈(Ts.getD i []).flatMap U,x∈ms.take (i+2)
 few:∀ p∈ms.take (i+2),(U p).length<=i+2
def kEI(S:Nb W)(O:∀ t∈kN W,(nxt W (nxt W t)).2=t.1){ms:List Nat}{a b n:Nat}{r d:List (List Nat)}(A:ms.Nodup)(H:ms.take 2=[a,b])(y:E W a b)(hn:n+2<=ms.length)(G:goF W ms n=some (r,d)):∀ i,i<=n->GI ms d i (gF ms r d i).1 (gF ms r d i).2:=by
 have h0:Top W (ms.take 2) (ms.take 2):=by rw[H];exact uB S y
 obtain⟨lf,lt⟩:=yG G
 have t0:d[0]?=some [a,b]:=by
  have:∀{i:Nat}{fs D:List (List Nat)},goF W ms i=some (fs,D)->D[0]?=some (ms.take 2):=by
   intro i
   induction i with
   | zero =>
    intro fs D q;unfold goF at q;have q:=bq q;injection q with q1 s
    rw[<-s]
    rfl
   | succ i ih =>
    intro fs D q;obtain⟨f2,t2,s⟩:=wE (i:=i) (j:=1) q;obtain⟨a0,z2,q3,q4⟩:=zO s q;have:=(yG s).2;rw[q4,bb (by omega)];exact ih s
  rw[this G,H]
 have ab:a≠b:=λ q=>(S.e y).2.2 q.symm;intro i
 induction i with
 | zero =>
  intro _;have Q:d.getD 0 []=[a,b]:=by rw[aj,t0];rfl
  refine⟨?_,?_,?_,λ p _=>?_⟩
  ·show((ms.take 2).map λ p=>(p,(0:Int),(0:Int))).map (·.1)=ms.take 2
   rw[ui];exact List.map_id _
  ·rw[Q]
   show([a,b].flatMap λ p=>[p]).Nodup;simp[ab]
  ·rw[Q,H]
   show ∀ x∈[a,b].flatMap λ p=>[p],_;simp
  ·show[p].length<=2
   simp
 | succ i ih =>
  intro hi;have I:=ih (by omega);have get:∀(L:List (List Nat))(j:Nat),j<L.length->L[j]?=some (L.getD j []):=λ L j h=>by rw[aj,ae h];rfl
  obtain⟨N,B,f,M,l,C,eF,Y,J⟩:=zN S.sym A h0 hn G i _ _ _ (get r i (by omega)) (get d i (by omega)) (get d (i+1) (by omega));have ga:ms[i+2]?=some (ms.getD (i+2) 0):=by rw[aj,ae (by omega)];rfl
  have tk:ms.take (i+1+2)=ms.take (i+2)++[ms.getD (i+2) 0]:=by rw[iq,ga];rfl
  have T:ms.getD (i+2) 0∉ms.take (i+2):=xD A (by omega) (by omega);have g:∀ x∈d.getD i [],x≠ms.getD (i+2) 0:=λ x m q=>T (q ▸ N.sub x m);have lk:(ms.take (i+2)).length=i+2:=by rw[de];omega
  generalize X:ms.getD (i+2) 0=v at *;generalize hU:(gF ms r d i).2=U at *;have Z:(r.getD i []).tail.dropLast=M:=by rw[eF];simp
  have gU:(gF ms r d (i+1)).2=λ p=>if p=v then v::M.flatMap U else U p:=by
   show(gst _ _ _ _ _).2=_;unfold gst;rw[hU,X,Z]
  have same:∀ L:List Nat,(∀ x∈L,x≠v)->(L.flatMap λ p=>if p=v then v::M.flatMap U else U p)=L.flatMap U:=λ L h=>by
   show(L.map _).flatten=(L.map _).flatten
   congr 1
   refine qk λ x m=>?_;rw[if_neg (h x m)]
  have inT:∀ x,(x∈B\/x=f\/x∈M\/x=l\/x∈C)->x∈d.getD i []:=λ x m=>by
   rw[Y];simp only[cf,eK,si,or_false];rcases m with h | h | h | h | h
   ·exact .inl (.inl h)
   ·exact .inl (.inr (.inl (.inl h)))
   ·exact .inl (.inr (.inl (.inr h)))
   ·exact .inl (.inr (.inr h))
   ·exact .inr h
  have u:(d.getD i []).flatMap U=B.flatMap U++(U f++(M.flatMap U++(U l++C.flatMap U))):=by
   rw[Y];simp[oz,yg,bp]
  have o:((d.getD (i+1) []).flatMap λ p=>if p=v then v::M.flatMap U else U p)=B.flatMap U++(U f++(v::(M.flatMap U++(U l++C.flatMap U)))):=by
   rw[J,oz,oz,same B λ x m=>g x (inT x (.inl m)),same C λ x m=>g x (inT x (.inr (.inr (.inr (.inr m)))))];rw[yg,yg,yg,List.flatMap_nil,if_neg (g f (inT f (.inr (.inl rfl)))),if_pos rfl,if_neg (g l (inT l (.inr (.inr (.inr (.inl rfl))))))];simp[bp]
  have perm:(B.flatMap U++(U f++(v::(M.flatMap U++(U l++C.flatMap U))))).Perm (v::(d.getD i []).flatMap U):=by
   rw[u,<-bp,<-bp (B.flatMap U)];exact CG
  have vn:v∉(d.getD i []).flatMap U:=λ h=>T (I.sub v h);rw[gU];refine⟨?_,?_,λ x m=>?_,λ p hp=>?_⟩
  ·show((gst _ _ _ _ _).1).map (·.1)=_
   unfold gst;rw[du,jW,jW,I.fst,tk,X]
   rfl
  ·rw[o]
   exact perm.nodup_iff.mpr (fu.mpr ⟨vn,I.nd⟩)
  ·rw[o]at m
   rw[tk];rcases eK.mp (perm.mem_iff.mp m) with rfl | h
   ·exact cm _ (bz.mpr rfl)
   ·exact dc _ (I.sub x h)
  ·show(if p=v then v::M.flatMap U else U p).length<=_
   split
   ·have h1:=eY I.nd λ x m=>I.sub x m
    rw[lk,u]at h1;simp only[bu]at h1;rw[iQ];omega
   ·rename_i c
    rw[tk]at hp;rcases cf.mp hp with h | h
    ·have:=I.few p h
     omega
    ·exact absurd (bz.mp h) c
end
theorem cQ:∀{l:List Nat}{x:Nat},x∈l.tail->∃ y,Adj l y x
 | [],_,h=>by cases h
 | [_],_,h=>by cases h
 | a::b::r,x,h=>by
  rcases eK.mp h with rfl | h
  ·exact⟨a,.inl ⟨rfl,rfl⟩⟩
  ·obtain⟨y,c⟩:=cQ (l:=b::r) (x:=x) h
   exact⟨y,.inr c⟩
section
variable {W:Rows}
def qP(S:Nb W)(a:∀ t∈kN W,(nxt W (nxt W t)).2=t.1){x y:Nat}(h:E W x y):∃ z,nxt W (x,y)=(y,z)/\nxt W (y,z)=(z,x)/\nxt W (z,x)=(x,y)/\E W y z/\E W z x:=by
 obtain⟨z,l,g,c⟩:=uH S h;have d:=a _ (mem_steps.mpr h);have f:=a (y,z) (mem_steps.mpr c);rw[g]at d;have b:nxt W (y,z)=(z,x):=ux rfl d;rw[b]at f;obtain⟨q,_,i,j⟩:=uH S c;rw[b]at i;have:x=q:=congrArg tm i;subst this;exact⟨z,g,b,ux rfl f,c,j⟩
structure Bd(W:Rows)(A T:List Nat)(a b:Nat):Prop where
 up:∀ x y,Adj T x y->(nxt W (x,y)).2∉A
 all:∀ x y,x∈A->y∈A->E W x y->(nxt W (x,y)).2∉A->Adj T x y\/(x=b/\y=a)
def Bd.start(S:Nb W)(c:∀ t∈kN W,(nxt W (nxt W t)).2=t.1){a b:Nat}(e:E W a b):Bd W [a,b] [a,b] a b:=by
 refine⟨λ x y ad=>?_,λ x y g d h _=>?_⟩
 ·rcases ad with⟨rfl,rfl⟩ | z
  ·obtain⟨z,j,o,p,m,n⟩:=qP S c e
   rw[j];have i:=(S.e m).2.2;have l:=(S.e n).2.2;simp only[eK,si,or_false];rintro(q | q)
   ·exact l q.symm
   ·exact i q
  ·exact z.elim
 ·have f:=(S.e h).2.2
  simp only[eK,si,or_false]at g d;rcases g with rfl | rfl<;>rcases d with rfl | rfl
  ·exact absurd rfl f
  ·exact .inl (.inl ⟨rfl,rfl⟩)
  ·exact .inr ⟨rfl,rfl⟩
  ·exact absurd rfl f
def Bd.step(S:Nb W)(d:∀ t∈kN W,(nxt W (nxt W t)).2=t.1){A T B M C:List Nat}{a b c f l v:Nat}(h:Bd W A T a b)(a2:T.Nodup)(sub:∀ x∈T,x∈A)(i:∀ x y,Adj T x y->E W x y)(bc:(nxt W (b,a)).2=c)(vc:v≠c)(vA:v∉A)
  (eT:T=B++(f::M++[l])++C) (mem:∀ q,q∈f::M++[l]↔q∈A/\E W v q) (nz:∀ x y,Adj (f::M++[l]) x y->(nxt W (x,y)).2=v):Bd W (A++[v]) (B++[f,v,l]++C) a b:=by
 have I:∀ x y,Adj T x y↔Adj (B++[f]) x y\/Adj (f::M++[l]) x y\/Adj (l::C) x y:=λ x y=>by
  have g:T=B++f::(M++l::C):=by rw[eT];simp
  rw[g,jB B f (M++l::C) x y,show f::(M++l::C)=(f::M)++l::C from rfl,jB (f::M) l C x y]
 have n:∀ x y,Adj (B++[f,v,l]++C) x y↔Adj (B++[f]) x y\/(x=f/\y=v)\/(x=v/\y=l)\/Adj (l::C) x y:=λ x y=>by
  have g:B++[f,v,l]++C=B++f::(v::l::C):=by simp
  rw[g,jB B f (v::l::C) x y];exact Bn
 have d0:=a2;rw[eT]at d0;have d1:=cu.mp d0;have d2:=cu.mp d1.1
 have hB:∀ x,x∈B++[f]->x∈f::M++[l]->x=f:=λ x h1 h2=>by
  rcases cf.mp h1 with h1 | h1
  ·exact absurd rfl (d2.2.2 x h1 x h2)
  ·exact bz.mp h1
 have hC:∀ x,x∈l::C->x∈f::M++[l]->x=l:=λ x h1 h2=>by
  rcases eK.mp h1 with h1 | h1
  ·exact h1
  ·exact absurd rfl (d1.2.2 x (cm _ h2) x h1)
 have fF:f∈f::M++[l]:=by simp
 have lF:l∈f::M++[l]:=by simp
 have new:∀ x y,Adj T x y->x∉(f::M++[l])\/y∉(f::M++[l])->(nxt W (x,y)).2≠v:=λ x y ad s q=>by
  have U:=i x y ad;obtain⟨z,D,N,O,g,m⟩:=qP S d U;rw[D]at q;have q:z=v:=q;subst q;have Z:=sub x (qH ad).1;have Q:=sub y (pe (qH ad).2);rcases s with s | s
  ·exact s ((mem x).mpr ⟨Z,m⟩)
  ·exact s ((mem y).mpr ⟨Q,S.sym _ _ g⟩)
 have sv:∀{x y},x∈A->y∈A->x≠v/\y≠v:=λ Z Q=>⟨λ q=>vA (q ▸ Z),λ q=>vA (q ▸ Q)⟩;refine⟨λ x y ad=>?_,λ x y Z Q U ht=>?_⟩
 ·have Y:Adj T x y->(x∉(f::M++[l])\/y∉(f::M++[l]))->(nxt W (x,y)).2∉A++[v]:=λ ad s z=>by
   rcases cf.mp z with z | z
   ·exact h.up x y ad z
   ·exact new x y ad s (bz.mp z)
  rcases(n x y).mp ad with q | ⟨rfl,rfl⟩ | ⟨rfl,rfl⟩ | q
  ·have r:=(I x y).mpr (.inl q)
   refine Y r ?_;by_cases X:x∈f::M++[l]
   ·right
    intro c2;have g:=hB x (qH q).1 X;have m:=hB y (pe (qH q).2) c2;exact(S.e (i x y r)).2.2 (m.trans g.symm)
   ·exact .inl X
  ·obtain⟨a0,a4⟩:=(mem x).mp fF
   obtain⟨u,D,N,O,g,m⟩:=qP S d (S.sym _ _ a4);rw[D];intro z;rcases cf.mp z with z | z
   ·have uF:=(mem u).mpr ⟨z,g⟩
    have L:(nxt W (u,x)).2=y:=by rw[O]
    rcases h.all u x z a0 m (by rw[L];exact vA) with q | ⟨rfl,rfl⟩
    ·have H:=(S.e m).2.2
     rcases(I u x).mp q with q | q | q
     ·exact H (hB u (qH q).1 uF).symm
     ·exact(fu.mp d2.2.1).1 (qH q).2
     ·have:x∈C:=(qH q).2
      exact d1.2.2 x (cm _ fF) x this rfl
    ·rw[bc]at L
     exact vc L.symm
   ·have:=bz.mp z
    exact(S.e g).2.2 this
  ·obtain⟨a1,a5⟩:=(mem y).mp lF
   obtain⟨u,D,N,O,g,m⟩:=qP S d a5;rw[D];intro z;rcases cf.mp z with z | z
   ·have uF:=(mem u).mpr ⟨z,S.sym _ _ m⟩
    have L:(nxt W (y,u)).2=x:=by rw[N]
    rcases h.all y u a1 z g (by rw[L];exact vA) with q | ⟨rfl,rfl⟩
    ·have H:=(S.e g).2.2
     rcases(I y u).mp q with q | q | q
     ·have:=hB y (qH q).1 lF
      have hu:=hB u (pe (qH q).2) uF;exact H (hu.trans this.symm)
     ·have:∀{p q:Nat},Adj (f::M++[y]) p q->p≠y:=λ s=>xY (R:=f::M) (λ w=>by
       have:=cu.mp d2.2.1;exact this.2.2 y w y (bz.mpr rfl) rfl) s
      exact this q rfl
     ·have:=hC u (dh _ (qH q).2) uF
      exact H this
    ·rw[bc]at L
     exact vc L.symm
   ·have:=bz.mp z
    exact(S.e m).2.2 this.symm
  ·have r:=(I x y).mpr (.inr (.inr q))
   refine Y r ?_;by_cases X:x∈f::M++[l]
   ·right
    intro c2;have g:=hC x (qH q).1 X;have m:=hC y (dh _ (qH q).2) c2;exact(S.e (i x y r)).2.2 (m.trans g.symm)
   ·exact .inl X
 ·have o:(nxt W (x,y)).2∉A:=λ z=>ht (dc _ z)
  have a3:(nxt W (x,y)).2≠v:=λ z=>ht (cm _ (bz.mpr z));have xy:=(S.e U).2.2;rcases cf.mp Z with G | G
  ·rcases cf.mp Q with j | j
   ·rcases h.all x y G j U o with q | q
    ·rcases(I x y).mp q with q | q | q
     ·exact .inl ((n x y).mpr (.inl q))
     ·exact absurd (nz x y q) a3
     ·exact .inl ((n x y).mpr (.inr (.inr (.inr q))))
    ·exact .inr q
   ·have yv:=bz.mp j
    subst yv;have xF:=(mem x).mpr ⟨G,S.sym _ _ U⟩;by_cases xf:x=f
    ·exact .inl ((n x y).mpr (.inr (.inl ⟨xf,rfl⟩)))
    ·have:x∈(f::M++[l]).tail:=by
      rcases eK.mp xF with q | q
      ·exact absurd q xf
      ·exact q
     obtain⟨p,J⟩:=cQ this;obtain⟨z,D,N,O,g,m⟩:=qP S d (i p x ((I p x).mpr (.inr (.inl J))))
     have zv:z=y:=by
      have:=nz p x J;rw[D]at this;exact this
     subst zv;rw[N]at o;exact absurd ((mem p).mp (qH J).1).1 o
  ·have xv:=bz.mp G
   subst xv;rcases cf.mp Q with j | j
   ·have yF:=(mem y).mpr ⟨j,U⟩
    by_cases yl:y=l
    ·exact .inl ((n x y).mpr (.inr (.inr (.inl ⟨rfl,yl⟩))))
    ·have yP:y∈f::M:=by
      rcases cf.mp yF with q | q
      ·exact q
      ·exact absurd (bz.mp q) yl
     obtain⟨p,J⟩:=kCN (l:=l) yP;obtain⟨z,D,N,O,g,m⟩:=qP S d (i y p ((I y p).mpr (.inr (.inl J))))
     have zv:z=x:=by
      have:=nz y p J;rw[D]at this;exact this
     subst zv;rw[O]at o;exact absurd ((mem p).mp (pe (qH J).2)).1 o
   ·exact absurd (bz.mp j) xy
end
end Tri
namespace Fc
open Cyc Rnd Tri
theorem nM:∀{l:List Nat}{p q:Nat}(s:List Nat),Adj l p q->Adj (l++s) p q
 | [],_,_,_,h=>h.elim
 | [_],_,_,_,h=>h.elim
 | i::j::l,p,q,s,h=>by
  rcases h with h | h
  ·exact .inl h
  ·exact .inr (nM (l:=j::l) s h)
def adj_nx{l:List Nat}{p q:Nat}(r:List Nat)(h:Adj l p q):Nx (l++r) p q:=by
 show Adj (l++r++_) p q;rw[bp];exact nM _ h
section
variable {W:Rows} {T off:List Nat} {a b:Nat}
end
end Fc
namespace Tri
open Cyc Rnd
section
variable {W:Rows}
def kTM(S:Nb W)(d:∀ t∈kN W,(nxt W (nxt W t)).2=t.1){ms:List Nat}{a b c:Nat}(o:ms.Nodup)(s:ms.take 2=[a,b])(n:E W a b)(A:(nxt W (b,a)).2=c)(G:c∉ms) :
  ∀{i:Nat}{fs ts:List (List Nat)},i+2<=ms.length->goF W ms i=some (fs,ts)->Bd W (ms.take (i+2)) (ts.getLastD []) a b:=by
 have h0:Top W (ms.take 2) (ms.take 2):=by rw[s];exact uB S n
 intro i
 induction i with
 | zero =>
  intro fs ts _ h;unfold goF at h;have h:=bq h;injection h with h1 h2
  rw[<-h2];show Bd W (ms.take 2) (ms.take 2) a b;rw[s];exact Bd.start S d n
 | succ i ih =>
  intro fs ts O h;obtain⟨L,N,e⟩:=wE (i:=i) (j:=1) h;obtain⟨st,z,Q,I⟩:=zO e h;have TT:=aG o S.sym h0 (by omega) e;have D:ms.getD (i+2) 0∉ms.take (i+2):=xD o (by omega) (by omega);have v:ms[i+2]?=some (ms.getD (i+2) 0):=by rw[aj,ae (by omega)];rfl
  have tk:ms.take (i+1+2)=ms.take (i+2)++[ms.getD (i+2) 0]:=by rw[iq,v];rfl
  have J:ms.getD (i+2) 0≠c:=λ q=>G (q ▸ di v);obtain⟨B,f,M,l,C,r,u,mem,H⟩:=wO TT.nd z
  have m:ts.getLastD []=B++[f,ms.getD (i+2) 0,l]++C:=by
   rw[I,jT,r];exact xC u TT.nd
  rw[m,tk];refine Bd.step (c:=c) S d (ih (by omega) e) TT.nd TT.sub TT.path A J D u (λ q=>?_) (λ x y ad=>?_)
  ·rw[<-r,mem q]
   constructor
   ·rintro⟨p,g⟩
    refine⟨p,?_⟩;rw[aj]at g
    cases w:W[ms.getD (i+2) 0]? with
    | none=>rw[w]at g;cases g
    | some row=>rw[w]at g;exact⟨row,w,g⟩
   ·rintro⟨p,g⟩
    exact⟨p,Fc.mem_row g⟩
  ·exact H (x,y) (by rw[r];exact kHQ ad)
theorem dO:∀{T:List Nat}{x y:Nat},Adj T x y->∃ B C,T=B++x::y::C
 | [],_,_,h=>h.elim
 | [_],_,_,h=>h.elim
 | p::q::r,x,y,h=>by
  rcases h with⟨rfl,rfl⟩ | h
  ·exact⟨[],r,rfl⟩
  ·obtain⟨B,C,e⟩:=dO (T:=q::r) h
   exact⟨p::B,C,by rw[e];rfl⟩
theorem seg{T:List Nat}(nd:T.Nodup):∀{R:List Nat}{x y:Nat},(∀ p q,Adj (x::y::R) p q->Adj T p q)->∃ B C,T=B++(x::y::R)++C
 | [],x,y,h=>by
  obtain⟨B,C,e⟩:=dO (h x y (.inl ⟨rfl,rfl⟩));exact⟨B,C,by rw[e];simp⟩
 | z::R,x,y,h=>by
  obtain⟨B,C,e⟩:=seg nd (R:=R) (x:=y) (y:=z) λ p q a=>h p q (.inr a);obtain⟨b,g,n⟩:=dO (h x y (.inl ⟨rfl,rfl⟩));have d:T=B++y::(z::R++C):=by rw[e];simp
  have c:T=(b++[x])++y::g:=by rw[n];simp
  have:B=b++[x]:=by
   have i:y∉B:=λ q=>by
    rw[d]at nd;exact(cu.mp nd).2.2 y q y (eW ..) rfl
   have m:y∉b++[x]:=λ q=>by
    rw[c]at nd;exact(cu.mp nd).2.2 y q y (eW ..) rfl
   have f:T.idxOf y=B.length:=by rw[d,yc,if_neg i];simp
   have j:T.idxOf y=(b++[x]).length:=by rw[c,yc,if_neg m];simp
   have l:B.length=(b++[x]).length:=f.symm.trans j;have:=congrArg (Fv B.length) (d.symm.trans c);rw[yj rfl,yj l.symm]at this;exact this
  exact⟨b,C,by rw[e,this];simp⟩
def kSD(S:Nb W)(g:∀ t∈kN W,(nxt W (nxt W t)).2=t.1){A T R Q row:List Nat}{a b c v:Nat}(h:Bd W A T a b)(TT:Top W A T)(n:A.Nodup)(J:(nxt W (b,a)).2=c)(X:v≠c)(Y:v∉A)
  (m:W[v]?=some row) (f:Ro row (R++Q)) (i:∀ x∈R,x∈A) (L:∀ x∈Q,x∉A) (two:2<=R.length):stF W T A v=some R:=by
 have step:∀ x y,Adj R x y->(nxt W (x,y)).2=v/\E W x y:=λ x y ad=>by
  have nx:Nx row x y:=(f.nx x y).mpr (Fc.adj_nx Q ad);have O:=mL S.nd ⟨row,m,nx⟩;have N:E W y v:=S.sym _ _ ⟨row,m,f.perm.mem_iff.mpr (dc _ (pe (qH ad).2))⟩;obtain⟨z,r,m2,Z,e1,I⟩:=qP S g N;rw[O]at r;have:x=z:=congrArg tm r;subst this;exact⟨by rw[Z],I⟩
 have d:∀ x y,Adj R x y->Adj T x y:=λ x y ad=>by
  obtain⟨p,U⟩:=step x y ad;rcases h.all x y (i x (qH ad).1) (i y (pe (qH ad).2)) U (by rw[p];exact Y) with q | ⟨rfl,rfl⟩
  ·exact q
  ·rw[J]at p
   exact absurd p.symm X
 match R,two,f,i,step,d with
 | x::y::j,_,f,i,step,d =>
  obtain⟨B,C,u⟩:=seg TT.nd d
  obtain⟨M,l,G⟩ : ∃ M l,x::y::j=x::M++[l]:=by
   have ne:y::j≠[]:=λ z=>by cases z
   exact⟨(y::j).dropLast,(y::j).getLast ne,by rw[ji,eN]⟩
  rw[G]at u f i step ⊢;refine wN TT.nd n u TT.sub (λ q=>?_) (λ t H=>?_)
  ·constructor
   ·intro D
    refine⟨i q D,?_⟩;rw[aj,m];exact f.perm.mem_iff.mpr (dc _ D)
   ·rintro⟨h1,s⟩
    rw[aj,m]at s;rcases cf.mp (f.perm.mem_iff.mp s) with o | o
    ·exact o
    ·exact absurd h1 (L q o)
  ·exact(step t.1 t.2 (bJ (a:=t.1) (b:=t.2) H)).1
end
end Tri
namespace L2
open PySem PySem.Spec PyProof.Rows
def nO(a b c:ar):checkTypeCall "zip" ⟨[a,b,c],[]⟩=pure ():=by kernel_rfl
def sV(a b c:ar):checkBuiltinCall "zip.__new__" ⟨[.type "zip",a,b,c],[]⟩=pure ():=by kernel_rfl
def kER(o a b c:ar):argsOk "object.__init__" ⟨[o,a,b,c],[]⟩:=by first | kernel_rfl | decide +kernel | rfl
abbrev jN(h:iO)(T:av)(a b c:ar):Prop:=h.get? T=some {cls:=.type "tuple",data:=.seq #[a,b,c]}
section
variable {prog:fb} {w:iI} {A:fq} {E:ar->ay->Prop} {s:ay}
def zI{T:av}{a b c x:ar}{k:Nat}{Q:Unit->ay->Prop}(d:jN s.heap T a b c)
  (h:∀ h',h'.get? T=some {cls:=.type "tuple",data:=.seq ((#[a,b,c]:Array ar).setIfInBounds k x)}->jb T s.heap h'->Q () {s with heap:=h'}) :
  dr (model prog w) A (updateSeq T (·.setIfInBounds k x)) Q E s:=by
 refine wpAny_updateSeq d rfl (h _ ?_ (jw ..));rw[qz _ d rfl];simp[ud]
end
structure ZAp3(z TI TO i1 i2 i3:av)(fp1 fp2 fp3:List av):Prop where
 zTI:z≠TI
 zTO:z≠TO
 zi1:z≠i1
 zi2:z≠i2
 zi3:z≠i3
 TOi1:TO≠i1
 TOi2:TO≠i2
 TOi3:TO≠i3
 TITO:TI≠TO
 TIi1:TI≠i1
 TIi2:TI≠i2
 TIi3:TI≠i3
 z1:z∉fp1
 z2:z∉fp2
 z3:z∉fp3
 t1:TO∉fp1
 t2:TO∉fp2
 t3:TO∉fp3
 i2f1:i2∉fp1
 i3f1:i3∉fp1
 i1f2:i1∉fp2
 i3f2:i3∉fp2
 i1f3:i1∉fp3
 i2f3:i2∉fp3
section
variable {prog:fb} {w:iI} {A:fq} {E:ar->ay->Prop} {s:ay} {z TI TO i1 i2 i3:av} {fp1 fp2 fp3:List av} {n1 n2 n3 j:Nat} {P1 P2 P3:Nat->ar->Prop} {S1 S2 S3:Nat->iO->Prop} {a b c:ar}
def kCQ{Q:ar->ay->Prop}(D1:EL prog w A i1 fp1 n1 P1 S1)(D2:EL prog w A i2 fp2 n2 P2 S2)(D3:EL prog w A i3 fp3 n3 P3 S3)(d:ZAp3 z TI TO i1 i2 i3 fp1 fp2 fp3)
  (hz:wq s.heap z TI TO .none) (a1:jN s.heap TI (.ref i1) (.ref i2) (.ref i3)) (a2:jN s.heap TO a b c) (h1:S1 j s.heap) (h2:S2 j s.heap) (h3:S3 j s.heap) (l1:j<n1) (l2:j<n2) (l3:j<n3)
  (hQ:∀ x y v h' tk,P1 j x->P2 j y->P3 j v->wq h' z TI TO (rawInt s.heap.objs.size)->jN h' TO x y v->S1 (j+1) h'->S2 (j+1) h'->S3 (j+1) h'->jN h' s.heap.objs.size x y v ->
   (∀ c o,c≠z->c≠TO->c≠i1->c≠i2->c≠i3->s.heap.get? c=some o->h'.get? c=some o)->Q (.ref s.heap.objs.size) {s with heap:=h',toks:=tk}) :
  dr (model prog w) A (zo.«zip.__next__» ⟨[.ref z],[]⟩) (λ fin s'=>∃ v,fin=.done (.ret v)/\Q v s') E s:=by
 have g:∀{i:Nat}{h h':iO}{c:av},S1 i h->jb c h h'->c∉fp1->S1 i h':=λ st M L=>D1.frame _ _ _ st λ b n o e=>M.extBut b o (λ q=>L (q ▸ n)) e;have l:∀{i:Nat}{h h':iO}{c:av},S2 i h->jb c h h'->c∉fp2->S2 i h':=λ st M L=>D2.frame _ _ _ st λ b n o e=>M.extBut b o (λ q=>L (q ▸ n)) e;have m:∀{i:Nat}{h h':iO}{c:av},S3 i h->jb c h h'->c∉fp3->S3 i h':=λ st M L=>D3.frame _ _ _ st λ b n o e=>M.extBut b o (λ q=>L (q ▸ n)) e;show dr _ _ (field (.ref z) 2 >>= _) _ _ _;refine ai (iY hz rfl (x:=.bool false) rfl ?_);show dr _ _ (field (.ref z) 3 >>= _) _ _ _;refine ai (iY hz rfl (x:=.ref TI) rfl ?_);refine ai (kg a1 rfl ?_);show dr _ _ (iA (.ref z) >>= _) _ _ _;refine ai ?_;unfold iA;refine ai (iY hz rfl (x:=.none) rfl (bj ?_));simp only[if_true];refine ai (xb ?_);refine ai (iY hz rfl (x:=.ref TO) rfl ?_);refine ai (kl hz (by simp) λ g1 Z B=>?_)
 replace Z:wq g1 z TI TO .ellipsis:=Z
 refine ai ?_
 simp only[yp,Av,zm,BQ]
 refine ai (ai (vt ?_));show dr _ _ (gv (.ref i1) >>= _) _ _ _;refine ai (D1.item j _ _ _ l1 (g h1 B d.z1) λ x g2 a7 px a4 G=>bj ?_);have o2:jN g2 TO a b c:=G.extBut _ _ d.TOi1 (B.extBut _ _ d.zTO.symm a2);refine ai (kg o2 rfl ?_);refine ai (zI o2 λ g3 o3 H=>?_)
 replace o3:jN g3 TO x b c:=o3
 refine ai (Al (bj ?_))
 refine ai (ai (vt ?_));show dr _ _ (gv (.ref i2) >>= _) _ _ _;refine ai (D2.item j _ _ _ l2 (l (l (l h2 B d.z2) G d.i1f2) H d.t2) λ y g4 a8 py a5 C=>bj ?_);have o4:jN g4 TO x b c:=C.extBut _ _ d.TOi2 o3;refine ai (kg o4 rfl ?_);refine ai (zI o4 λ g5 o5 I=>?_)
 replace o5:jN g5 TO x y c:=o5
 refine ai (Al (bj ?_))
 refine ai (ai (vt ?_));show dr _ _ (gv (.ref i3) >>= _) _ _ _;refine ai (D3.item j _ _ _ l3 (m (m (m (m (m h3 B d.z3) G d.i1f3) H d.t3) C d.i2f3) I d.t3) λ v g6 a9 a3 a0 J=>bj ?_);have o6:jN g6 TO x y c:=J.extBut _ _ d.TOi3 o5;refine ai (kg o6 rfl ?_);refine ai (zI o6 λ f o7 D=>?_)
 replace o7:jN f TO x y v:=o7
 refine ai (Al (bj (bj ?_)))
 refine ai (kg o7 rfl ?_);refine ai (Cw ?_);have sz:f.objs.size=s.heap.objs.size:=by rw[D.1,J.1,I.1,C.1,H.1,G.1,B.1]
 have z7:wq f z TI TO .ellipsis:=D.extBut _ _ d.zTO (J.extBut _ _ d.zi3 (I.extBut _ _ d.zTO (C.extBut _ _ d.zi2 (H.extBut _ _ d.zTO (G.extBut _ _ d.zi1 Z)))))
 have k7:∀ c o,c≠z->c≠TO->c≠i1->c≠i2->c≠i3->s.heap.get? c=some o->f.get? c=some o:=λ c o u T c3 c4 c5 e =>
  D.extBut _ _ T (J.extBut _ _ c5 (I.extBut _ _ T (C.extBut _ _ c4 (H.extBut _ _ T (G.extBut _ _ c3 (B.extBut _ _ u e))))))
 have a6:S1 (j+1) f:=g (g (g (g (g a4 H d.t1) C d.i2f1) I d.t1) J d.i3f1) D d.t1;have O:S2 (j+1) f:=l (l (l a5 I d.t2) J d.i3f2) D d.t2;have N:S3 (j+1) f:=m a0 D d.t3;have S:z<f.objs.size:=cg z7;show dr _ _ (om (.ref z) (.ref f.objs.size) >>= _) _ _ _;refine ai ?_;unfold om;have z8:wq (f.push {cls:=.type "tuple",data:=.seq #[x,y,v]}) z TI TO .ellipsis:=au _ z7;refine ai (kl z8 (by simp) λ g9 z9 s9=>?_)
 replace z9:wq g9 z TI TO (rawInt f.objs.size):=z9
 refine kl z9 (by simp) λ r p X=>?_
 replace p:wq r z TI TO (rawInt f.objs.size):=p
 have Y:∀ c o,c≠z->f.get? c=some o->r.get? c=some o:=λ c o u e=>X.extBut _ _ u (s9.extBut _ _ u (au _ e));have U:jN r f.objs.size x y v:=X.extBut _ _ (jc S) (s9.extBut _ _ (jc S) (cj _ rfl));rw[sz]at p U;refine bj ⟨_,rfl,?_⟩;show Q (.ref f.objs.size) _;rw[sz];exact hQ x y v r _ px py a3 p (Y _ _ d.zTO.symm o7) (D1.frame _ _ _ a6 λ b n o e=>Y b o (λ q=>d.z1 (q ▸ n)) e) (D2.frame _ _ _ O λ b n o e=>Y b o (λ q=>d.z2 (q ▸ n)) e) (D3.frame _ _ _ N λ b n o e=>Y b o (λ q=>d.z3 (q ▸ n)) e) U λ c o u T c3 c4 c5 e=>Y c o u (k7 c o u T c3 c4 c5 e)
def kHX{Q:uq->ay->Prop}(r:EL prog w A i1 fp1 n1 P1 S1)(l:ZAp3 z TI TO i1 i2 i3 fp1 fp2 fp3)
  (hz:wq s.heap z TI TO .none) (h:jN s.heap TI (.ref i1) (.ref i2) (.ref i3)) (C:jN s.heap TO a b c) (h1:S1 n1 s.heap)
  (D:∀ h' e,(∀ c o,c≠z->c≠TO->c≠i1->c≠i2->c≠i3->s.heap.get? c=some o->h'.get? c=some o)->(∃ o,h'.get? e=some o/\o.cls=.type "StopIteration")->E (.ref e) {s with heap:=h'}) :
  dr (model prog w) A (zo.«zip.__next__» ⟨[.ref z],[]⟩) Q E s:=by
 show dr _ _ (field (.ref z) 2 >>= _) _ _ _;refine ai (iY hz rfl (x:=.bool false) rfl ?_);show dr _ _ (field (.ref z) 3 >>= _) _ _ _;refine ai (iY hz rfl (x:=.ref TI) rfl ?_);refine ai (kg h rfl ?_);show dr _ _ (iA (.ref z) >>= _) _ _ _;refine ai ?_;unfold iA;refine ai (iY hz rfl (x:=.none) rfl (bj ?_));simp only[if_true];refine ai (xb ?_);refine ai (iY hz rfl (x:=.ref TO) rfl ?_);refine ai (kl hz (by simp) λ u g m=>?_)
 replace g:wq u z TI TO .ellipsis:=g
 refine ai ?_;simp only[yp,Av,zm,BQ];refine ai (ai (vt ?_));show dr _ _ (gv (.ref i1) >>= _) _ _ _;refine ai (r.done _ _ _ (r.frame _ _ _ h1 λ b J o e=>m.extBut b o (λ q=>l.z1 (q ▸ J)) e) λ B e n y=>?_);obtain⟨I,d,f⟩:=y;have i:wq B z TI TO .ellipsis:=n _ _ l.zi1 g;have G:e≠z:=λ q=>by subst q;rw[i]at d;cases d;simp at f
 exact kl i (by simp) λ v _ p=>D v e (λ c o j _ H _ _ q=>p.extBut _ _ j (n _ _ H (m.extBut _ _ j q))) ⟨I,p.extBut _ _ G d,f⟩
end
def tU(c i u:Bool)(a b f:av)(xs ys zs:Array ar) :
  Meets (zo.«zip.__new__» ⟨[.type "zip",.ref a,.ref b,.ref f],[]⟩) (λ _ R s=>SqOf c s.heap a xs/\SqOf i s.heap b ys/\SqOf u s.heap f zs /\
   ∀(m q n v r D:iO),m=s.heap.push {cls:=.type (yW c),data:=.fields #[.ref a,.int 0 0]}->q=m.push {cls:=.type (yW i),data:=.fields #[.ref b,.int 0 0]}->n=q.push {cls:=.type (yW u),data:=.fields #[.ref f,.int 0 0]} ->
    v=n.push {cls:=.type "tuple",data:=.seq #[.ref s.heap.objs.size,.ref m.objs.size,.ref q.objs.size]}->r=v.push {cls:=.type "tuple",data:=.seq #[.none,.none,.none]} ->
    D=r.push {cls:=.type "zip",data:=.fields #[.none,.bool false,.bool false,.ref n.objs.size,.ref v.objs.size]}->R (.ok (.ret (.ref r.objs.size))) {s with heap:=D}) :=
 .of_wp λ C w A R s h=>by
  obtain⟨hp,g,d,tk,os⟩:=s;obtain⟨l,p,y,h⟩:=h;have G:=sub_zip;have j:SqOf c (Aj ⟨hp,g,d,tk,os⟩) a xs:=l;have x:SqOf i (Aj ⟨hp.push {cls:=.type (yW c),data:=.fields #[.ref a,.int 0 0]},g,d,tk,os⟩) b ys:=p.at λ o e=>au _ e;have B:SqOf u (Aj ⟨(hp.push {cls:=.type (yW c),data:=.fields #[.ref a,.int 0 0]}).push {cls:=.type (yW i),data:=.fields #[.ref b,.int 0 0]},g,d,tk,os⟩) f zs:=y.at λ o e=>au _ (au _ e);have h:=h _ _ _ _ _ _ rfl rfl rfl rfl rfl rfl
  wp_walk using cB j,cB x,cB B
  exact⟨_,rfl,h⟩
section
variable {prog:fb} {w:iI} {A:fq} {E:ar->ay->Prop} {s:ay}
def tQ{r q p:Bool}{l f i:av}{xs ys zs:Array ar}{Q:ar->ay->Prop}(h1:SqOf r s.heap l xs)(h2:SqOf q s.heap f ys)(h3:SqOf p s.heap i zs)
  (h:∀ h',wq h' (s.heap.objs.size+5) (s.heap.objs.size+3) (s.heap.objs.size+4) .none->jN h' (s.heap.objs.size+3) (.ref s.heap.objs.size) (.ref (s.heap.objs.size+1)) (.ref (s.heap.objs.size+2)) ->
   jN h' (s.heap.objs.size+4) .none .none .none->ItOf r h' s.heap.objs.size l 0->ItOf q h' (s.heap.objs.size+1) f 0->ItOf p h' (s.heap.objs.size+2) i 0->(∀ c o,s.heap.get? c=some o->h'.get? c=some o)->Q (.ref (s.heap.objs.size+5)) {s with heap:=h'}) :
  dr (model prog w) A (call (.type "zip") [.ref l,.ref f,.ref i]) Q E s:=by
 refine Dl GA (by decide) (nO _ _ _) (sV _ _ _) (λ obj=>kER obj _ _ _) ES (tU r q p l f i xs ys zs) ⟨h1,h2,h3,?_⟩;intro a d g n v b I D J M B U;have N:a.objs.size=s.heap.objs.size+1:=by rw[I];exact ip ..
 have y:d.objs.size=s.heap.objs.size+2:=by rw[D,ip,N]
 have G:g.objs.size=s.heap.objs.size+3:=by rw[J,ip,y]
 have H:n.objs.size=s.heap.objs.size+4:=by rw[M,ip,G]
 have S:v.objs.size=s.heap.objs.size+5:=by rw[B,ip,H]
 have u1:∀ c o,s.heap.get? c=some o->a.get? c=some o:=λ c o e=>by rw[I];exact au _ e
 have Z:∀ c o,a.get? c=some o->d.get? c=some o:=λ c o e=>by rw[D];exact au _ e
 have L:∀ c o,d.get? c=some o->g.get? c=some o:=λ c o e=>by rw[J];exact au _ e
 have u:∀ c o,g.get? c=some o->n.get? c=some o:=λ c o e=>by rw[M];exact au _ e
 have m:∀ c o,n.get? c=some o->v.get? c=some o:=λ c o e=>by rw[B];exact au _ e
 have j:∀ c o,v.get? c=some o->b.get? c=some o:=λ c o e=>by rw[U];exact au _ e
 have C:wq b v.objs.size g.objs.size n.objs.size .none:=by rw[U];exact cj _ rfl
 have O:jN b n.objs.size .none .none .none:=j _ _ (by rw[B];exact cj _ rfl);have X:jN b g.objs.size (.ref s.heap.objs.size) (.ref a.objs.size) (.ref d.objs.size):=j _ _ (m _ _ (by rw[M];exact cj _ rfl));have i1:ItOf r b s.heap.objs.size l 0:=ItOf.at (h:=a) (by rw[I];exact ItOf.new r s.heap l) λ o e=>j _ _ (m _ _ (u _ _ (L _ _ (Z _ _ e))));have Y:ItOf q b a.objs.size f 0:=ItOf.at (h:=d) (by rw[D];exact ItOf.new q a f) λ o e=>j _ _ (m _ _ (u _ _ (L _ _ e)));have T:ItOf p b d.objs.size i 0:=ItOf.at (h:=g) (by rw[J];exact ItOf.new p d i) λ o e=>j _ _ (m _ _ (u _ _ e));show _/\_;rw[G,H,S]at C;rw[N,y,G]at X;rw[H]at O;rw[N]at Y;rw[y]at T;rw[S];exact⟨⟨_,C,rfl⟩,h _ C X O i1 Y T λ c o x=>j _ _ (m _ _ (u _ _ (L _ _ (Z _ _ (u1 _ _ x)))))⟩
end
def Inv.handed3{X:Cx}{a:List (av×Obj)}{d:St}{H:Hp}{s:ay}{h':iO}{t':Nat}{ch:List av}{x y z:V}{u v r:ar}(I:Inv X a d H s)(n:RelV x u)(C:RelV y v)(j:RelV z r)
  (i:h'.get? s.heap.objs.size=some {cls:=.type "tuple",data:=.seq #[u,v,r]}) (k:∀ b o,b∉ch->s.heap.get? b=some o->h'.get? b=some o) (h:∀ b∈ch,yX X a H b) (f:∀ b∈ch,b<s.heap.objs.size) :
  Inv X a d (upd H s.heap.objs.size (.tup [x,y,z])) {s with heap:=h',toks:=t'}/\(∀ b∈ch,upd H s.heap.objs.size (.tup [x,y,z]) b=none):=by
 have g:∀ b∈ch,upd H s.heap.objs.size (.tup [x,y,z]) b=none:=λ b c=>by rw[kM (eA (f b c))];exact(h b c).1
 have B:Inv X a d (upd H s.heap.objs.size (.tup [x,y,z])) {s with heap:=s.heap.push {cls:=.type "tuple",data:=.seq #[u,v,r]},toks:=s.toks} :=
  I.laid (λ b o e=>au _ e) (be _) ⟨by simp only[iQ,yh];rw[Bk];decide,[u,v,r],.cons n (.cons C (.cons j .nil)),⟨_,cj _ rfl,rfl,0,rfl,rfl⟩⟩
 have m:=Inv.turnedL (h':=h') (t':=t') (ch:=ch) B (λ b o c e=>by
  rcases Cv e with⟨rfl,rfl⟩ | e
  ·exact i
  ·exact k b o c e) (λ b c=>by
  obtain⟨G,D,l,A,q,p⟩:=h b c;exact⟨g b c,D,l,A,q,p⟩)
 exact⟨m,g⟩
def kOS(h l j : Bool)(K : az)(a b c : av) : It :=
  ⟨λ i H => ∃ d g f x y z, SqX K h H a d /\ SqX K l H b g /\ SqX K j H c f /\ d[i]? = some x /\ g[i]? = some y /\ f[i]? = some z,
   λ i H v m => ∃ T x y z, H T = none /\ v = .ref T /\ (∀ d, SqX K h H a d -> d[i]? = some x) /\ (∀ g, SqX K l H b g -> g[i]? = some y) /\ (∀ f, SqX K j H c f -> f[i]? = some z) /\ m = upd H T (.tup [x, y, z]),
   λ i H => ∃ d, SqX K h H a d /\ d.length = i⟩
def kID{P:fb}{w:iI}{K:az}{a5:List iS} {x1} {a6:Pos} (k1 k2 k3:Bool) (a b c z TI TO n G B:av) (m:ZAp3 z TI TO n G B [n,a] [G,b] [B,c]) :
  Turn P w K (.Tuple a5 x1 a6) (kOS k1 k2 k3 K a b c) [z,TO,n,G,B,TI] z
   (λ i h=>wq h z TI TO .none/\jN h TI (.ref n) (.ref G) (.ref B)/\(∃ u v r,jN h TO u v r)/\ItOf k1 h n a i/\ItOf k2 h G b i/\ItOf k3 h B c i) where
 mem:=by simp
 obj:=λ i h st e he=>by
  obtain⟨L,f,⟨u,v,r,j⟩,h1,M,N⟩:=st;simp only[eK,si,or_false]at he;rcases he with rfl | rfl | rfl | rfl | rfl | rfl
  ·exact⟨_,L,λ v q=>by cases q⟩
  ·exact⟨_,j,λ v q=>by cases q⟩
  ·exact h1.live
  ·exact M.live
  ·exact N.live
  ·exact⟨_,f,λ v q=>by cases q⟩
 keep:=λ i h h' st O=>by
  obtain⟨L,f,⟨u,v,r,j⟩,h1,M,N⟩:=st;exact⟨O z (by simp) _ L,O TI (by simp) _ f,⟨u,v,r,O TO (by simp) _ j⟩,h1.at λ o q=>O n (by simp) o q,M.at λ o q=>O G (by simp) o q,N.at λ o q=>O B (by simp) o q⟩
 item:=by
  intro X hP hw hK hc i a3 s σ H E I hf st hg;subst hP hw hK;obtain⟨L,f,⟨u0,v0,r0,j⟩,h1,M,N⟩:=st;obtain⟨xs,ys,zs,x,y,zz,a1,a2,Q,hx,hy,Z⟩:=hg;obtain⟨J,ac,p1⟩:=I.sq a1;obtain⟨C,ax,p2⟩:=I.sq a2;obtain⟨D,an,p3⟩:=I.sq Q;obtain⟨u,hu,ru⟩:=ac.get hx;obtain⟨v,hv,rv⟩:=ax.get hy;obtain⟨r,hr,rr⟩:=an.get Z;have D1:=xR (prog:=X.prog) (w:=X.w) (A:=X.A.in1) (I.ok.hd hc) k1 n a (aL p1 h1) J.toArray;have D2:=xR (prog:=X.prog) (w:=X.w) (A:=X.A.in1) (I.ok.hd hc) k2 G b (aL p2 M) C.toArray;have D3:=xR (prog:=X.prog) (w:=X.w) (A:=X.A.in1) (I.ok.hd hc) k3 B c (aL p3 N) D.toArray;have a0:i<J.toArray.size:=by simpa using(ao.mp hu).1
  have a4:i<C.toArray.size:=by simpa using(ao.mp hv).1
  have Y:i<D.toArray.size:=by simpa using(ao.mp hr).1
  have hT:s.TypeIs (.ref z) "zip":=⟨_,L,rfl⟩;unfold pyNext
  refine ai (zf (ka (name:=xa "__next__") hT tf (mo tf hT Ad
   (kCQ D1 D2 D3 m L f j ⟨h1,p1⟩ ⟨M,p2⟩ ⟨N,p3⟩ a0 a4 Y λ u' v' r' h' tk a7 as am z' o' aw af ag t' hk=>bj ?_) (AO _))))
  have eu:u'=u:=by
   have q:J[i]?=some u':=by simpa using a7
   rw[hu]at q;exact(bq q).symm
  have ev:v'=v:=by
   have q:C[i]?=some v':=by simpa using as
   rw[hv]at q;exact(bq q).symm
  have er:r'=r:=by
   have q:D[i]?=some r':=by simpa using am
   rw[hr]at q;exact(bq q).symm
  subst eu ev er;refine⟨_,rfl,Be z' λ g aa l=>?_⟩;have aq:z<s.heap.objs.size:=cg L;have b3:TO<s.heap.objs.size:=cg j;have b1:n<s.heap.objs.size:=let ⟨_,e,_⟩:=h1.live;cg e;have b0:G<s.heap.objs.size:=let ⟨_,e,_⟩:=M.live;cg e;have b2:B<s.heap.objs.size:=let ⟨_,e,_⟩:=N.live;cg e;have U:TI<s.heap.objs.size:=cg f;have ab:g.get? s.heap.objs.size=some {cls:=.type "tuple",data:=.seq #[u',v',r']}:=l.extBut _ _ (jc aq) t'
  obtain⟨I2,n2⟩:=I.handed3 (t':=tk) (ch:=[z,TO,n,G,B]) ru rv rr ab (λ c o d q=>l.extBut c o (λ e=>d (by simp[e])) (hk c o (λ e=>d (by simp[e])) (λ e=>d (by simp[e])) (λ e=>d (by simp[e])) (λ e=>d (by simp[e])) (λ e=>d (by simp[e])) q))
   (λ c d=>hf c (by simp at d ⊢;rcases d with e | e | e | e | e<;>simp[e]))
   (λ c d=>by simp at d;rcases d with rfl | rfl | rfl | rfl | rfl<;>assumption)
  refine⟨.ref s.heap.objs.size,_,I2,rfl,⟨_,x,y,zz,I.hok.fresh (be _),rfl,(λ b5 a8=>by rw[I.sq_inj a8 a1];exact hx),(λ b4 al=>by rw[I.sq_inj al a2];exact hy),(λ b6 a9=>by rw[I.sq_inj a9 Q];exact Z),rfl⟩,?_,λ c d=>?_⟩
  ·exact⟨aa,l.extBut _ _ m.zTI.symm (hk _ _ m.zTI.symm m.TITO m.TIi1 m.TIi2 m.TIi3 f),⟨_,_,_,l.extBut _ _ m.zTO.symm o'⟩,aw.1.at λ o q=>l.extBut n o m.zi1.symm q,af.1.at λ o q=>l.extBut G o m.zi2.symm q,ag.1.at λ o q=>l.extBut B o m.zi3.symm q⟩
  ·by_cases e:c=TI
   ·subst e
    rw[kM (eA U)];exact(hf c (by simp)).1
   ·exact n2 c (by simp at d ⊢;rcases d with q | q | q | q | q | q<;>simp_all)
 done:=by
  intro X hP hw hK hc i a3 s σ H E I hf st hg;subst hP hw hK;obtain⟨L,f,⟨u0,v0,r0,j⟩,h1,M,N⟩:=st;obtain⟨xs,hq,hx⟩:=hg;obtain⟨S,rv,p⟩:=I.sq hq;have D1:=xR (prog:=X.prog) (w:=X.w) (A:=X.A.in1) (I.ok.hd hc) k1 n a (aL p h1) S.toArray;have hl:S.toArray.size=i:=by rw[<-hx,rv.length];simp
  have hT:s.TypeIs (.ref z) "zip":=⟨_,L,rfl⟩;unfold pyNext
  refine ai (zf (ka (name:=xa "__next__") hT tf (mo tf hT Ad
   (kHX D1 m L f j ⟨hl ▸ h1,p⟩ λ h' e hk he=>?_) (AO _))))
  obtain⟨o,ho,ah⟩:=he;refine ai (CI (T:="StopIteration") (b:=true) ⟨o,ho,ah⟩ Ew ?_)
  refine bj ⟨rfl,I.turnedL (t':=s.toks) (ch:=[z,TO,n,G,B]) (λ c o d q=>hk c o (λ e=>d (by simp[e])) (λ e=>d (by simp[e])) (λ e=>d (by simp[e])) (λ e=>d (by simp[e])) (λ e=>d (by simp[e])) q)
   (λ c d=>hf c (by simp at d ⊢;rcases d with e | e | e | e | e<;>simp[e]))⟩
 self:=λ _ _ _ _ _ st h=>Ae st.1 h
def kVW(n a b c:Nat)(h:a<n)(i:b<n)(g:c<n):ZAp3 (n+5) (n+3) (n+4) n (n+1) (n+2) [n,a] [n+1,b] [n+2,c]:=by
 have q:∀{x y u:Nat},x≠y->x≠u->¬ x∈[y,u]:=λ h1 d f=>by
  rcases eK.mp f with e | e
  ·exact h1 e
  ·exact d (bz.mp e)
 constructor<;>first | (intro e;have e:(_:Nat)=_:=e;omega) | exact q (λ e=>by have e:(_:Nat)=_:=e;omega) (λ e=>by have e:(_:Nat)=_:=e;omega)
section
variable {X:Cx}
inductive kNG(k1:Bool)(k2:Bool)(k3:Bool)(K:az)(R:It->Hp->Prop)(vs:List V)(H1:Hp):Prop
 | mk:∀ a b c,(vs=[.ref a,.ref b,.ref c])->((∃ xs,SqX K k1 H1 a xs))->((∃ ys,SqX K k2 H1 b ys))->((∃ zs,SqX K k3 H1 c zs))->(R (kOS k1 k2 k3 K a b c) H1)->kNG k1 k2 k3 K R vs H1
def kVB(h g a:Bool)(K:az)(b:TA):TI:=λ f H R=>b f H λ d c=>kNG h g a K R d c
def kPL(k1 Z Y:Bool){a b c:iS}{S:TA}{p n m:Pos}{o:List iS} {x1} (hg:Gl X "zip") (hm:X.mg "zip" = none) (ha:PA X [a,b,c] S) (hs:starEach [a,b,c] X.env=[(false,eval a X.env),(false,eval b X.env),(false,eval c X.env)]:=by rfl) (j:starEach [b,c] X.env=[(false,eval b X.env),(false,eval c X.env)]:=by rfl) :
  PI X (.Tuple o x1 m) (.Call (.Name "zip" p) [a,b,c] [] n) (kVB k1 Z Y X.K S):=by
 intro g s σ H R I h;refine Fn (wK I hg hm boot_zip (ir (thn (ha n g s σ H _ I h) λ us d ⟨vs,M,i,B,q1⟩=>?_) (by rw[hs,j]) (by rw[j];rfl)));obtain⟨l1,l2,l3,rfl,⟨xs,D⟩,⟨ys,u⟩,⟨zs,x⟩,q⟩:=q1
 cases B with
 | cons r B =>
 obtain⟨v,v',rfl,r',A⟩:=kEW B;cases r
 cases r'
 cases A
 obtain⟨U,a1,p1⟩:=i.sq D;obtain⟨T,a2,p2⟩:=i.sq u;obtain⟨O,a0,N⟩:=i.sq x;have L:=p1.lt;have J:=p2.lt;have y:=N.lt;refine tQ p1 p2 N λ h' Q C G h1 h2 h3 hk=>?_;refine Ae (s:={d with heap:=h'}) Q ?_
 have f:∀ c,d.heap.objs.size<=c->yX X g M c:=λ c l=>i.fpOk l (i.hok.fresh l)
 refine⟨_,[d.heap.objs.size+5,d.heap.objs.size+4,d.heap.objs.size,d.heap.objs.size+1,d.heap.objs.size+2,d.heap.objs.size+3],_,_,M,rfl,i.kept (t':=d.toks) hk,
  kID k1 Z Y l1 l2 l3 _ _ _ _ _ _ (kVW _ _ _ _ L J y),⟨Q,C,⟨_,_,_,G⟩,h1,h2,h3⟩,λ c l=>?_,q⟩
 simp at l;rcases l with rfl | rfl | rfl | rfl | rfl | rfl<;>exact f _ (by omega)
end
def kNR{j h f:Bool}{K:az}{a b c:av}{xs ys zs:List V}{g:TG}{r:TS}{D:Ends}{d:St}{H:Hp}(Pv:Nat->St->Hp->Prop)(S:xs.length<=ys.length)(I:xs.length<=zs.length)(h0:Pv 0 d H)
  (B:∀ i d H,i<=xs.length->Pv i d H->SqX K j H a xs/\SqX K h H b ys/\SqX K f H c zs)
  (C:∀ i x y z T d H,xs[i]?=some x->ys[i]?=some y->zs[i]?=some z->H T=none->Pv i d H->g (.ref T) d (upd H T (.tup [x,y,z])) λ σ2 H2=>r {D with nx:=Pv (i+1),ct:=Pv (i+1),bk:=D.nx} σ2 H2) (L:∀ d H,Pv xs.length d H->D.nx d H) :
  ∃ W:Nat->Nat->St->Hp->Prop,(∃ m,W 0 m d H)/\∀ i m d H,W i m d H ->
   ((kOS j h f K a b c).stop i H/\D.nx d H)\/((kOS j h f K a b c).go i H/\∃ N:St->Hp->Prop,(∀ σ' H',N σ' H'->∃ m',m'<m/\W (i+1) m' σ' H')/\∀ x H',(kOS j h f K a b c).yld i H x H'->g x d H' λ σ2 H2=>r {D with nx:=N,ct:=N,bk:=D.nx} σ2 H2):=by
 refine⟨λ i m d H=>m=xs.length-i/\i<=xs.length/\Pv i d H,⟨xs.length,by simp,iG _,h0⟩,?_⟩;rintro i m d H ⟨rfl,n,p⟩;obtain⟨l,o,s⟩:=B i d H n p;by_cases M:i<xs.length
 ·refine .inr ⟨⟨xs,ys,zs,xs[i],ys[i]'(by omega),zs[i]'(by omega),l,o,s,by simp[M],by simp[show i<ys.length by omega],by simp[show i<zs.length by omega]⟩,Pv (i+1),λ σ' H' q=>⟨xs.length-(i+1),by omega,rfl,by omega,q⟩,λ x H' A=>?_⟩
  obtain⟨T,O,U,G,v,rfl,J,u,Q,rfl⟩:=A;exact C i O U G T d H (J xs l) (u ys o) (Q zs s) v p
 ·have:i=xs.length:=by omega
  subst this;exact .inl ⟨⟨xs,l,rfl⟩,L d H p⟩
section
variable {X:Cx} {tg iter kx vx:iS} {ifs:List iS} {sc:wc} {pos py spos:Pos} {Nc:List Str} {js:List (Option Nat)} {wi:TI} {i:Nat} {y:Str}
def kPK{g:TG}{bd:av->TB}(hx:X.xe=λ _ _=>False)(hc:X.calm=true)(hN:X.N.Nodup)(a6:X.N[i]?=some y)(hy:Loc X.env.scope y)(hi:PI X tg iter wi)(S:CS sc X.env.scope)(a8:cL js Nc X.N sc.names=true)
  (hg:∀ C s₂ H₂ fp pins,PG (cxC X Nc sc C s₂ H₂ fp pins) tg g)
  (n:∀ C s₂ H₂ fp pins D L,PTl (cxC X Nc sc C s₂ H₂ fp pins) (xZ ifs (cxC X Nc sc C s₂ H₂ fp pins).env (pX kx vx (cxC X Nc sc C s₂ H₂ fp pins).env (.ref D)) L) L (bd D))
  (hs:∀ x,foldedSetIterable iter X.env x=pure x:=by intro _;rfl)
  (a5:swapsWith (.DictComp kx vx [⟨tg,iter,ifs,0⟩] sc pos) (some (.Name y py)) spos.line X.env=pure true:=by rfl)
  (hf:X.fn y=true\/X.env.scope.names.lookup y=some .local:=by first | exact .inl rfl | exact .inr rfl | assumption) :
  PS X (.Assign [.Name y py] (.DictComp kx vx [⟨tg,iter,ifs,0⟩] sc pos) spos) (kKZ (tDC js wi g bd) (mV i)):=by
 intro pins s σ H D0 I h;have aa:closureFor sc X.env=pure (aK sc X.env):=yL λ y hy hf=>I.ok.has y.1 (.inl (S.free y hy hf));rw[Cp _ _ _ _ a5];refine ai (xm (ai ?_));show dr _ X.A (do let _ <-comprehension (.DictComp kx vx [⟨tg,iter,ifs,0⟩] sc pos) sc X.env _ (newDict) false (eval iter X.env) (some (assign (.Name y py) X.env))) _ _ s
 refine ai (vi (ox (use:=some (assign (.Name y py) X.env)) (Q:=λ _ u=>SP X pins D0 .next u) rfl hs aa S.kind S.names
  (thn (hi pins s σ H _ I h) λ v s1 h1=>thn h1 λ af f Y=>?_)) (λ _ u hq=>bj (bj hq)) λ _ _ e=>e)
 obtain⟨it,fp,tn,J,Z,e,U,T,a0,f2,hw⟩:=Y;subst e;have B:∀ b∈fp,b<f.heap.objs.size:=λ b n=>let ⟨o,ho,_⟩:=T.obj _ _ a0 b n;cg ho;refine jh (sd S.nocell (by intro y hy;simp at hy) (λ m j d=>?_) S.kind);dsimp only at j d ⊢;generalize O:f.heap.push {cls:=.type "dict",dict:=none,data:=.dict #[]}=G at j d ⊢;have ah:G.objs.size=f.heap.objs.size+1:=by rw[<-O,ip]
 have a3:f.heap.objs.size≠G.objs.size:=by omega
 have l:f.heap.objs.size<=G.objs.size:=by omega
 have a4:∀ b o,f.heap.get? b=some o->m.get? b=some o:=λ b o e=>d.extBut b o (eA (cv (cg e) l)) (au _ (O ▸ au _ e));have a2:m.get? f.heap.objs.size=some {cls:=.type "dict",dict:=none,data:=.dict #[]}:=d.extBut _ _ a3 (au _ (O ▸ cj _ rfl))
 have new:ObjOk X.prog X.w (upd Z f.heap.objs.size (.dK [])) m f.heap.objs.size (.dK []):=by
  refine⟨iG _,beq_eq_false_iff_ne.mpr (sj (eA U.big)),[],.nil,?_⟩;obtain⟨o,es,ep,h1,rest⟩:=EU (knd:=qG X.prog X.w) f.heap;have Y:(f.heap.push {cls:=.type "dict",dict:=none,data:=.dict #[]}).get? f.heap.objs.size=some {cls:=.type "dict",dict:=none,data:=.dict #[]}:=cj _ rfl;have h3:=h1.symm.trans Y;exact⟨o,es,ep,a2.trans h3.symm,rest⟩
 have I4:=wS (js:=js) (Nc:=Nc) (tk:=f.toks+([]:List (Str×ar)).length) U S f2 B a8 l (be _) a3 a4 j new;have hn:Z f.heap.objs.size=none:=U.fresh
 have f4:∀ b∈fp,yX (cxC X Nc sc G.objs.size f Z fp pins) [] (upd Z f.heap.objs.size (.dK [])) b:=λ b n=>by
  obtain⟨h0,h1,Y,h3,h4,h5⟩:=f2 b n;refine⟨?_,eA (cv (B b n) l),λ z=>?_,.inl n,λ x c z=>?_,λ p hp=>?_⟩
  ·rw[kM (eA (B b n))];exact h0
  ·rcases eK.mp (U.stkSub b z) with q | q
   ·exact h1 q
   ·exact Y q
  ·exact h4 x c (cK sc.names [] (λ z=>nomatch z) z)
  ·rcases cf.mp hp with z | z
   ·exact h5 p z
   ·exact absurd z (by simp)
 have a1:tn 0 m:=T.keep _ _ _ a0 λ b n o e=>a4 b o e
 have r:codeAny (model X.prog X.w) X.A (.compLoop (.DictComp kx vx [⟨tg,iter,ifs,0⟩] sc pos) 0 (.ref it) (.ref f.heap.objs.size) (compEnvC sc (aK sc X.env) G.objs.size X.env))
   (compPost (model X.prog X.w) X.A X.xe (some (assign (.Name y py) X.env)) (λ _ u=>SP X pins D0 .next u) (.ref f.heap.objs.size) G.objs.size) {f with heap:=m,toks:=f.toks+([]:List (Str×ar)).length}:=by
  refine yK (X:=cxC X Nc sc G.objs.size f Z fp pins) (.inr ⟨kx,vx,rfl⟩) hx hc (rH _ _ _ _ _ _ _ _ _ _) T (hg _ _ _ _ _) (n _ _ _ _ _ _ _) I4 a1 f4 (hw _ hn) λ ag H' u I' q=>?_;obtain⟨m',a9,_⟩:=I'.loc;have IB:Inv X pins σ H' {u with heap:=u.heap}:=wU U f2 l I' (AJ ..)
  have nC:H' G.objs.size=none:=I'.free;have fC:yX X pins H' G.objs.size:=U.fpOk l nC;show dr _ X.A (assign (.Name y py) X.env (.ref f.heap.objs.size)) _ _ u;refine Bi (cU (v:=.ref f.heap.objs.size) IB hN a6 hy rfl (λ ac IC a7=>?_) hf);obtain⟨a,sb,ha⟩:=a7
  have aC:G.objs.size≠a:=by
   rcases ha with rfl | ha
   ·exact fC.2.1
   ·exact λ z=>fC.2.2.2.2.1 y a ha z.symm
  refine⟨m',a9.sameBut sb aC,λ h' ab=>?_⟩;exact⟨_,H',IC.turnedL (t':=ac.toks) (ch:=[G.objs.size]) (λ b o M e=>ab.extBut b o (λ z=>M (by simp[z])) e) (λ b M=>by rw[bz.mp M];exact fC),q⟩
 exact xV (.inr ⟨kx,vx,rfl⟩) rfl rfl r (T.self _ _ _ _ _ a1 r)
end
section
variable {X:Cx} {tg iter el tg2 iter2:iS} {ifs2:List iS} {wi2:TI} {g2:TG} {sc:wc} {pos py spos:Pos} {Nc:List Str} {js:List (Option Nat)} {wi:TI} {i:Nat} {y:Str}
end
end L2
namespace Tri
open Cyc Rnd
theorem kFU{P:Nat->Prop}{w:Nat}:∀{l:List Nat}{p:Nat},(p::l).Nodup->(p::l).getLast?=some w->P p->(∀ x y,Adj (p::l) x y->P x->¬ P y->x=w)->∀ q∈p::l,P q
 | [],p,_,_,hp,_,q,b=>by rw[bz.mp b];exact hp
 | y::l,p,nd,lt,hp,st,q,b=>by
  have c:P y:=eX λ z=>by
   have:=st p y (.inl ⟨rfl,rfl⟩) hp z;rw[fu]at nd;rw[qi]at lt;exact nd.1 (this ▸ vf lt)
  rcases eK.mp b with rfl | b
  ·exact hp
  ·exact kFU (fu.mp nd).2 (by rw[qi]at lt;exact lt) c (λ x z a=>st x z (.inr a)) q b
theorem kFT{P:Nat->Prop}{u w:Nat}:∀{l:List Nat},l.Nodup->l.getLast?=some w->P w->(∀ x y,Adj l x y->P x->¬ P y->x=w)->(∀ x y,Adj l x y->¬ P x->P y->y=u)->(∀ h,l.head?=some h->¬ P h)->∃ outs ins,l=outs++ins/\(∀ z∈outs,¬ P z)/\(∀ z∈ins,P z)/\ins.head?=some u/\ins.getLast?=some w
 | [],_,lt,_,_,_,_=>by cases lt
 | [h],_,lt,pw,_,_,nh=>by
  cases lt
  exact absurd pw (nh h rfl)
 | h::y::l,nd,lt,pw,st,su,nh=>by
  have lt':(y::l).getLast?=some w:=by rw[qi]at lt;exact lt
  by_cases c:P y
  ·have:=su h y (.inl ⟨rfl,rfl⟩) (nh h rfl) c
   refine⟨[h],y::l,rfl,λ z b=>by rw[bz.mp b];exact nh h rfl,kFU (fu.mp nd).2 lt' c λ x z a=>st x z (.inr a),by rw[this];rfl,lt'⟩
  ·obtain⟨o,i,e,h1,d,f,g⟩:=kFT (l:=y::l) (fu.mp nd).2 lt' pw (λ x z a=>st x z (.inr a)) (λ x z a=>su x z (.inr a)) (λ z b=>by cases b;exact c)
   refine⟨h::o,i,by rw[e];rfl,λ z b=>?_,d,f,g⟩;rcases eK.mp b with rfl | b
   ·exact nh _ rfl
   ·exact h1 z b
def yR{l:List Nat}{p q:Nat}(h:Adj l p q):Nx l p q:=by
 have:=Fc.adj_nx [] h;rwa[iU]at this
section
variable {W:Rows}
def oK(S:Nb W)(a:∀ t∈kN W,(nxt W (nxt W t)).2=t.1){x p q:Nat}(h:R W x p q):nxt W (x,p)=(p,q)/\nxt W (q,x)=(x,p)/\nxt W (p,q)=(q,x):=by
 have e:=zQ h;have n:=mL S.nd h;obtain⟨z,b,c,d,g,f⟩:=qP S a (S.sym _ _ e.2);rw[n]at b;cases b
 exact⟨c,n,d⟩
theorem Bd.row(S:Nb W)(d:∀ t∈kN W,(nxt W (nxt W t)).2=t.1){A T:List Nat}{a b c:Nat}(h:Bd W A T a b)(TT:Top W A T)(G:E W b a)(Z:(nxt W (b,a)).2=c)(Y:c∉A)
  (hd:T.head?=some a) (lt:T.getLast?=some b) {u x w:Nat} (n1:Nx T u x) (m:Nx T x w) :
  ∃ row ins outs,W[x]?=some row/\Ro row (ins++outs)/\(∀ z∈ins,z∈A)/\(∀ z∈outs,z∉A)/\ins.head?=some u/\ins.getLast?=some w:=by
 have nx:∀ p q,Nx T p q↔Adj T p q\/(p=b/\q=a):=λ p q=>by
  obtain⟨I,rfl⟩:=Fc.head_split hd
  cases I with
  | nil =>
   cases lt
   show Adj ([a]++[a]) p q↔_;constructor
   ·rintro(⟨rfl,rfl⟩ | z)
    ·exact .inr ⟨rfl,rfl⟩
    ·exact z.elim
   ·rintro(z | ⟨rfl,rfl⟩)
    ·exact z.elim
    ·exact .inl ⟨rfl,rfl⟩
  | cons y I =>
   obtain⟨J,e⟩:=Fc.last_split (l:=y::I) (x:=b) (by rw[qi]at lt;exact lt);rw[e];exact nxP J a b p q
 have o:∀ p q,Nx T p q->E W p q/\p∈A/\q∈A/\(nxt W (p,q)).2∉A:=λ p q f=>by
  refine⟨?_,TT.sub _ (kT f).1,TT.sub _ (kT f).2,?_⟩
  ·rcases(nx p q).mp f with z | ⟨rfl,rfl⟩
   ·exact TT.path _ _ z
   ·exact G
  ·rcases(nx p q).mp f with z | ⟨rfl,rfl⟩
   ·exact h.up _ _ z
   ·rw[Z];exact Y
 have O:∀ p q,p∈A->q∈A->E W p q->(nxt W (p,q)).2∉A->Nx T p q:=λ p q h1 B M N=>(nx p q).mpr (h.all p q h1 B M N);obtain⟨row,H,mw⟩:=(o x w m).1;obtain⟨g,i,e⟩:=rm mw;have v:Ro row ((i++g)++[w]):=⟨g++[w],i,by rw[e];simp,by simp⟩;have nd:=S.nd _ _ H;have C:=v.nd.mp nd;have st:∀ p q,Nx ((i++g)++[w]) p q->R W x p q:=λ p q f=>⟨row,H,(v.nx p q).mpr f⟩;have Q:=(o x w m).2.1;have wA:=(o x w m).2.2.1
 have X:∀ p q,Nx ((i++g)++[w]) p q->p∈A->q∉A->p=w:=λ p q f hp L=>by
  obtain⟨n,D,U⟩:=oK S d (st p q f);exact jS TT.nd (O x p Q hp (zQ (st p q f)).1 (by rw[n];exact L)) m
 have g2:∀ p q,Nx ((i++g)++[w]) p q->p∉A->q∈A->q=u:=λ p q f hp L=>by
  obtain⟨n,D,U⟩:=oK S d (st p q f);exact yD TT.nd (O q x L Q (S.sym _ _ (zQ (st p q f)).2) (by rw[D];exact hp)) n1
 obtain⟨outs,ins,e1,h1,B,M,N⟩:=kFT (P:=λ z=>z∈A) (u:=u) (w:=w) C (by simp) wA (λ p q ad=>X p q (yR ad)) (λ p q ad=>g2 p q (yR ad)) (λ s j z=>by
  have f:Nx ((i++g)++[w]) w s:=by
   obtain⟨I,e3⟩:=Fc.head_split j
   have:Nx ([w]++(i++g)) w s:=by
    cases hr:i++g with
    | nil =>
     rw[hr]at j;cases j
     exact .inl ⟨rfl,rfl⟩
    | cons y r =>
     rw[hr]at j;cases j
     exact yR (.inl ⟨rfl,rfl⟩)
   exact(jH _ _ _ _).mp this
  obtain⟨n,D,U⟩:=oK S d (st w s f);have:=(o x w m).2.2.2;rw[n]at this;exact this z)
 refine⟨row,ins,outs,H,v.trans ⟨outs,ins,e1,rfl⟩,B,h1,M,N⟩
end
end Tri
namespace Fc
open Cyc Rnd Tri
section
variable {W:Rows}
def inside(G:Good W){A T B M D:List Nat}{a b c x y v u p q:Nat}(h:Bd W A T a b)(TT:Top W A T)(N:E W b a)(bc:(nxt W (b,a)).2=c)(cA:c∉A)(hd:T.head?=some a)(lt:T.getLast?=some b)
  (e:T=B++(x::M++[y])++D) (vA:v∉A) (vc:v≠c) (ex:E W v x) (ey:E W v y) (ad:Adj (x::M++[y]) p q) (nu:(nxt W (p,q)).2=u) (uv:u≠v):u≠c/\∀ z∈B++D,¬ E W u z:=by
 have S:=(Wb.of G).toNb;have g:=(jR G).1;have a9:=TT.nd;rw[e]at a9;have d1:=cu.mp a9;have d2:=cu.mp d1.1;have sT:∀ z∈x::M++[y],z∈A:=λ z C=>TT.sub z (by rw[e];exact dc _ (cm _ C))
 have a0:(v::(x::M)++[y]).Nodup:=by
  show(v::(x::M++[y])).Nodup;exact fu.mpr ⟨λ z=>vA (sT v z),d2.2.1⟩
 have an:∀ z,z∉A->z≠v->z∉v::(x::M)++[y]:=λ z C hv hc=>by
  rcases eK.mp hc with r | r
  ·exact hv r
  ·exact C (sT z r)
 have aT:∀ i j,Adj (x::M++[y]) i j->Adj T i j:=λ i j ha=>by
  rw[e,bp];have e2:B++(x::M++[y]++D)=B++x::(M++[y]++D):=by simp
  rw[e2];refine(jB B x _ i j).mpr (.inr ?_);have:=nM D ha;simpa using this
 have nC:∀ i j,Nx (v::(x::M)++[y]) i j↔(i=v/\j=x)\/Adj (x::M++[y]) i j\/(i=y/\j=v):=λ i j=>by
  rw[nxP (x::M) v y i j];show((i=v/\j=x)\/Adj (x::M++[y]) i j)\/_↔_;rw[or_assoc]
 have ce:∀ i j,Nx (v::(x::M)++[y]) i j->E W i j:=λ i j hn=>by
  rcases(nC i j).mp hn with⟨rfl,rfl⟩ | z | ⟨rfl,rfl⟩
  ·exact ex
  ·exact TT.path _ _ (aT _ _ z)
  ·exact S.sym _ _ ey
 obtain⟨f,c1,sy,ab⟩:=kTI S G.con (kJR G) a0 (by simp) ce;have a6:Nx (v::(x::M)++[y]) v x:=(nC _ _).mpr (.inl ⟨rfl,rfl⟩);have ac:Nx (v::(x::M)++[y]) y v:=(nC _ _).mpr (.inr (.inr ⟨rfl,rfl⟩));have fw:∀ i j,Nx (v::(x::M)++[y]) i j->f i j=f v x:=λ i j hn=>kQL S a0 c1 ce sy hn a6;have bw:∀ i j,Nx (v::(x::M)++[y]) i j->f j i≠f v x:=λ i j hn z=>ab i j hn ((fw i j hn).trans z.symm)
 have a2:∀{k i n z:Nat},Nx (v::(x::M)++[y]) i k->Nx (v::(x::M)++[y]) k n->E W k z->z≠i->z≠n->f k z=f z k:=λ hp hn ez n1 n2=>sy _ _ ez (λ s=>n2 (jS a0 s hn)) (λ s=>n1 (yD a0 s hp))
 have a5:Nx (v::(x::M)++[y]) p q:=(nC _ _).mpr (.inr (.inl ad));obtain⟨O,m1,m2,m3,al,b0⟩:=qP S g (ce p q a5);rw[m1]at nu;have nu:O=u:=nu;subst nu
 have uA:O∉A:=by
  have:=h.up p q (aT _ _ ad);rw[m1]at this;exact this
 have uC:=an O uA uv
 have up:∀ z,E W O z->f z O=f v x:=λ z ez=>by
  have s1:=c1 p q O (ce p q a5) m1;have s2:=sy q O al (λ s=>uC (kT s).2) (λ s=>uC (kT s).1);have s3:=sX S c1 sy uC (S.sym _ _ al) ez;have s4:=sy O z ez (λ s=>uC (kT s).1) (λ s=>uC (kT s).2);rw[<-s4,<-s3,<-s2,s1];exact fw p q a5
 obtain⟨py,a8⟩ : ∃ py,Adj (x::M++[y]) py y:=by
  obtain⟨z,C⟩:=cQ (l:=x::M++[y]) (x:=y) (by simp);exact⟨z,C⟩
 have af:Nx (v::(x::M)++[y]) py y:=(nC _ _).mpr (.inr (.inl a8))
 have ah:∀ w,Nx T y w->f y w≠f v x:=λ w hw=>by
  obtain⟨row,a3,o,Q,ro,X,ag,s,ht⟩:=h.row S g TT N bc cA hd lt (yR (aT _ _ a8)) hw;have Z:(a3++o).Nodup:=ro.nd.mp (S.nd _ _ Q);obtain⟨I,rfl⟩:=head_split s;obtain⟨am,L,mv⟩:=S.sym _ _ ey;rw[Q]at L
  cases L
  have vo:v∈o:=by
   rcases cf.mp ((ro.mem v).mp mv) with z | z
   ·exact absurd (X v z) vA
   ·exact z
  obtain⟨O1,O2,rfl⟩:=rm vo
  cases I with
  | nil =>
   cases ht
   exact bw _ _ af
  | cons i I =>
   have wI:w∈i::I:=by
    rw[qi]at ht;exact vf ht
   have key:=kTC S c1 (A:=[py]) (B:=O2) (t:=v) Q (i::I++O1) (by simpa using ro) (λ z C=>by
    have a1:z∈i::I++O1:=pe C;refine a2 af ac ⟨row,Q,(ro.mem z).mpr ?_⟩ (λ zp=>?_) (λ zn=>?_)
    ·rcases cf.mp a1 with r | r
     ·exact dc _ (dh _ r)
     ·exact cm _ (dc _ r)
    ·rw[ji,fu]at Z
     refine Z.1 ?_;rw[<-zp];rcases cf.mp a1 with r | r
     ·exact dc _ r
     ·exact cm _ (dc _ r)
    ·rw[zn]at a1
     rcases cf.mp a1 with r | r
     ·exact vA (X v (dh _ r))
     ·have:=(cu.mp (cu.mp Z).2.1).2.2
      exact this v r v (by simp) rfl) w (dc _ wI)
   rw[key];exact bw _ _ ac
 have right:∀ z∈D,∀ w,E W z w->f z w≠f v x:=λ z C w ew=>by
  cases D with
  | nil=>cases C
  | cons d D =>
   have ax:Nx T y d:=by
    rw[e,show B++(x::M++[y])++d::D=(B++x::M)++y::d::D by simp];exact nx_mid _ _ _ _
   have:=dH S c1 sy (β:=f y d) (d::D) y (λ i j ha=>TT.path _ _ (by
    rw[e,show B++(x::M++[y])++d::D=(B++x::M)++y::d::D by simp]
    exact(jB _ y _ i j).mpr (.inr ha))) (λ k H hc=>by
     rcases eK.mp hc with r | r
     ·exact vA (r ▸ TT.sub k (by rw[e];exact cm _ H))
     ·exact d1.2.2 k (cm _ r) k H rfl) (λ ap U=>by cases U;rfl) z C w ew
   rw[this];exact ah d ax
 have ba:f b a≠f v x:=by
  cases hD:D with
  | nil =>
   have yb:y=b:=by
    rw[e,hD,iU,<-bp,jj]at lt;exact bq lt
   have aq:Nx T b a:=by
    obtain⟨I,eI⟩:=head_split hd;obtain⟨J,eJ⟩:=last_split lt;rw[eJ]
    have:Nx ([b]++J) b a:=by
     cases J with
     | nil =>
      rw[eJ]at hd;cases hd
      exact .inl ⟨rfl,rfl⟩
     | cons j J =>
      rw[eJ]at hd;cases hd
      exact yR (.inl ⟨rfl,rfl⟩)
    exact(jH _ _ _ _).mp this
   rw[<-yb];exact ah a (by rw[yb];exact aq)
  | cons d D' =>
   refine right b ?_ a N;rw[e,hD,jj]at lt;rw[hD];refine vf (a:=b) ?_;rw[fj (Am d D')]at lt ⊢;exact lt
 have left:∀ z∈B,∀ w,E W z w->f z w≠f v x:=λ z C w ew=>by
  have aa:B≠[]:=List.ne_nil_of_mem C;obtain⟨B',p0,eB⟩ : ∃ I u,B=I++[u]:=⟨B.dropLast,B.getLast aa,(eN aa).symm⟩
  have aw:Nx T p0 x:=by
   rw[e,eB,show B'++[p0]++(x::M++[y])++D=B'++p0::x::(M++[y]++D) by simp];exact nx_mid _ _ _ _
  obtain⟨Y,a7⟩ : ∃ Y,Adj (x::M++[y]) x Y:=by
   cases M with
   | nil=>exact⟨y,.inl ⟨rfl,rfl⟩⟩
   | cons m M=>exact⟨m,.inl ⟨rfl,rfl⟩⟩
  have as:Nx (v::(x::M)++[y]) x Y:=(nC _ _).mpr (.inr (.inl a7))
  have key:f x p0=f x v:=by
   obtain⟨row,a3,o,Q,ro,X,ag,s,ht⟩:=h.row S g TT N bc cA hd lt aw (yR (aT _ _ a7));have Z:(a3++o).Nodup:=ro.nd.mp (S.nd _ _ Q);obtain⟨J,rfl⟩:=last_split ht;obtain⟨am,L,mv⟩:=S.sym _ _ ex;rw[Q]at L
   cases L
   have vo:v∈o:=by
    rcases cf.mp ((ro.mem v).mp mv) with z | z
    ·exact absurd (X v z) vA
    ·exact z
   obtain⟨O1,O2,rfl⟩:=rm vo;have pw:p0≠Y:=λ z=>d2.2.2 p0 (by rw[eB];simp) Y (pe (qH a7).2) z
   have pJ:p0∈J:=by
    cases J with
    | nil=>exact absurd (bq s).symm pw
    | cons i J=>rw[show p0=i from(bq s).symm];simp
   have a4:Ro row ([]++v::((O2++J)++(Y::O1))):=ro.trans ⟨J++[Y]++O1,v::O2,by simp,by simp⟩;have nd2:=a4.nd.mp (S.nd _ _ Q);rw[kb,fu]at nd2;refine kNC S c1 Q (O2++J) [] (Y::O1) v a4 (λ k H=>?_) p0 (cm _ pJ);refine a2 a6 as ⟨row,Q,(a4.mem k).mpr (by simp at H ⊢;rcases H with r | r<;>simp[r])⟩ (λ kv=>?_) (λ kw=>?_)
   ·exact nd2.1 (kv ▸ dc _ H)
   ·exact(cu.mp nd2.2).2.2 k H Y (by simp) kw
  have:=dH S c1 sy (β:=f x v) B.reverse x (λ i j ha=>S.sym _ _ (TT.path _ _ (by
   rw[e,bp,show B++(x::M++[y]++D)=B++x::(M++[y]++D) by simp];refine(jB _ x _ j i).mpr (.inl ?_);refine kHR (l:=B++[x]) (p:=i) (q:=j) ?_;rw[ym]
   exact ha))) (λ k H hc=>by
    have H:=yr.mp H;rcases eK.mp hc with r | r
    ·exact vA (r ▸ TT.sub k (by rw[e];exact dc _ (dc _ H)))
    ·exact d2.2.2 k H k r rfl) (λ ap U=>by
     rw[eB,ym]at U;cases U
     exact key) z (yr.mpr C) w ew
  rw[this];exact bw _ _ a6
 refine⟨λ uc=>?_,λ z C ez=>?_⟩
 ·subst uc
  obtain⟨z,k1,k2,k3,f1,f2⟩:=qP S g N;rw[k1]at bc;have bc:z=O:=bc;subst bc;have:=c1 b a z N k1;exact ba (this.symm.trans (up a (S.sym _ _ f1)))
 ·rcases cf.mp C with r | r
  ·exact left z r O (S.sym _ _ ez) (up z ez)
  ·exact right z r O (S.sym _ _ ez) (up z ez)
end
end Fc
namespace Tri
open Cyc Rnd
theorem nI{row:List Nat}:∀(R:List Nat)(x:Nat)(P rest:List Nat),(P++x::rest).Nodup->(P++x::R).Nodup->(∀ p q,Adj (x::R) p q->Nx (P++x::rest) p q)->∃ Q,rest=R++Q
 | [],x,P,rest,_,_,_=>⟨rest,rfl⟩
 | y::R,x,P,rest,nd,ndR,st=>by
  have h:=st x y (.inl ⟨rfl,rfl⟩)
  cases rest with
  | nil =>
   exfalso;have b:Nx ([x]++P) x y:=(jH P [x] x y).mp h;have c:y∈P++[x]:=(kT h).2;rw[show P++x::y::R=(P++[x])++y::R by simp]at ndR;exact(cu.mp ndR).2.2 y c y (by simp) rfl
  | cons y0 rest =>
   have b:Nx (P++x::y0::rest) x y0:=Fc.nx_mid P x y0 rest;have:=jS nd h b;subst this
   obtain⟨Q,e⟩:=nI (row:=row) R y (P++[x]) rest (by simpa using nd) (by simpa using ndR) (λ p q a=>by
    have:=st p q (.inr a);simpa using this)
   exact⟨Q,by rw[e];rfl⟩
section
variable {W:Rows}
def Bd.inn(S:Nb W){A T:List Nat}{a b:Nat}(h:Bd W A T a b)(l:a∈T)(has:∀ x∈A,∃ y∈A,E W x y){x y:Nat}(c:x∈A)(f:y∉A)(e:E W x y):x∈T:=by
 refine eX λ m=>f ?_;obtain⟨p,hp,g⟩:=has x c;obtain⟨r,q,nd,mem,pv⟩:=Fc.row_at S (S.e e).1;refine Fc.rot_to nd (P:=λ z=>z∈A) ((mem y).mpr e) ((mem p).mpr g) hp λ w v i _ o j=>?_;refine eX λ d=>m ?_;have n:=pv w v o;rcases h.all w x j c (S.sym _ _ ((mem w).mp i)) (by rw[n];exact d) with z | ⟨_,rfl⟩
 ·exact pe (qH z).2
 ·exact l
def xQ{T:List Nat}{m:Nat}(h:m<T.length):T[m]?=some (T.getD m 0):=by rw[aj,ae h];rfl
theorem vQ:∀{T:List Nat}{m:Nat},m+1<T.length->Adj T (T.getD m 0) (T.getD (m+1) 0)
 | [],_,h=>by simp at h
 | [_],_,h=>by simp at h
 | a::b::r,0,_=>.inl ⟨rfl,rfl⟩
 | a::b::r,m+1,h=>.inr (by
  have:=vQ (T:=b::r) (m:=m) (by simpa using h);simpa using this)
theorem gK:∀{T:List Nat}{p q:Nat},Adj T p q->∃ m,m+1<T.length/\p=T.getD m 0/\q=T.getD (m+1) 0
 | [],_,_,h=>h.elim
 | [_],_,_,h=>h.elim
 | a::b::r,p,q,h=>by
  rcases h with⟨rfl,rfl⟩ | h
  ·exact⟨0,by simp,rfl,rfl⟩
  ·obtain⟨m,h1,d,c⟩:=gK (T:=b::r) h
   exact⟨m+1,by simpa using h1,by simpa using d,by simpa using c⟩
def bH(T:List Nat)(i k:Nat):List Nat:=(T.drop i).take (k+1-i)
def aA{T:List Nat}{i k:Nat}(h:i<=k)(a:k<T.length):(bH T i k).length=k+1-i:=by
 unfold bH;rw[de,iP];omega
def yV{T:List Nat}{i k j:Nat}(h:i<=k)(b:k<T.length)(a:j<k+1-i):(bH T i k).getD j 0=T.getD (i+j) 0:=by
 unfold bH;rw[aj,zx,if_pos a,zw,aj]
def kCI{T:List Nat}{i k:Nat}(h:i<=k)(a:k<T.length):T=T.take i++bH T i k++T.drop (k+1):=by
 unfold bH;have e:T.drop (k+1)=(T.drop i).drop (k+1-i):=by rw[AL];congr 1;omega
 rw[e,bp,gk,gk]
def pY{T:List Nat}{i k:Nat}(h:i<k)(b:k<T.length):∃ M,bH T i k=T.getD i 0::M++[T.getD k 0]:=by
 have l:=aA (fv h) b;have d:=yV (j:=0) (fv h) b (by omega);have a:=yV (j:=k-i) (fv h) b (by omega);rw[show i+(k-i)=k by omega]at a;generalize bH T i k=L at l d a
 cases L with
 | nil=>simp at l;omega
 | cons x L =>
  have c:L≠[]:=λ z=>by rw[z]at l;simp at l;omega
  refine⟨L.dropLast,?_⟩;have f:x=T.getD i 0:=d
  have g:L.getLast c=T.getD k 0:=by
   rw[<-a,List.getLast_eq_getElem,aj];have m:L.length=k-i:=by simp at l;omega
   have:k-i=(L.length-1)+1:=by have:=vy.mpr c;omega
   rw[this,List.getElem?_cons_succ,ae]
   rfl
  rw[<-f,<-g,ji,eN]
def kOI{T:List Nat}{i k l:Nat}(h1:i<=l)(b:l<=k)(a:k<T.length):T.getD l 0∈bH T i k:=by
 have:=yV (T:=T) (i:=i) (k:=k) (j:=l-i) (by omega) a (by omega);rw[show i+(l-i)=l by omega]at this;rw[<-this];refine di (xQ ?_);rw[aA (by omega) a];omega
def kMX{T:List Nat}{i k x:Nat}(h:i<=k)(a:k<T.length)(c:x∈bH T i k):∃ l,i<=l/\l<=k/\x=T.getD l 0:=by
 obtain⟨j,b,rfl⟩:=eV.mp c;have l:=aA h a;refine⟨i+j,by omega,by omega,?_⟩;rw[<-yV h a (by omega),aj,ae b]
 rfl
structure Nxt(W:Rows)(A:List Nat)(c v:Nat)(row R Q:List Nat):Prop where
 lt:v<W.length
 no:v∉A
 nc:v≠c
 er:W[v]?=some row
 ro:Ro row (R++Q)
 hR:∀ x∈R,x∈A
 hQ:∀ x∈Q,x∉A
 two:2<=R.length
 ne:Q≠[]
def mU{T:List Nat}(nd:T.Nodup){i j:Nat}(hi:i<T.length)(b:j<T.length)(e:T.getD i 0=T.getD j 0):i=j:=by
 have h1:=xQ hi;have a:=xQ b;rw[e,<-a]at h1;exact(ye hi nd).mp h1
def kVH(S:Nb W)(d:∀ t∈kN W,(nxt W (nxt W t)).2=t.1){A T:List Nat}{a b c:Nat}(h:Bd W A T a b)(TT:Top W A T)(bc:(nxt W (b,a)).2=c)(aT:a∈T)(has:∀ x∈A,∃ y∈A,E W x y)
  {u lo hi:Nat} (uA:u∉A) (uc:u≠c) (j:lo<hi) (f:hi<T.length) (U:∀ m,lo<=m->m<hi->(nxt W (T.getD m 0,T.getD (m+1) 0)).2=u) (only:∀ l,l<T.length->E W u (T.getD l 0)->lo<=l/\l<=hi):∃ v row R Q,Nxt W A c v row R Q:=by
 have s:∀ m,lo<=m->m<hi->R W u (T.getD m 0) (T.getD (m+1) 0):=λ m h1 Z=>by
  have e:=TT.path _ _ (vQ (T:=T) (m:=m) (by omega));obtain⟨z,m1,m2,m3,N,e2⟩:=qP S d e;have:=U m h1 Z;rw[m1]at this;have this:z=u:=this;subst this;obtain⟨q,r,n,_⟩:=uH S N;rw[m2]at n;cases n
  exact r
 obtain⟨row,i,H⟩:=s lo (be _) j;have nd:=S.nd _ _ i;have cl:=aA (T:=T) (fv j) f
 have D:(bH T lo hi).Nodup:=by
  have:=TT.nd;rw[kCI (fv j) f]at this;exact(cu.mp (cu.mp this).1).2.1
 have o:∀ p q,Adj (bH T lo hi) p q->Nx row p q:=λ p q ad=>by
  obtain⟨m,h1,rfl,rfl⟩:=gK ad;rw[yV (fv j) f (by omega),yV (fv j) f (by omega)];obtain⟨a1,G,C⟩:=s (lo+m) (by omega) (by omega);rw[i]at G
  cases G
  exact C
 obtain⟨M,I⟩:=pY j f;obtain⟨X,Y,e0⟩:=rm (kT H).1;have g:Ro row ([]++T.getD lo 0::(Y++X)):=⟨X,T.getD lo 0::Y,e0,by simp⟩;obtain⟨Q,eQ⟩:=nI (row:=row) (M++[T.getD hi 0]) (T.getD lo 0) [] (Y++X) (g.nd.mp nd) (by rw[I]at D;exact D) (λ p q ad=>(g.nx p q).mp (o p q (by rw[I];exact ad)))
 have B:Ro row (bH T lo hi++Q):=by
  rw[I];rw[eQ]at g;simpa using g
 have a0:=B.nd.mp nd;refine⟨u,row,bH T lo hi,Q,⟨(ao.mp i).1,uA,uc,i,B,λ x O=>?_,λ x O xA=>?_,by omega,λ z=>?_⟩⟩
 ·obtain⟨l,_,_,rfl⟩:=kMX (fv j) f O
  exact TT.sub _ (di (xQ (by omega)))
 ·have eu:E W u x:=⟨row,i,(B.mem x).mpr (cm _ O)⟩
  have xT:=h.inn S aT has xA uA (S.sym _ _ eu);obtain⟨l,L,J⟩:=eV.mp xT;have J:x=T.getD l 0:=by rw[aj,ae L,<-J];rfl
  rw[J]at eu;obtain⟨o1,o2⟩:=only l L eu;exact(cu.mp a0).2.2 x (by rw[J];exact kOI o1 o2 f) x O rfl
 ·rw[z,iU,I]at B
  have C:Nx row (T.getD hi 0) (T.getD lo 0):=(B.nx _ _).mpr ((nxP M _ _ _ _).mpr (.inr ⟨rfl,rfl⟩));obtain⟨t1,t2,t3⟩:=oK S d (x:=u) ⟨row,i,C⟩
  have eh:E W (T.getD hi 0) (T.getD lo 0):=by
   obtain⟨z,_,m2,_,N,e2⟩:=qP S d (x:=u) (y:=T.getD hi 0) ⟨row,i,(kT C).1⟩;rw[t1]at *;have:=N
   have q:z=T.getD lo 0:=by
    obtain⟨z',k1,_⟩:=qP S d (x:=u) (y:=T.getD hi 0) ⟨row,i,(kT C).1⟩;exact eX λ _=>by simp_all
   exact q ▸ N
  have mem:∀ l,l<T.length->T.getD l 0∈A:=λ l L=>TT.sub _ (di (xQ L));rcases h.all _ _ (mem hi f) (mem lo (by omega)) eh (by rw[t3];exact uA) with q | ⟨q1,q2⟩
  ·obtain⟨m,h1,Z,h3⟩:=gK q
   have i1:=mU TT.nd f (by omega) Z;have i2:=mU TT.nd (by omega) h1 h3;omega
  ·rw[q1,q2]at t3
   rw[t3]at bc;exact uc bc
def inT(G:Good W){A T:List Nat}{a b c v u i k m:Nat}(h:Bd W A T a b)(TT:Top W A T)(g:E W b a)(B:(nxt W (b,a)).2=c)(y:c∉A)(C:T.head?=some a)(lt:T.getLast?=some b)
  (f:i<k) (d:k<T.length) (D:v∉A) (H:v≠c) (ex:E W v (T.getD i 0)) (I:E W v (T.getD k 0)) (J:i<=m) (mk:m<k) (x:(nxt W (T.getD m 0,T.getD (m+1) 0)).2=u) (s:u≠v) :
  u≠c/\∀ l,l<T.length->E W u (T.getD l 0)->i<=l/\l<=k:=by
 obtain⟨M,j⟩:=pY f d;have e:=kCI (fv f) d
 have ad:Adj (T.getD i 0::M++[T.getD k 0]) (T.getD m 0) (T.getD (m+1) 0):=by
  have:=vQ (T:=bH T i k) (m:=m-i) (by rw[aA (fv f) d];omega);rw[yV (fv f) d (by omega),yV (fv f) d (by omega),show i+(m-i)=m by omega,show i+(m-i+1)=m+1 by omega,j]at this;exact this
 rw[j]at e;obtain⟨h1,p⟩:=Fc.inside G h TT g B y C lt e D H ex I ad x s;refine⟨h1,λ l o n=>?_⟩;rcases iV l i with q | q
 ·refine absurd n (p _ (dc _ ?_))
  refine di (i:=l) ?_;rw[zx,if_pos q];exact xQ o
 ·rcases iV k l with r | r
  ·refine absurd n (p _ (cm _ ?_))
   refine di (i:=l-(k+1)) ?_;rw[zw,show k+1+(l-(k+1))=l by omega];exact xQ o
  ·exact⟨q,r⟩
def kQN{P:Nat->Prop}{t m:Nat}(r:P m)(mt:m+1<t)(i:P (m+1)):∃ lo hi,lo<=m/\m+1<=hi/\hi<t/\P lo/\P hi/\∀ l,l<t->P l->lo<=l/\l<=hi:=by
 have low:∀ n,n<=m->(∃ l,l<=n/\P l)->∃ lo,lo<=n/\P lo/\∀ l,P l->lo<=l:=by
  intro n
  induction n with
  | zero =>
   rintro _ ⟨l,h1,a⟩;exact⟨0,be _,(by rw[show 0=l by omega];exact a),λ l _=>iG _⟩
  | succ n ih =>
   rintro o ⟨l,h1,a⟩;by_cases c:∃ l,l<=n/\P l
   ·obtain⟨lo,g,h,f⟩:=ih (by omega) c
    exact⟨lo,by omega,h,f⟩
   ·have:l=n+1:=by
     rcases iV l (n+1) with q | q
     ·exact absurd ⟨l,by omega,a⟩ c
     ·omega
    refine⟨n+1,be _,this ▸ a,λ b j=>?_⟩;rcases iV b (n+1) with q | q
    ·exact absurd ⟨b,by omega,j⟩ c
    ·exact q
 have high:∀ d n,n+d+1=t->(∃ l,n<=l/\l<t/\P l)->∃ hi,n<=hi/\hi<t/\P hi/\∀ l,l<t->P l->l<=hi:=by
  intro d
  induction d with
  | zero =>
   rintro n o ⟨l,h1,a,g⟩;exact⟨l,h1,a,g,λ b j _=>by omega⟩
  | succ d ih =>
   rintro n o ⟨l,h1,a,g⟩;by_cases c:∃ l,n+1<=l/\l<t/\P l
   ·obtain⟨hi,h,f,u,B⟩:=ih (n+1) (by omega) c
    exact⟨hi,by omega,f,u,B⟩
   ·refine⟨l,h1,a,g,λ b h f=>?_⟩
    rcases iV l b with q | q
    ·exact absurd ⟨b,by omega,h,f⟩ c
    ·exact q
 obtain⟨lo,s,x,A⟩:=low m (be _) ⟨m,be _,r⟩;obtain⟨hi,p,y,C,v⟩:=high (t-m-2) (m+1) (by omega) ⟨m+1,be _,mt,i⟩;exact⟨lo,hi,s,p,y,x,C,λ l h1 a=>⟨A l a,v l h1 a⟩⟩
def kIL(G:Good W){A T:List Nat}{a b c:Nat}(h:Bd W A T a b)(TT:Top W A T)(s:E W b a)(Z:(nxt W (b,a)).2=c)(cA:c∉A)(hd:T.head?=some a)(lt:T.getLast?=some b)
  (has:∀ x∈A,∃ y∈A,E W x y) {z:Nat} (zl:z<W.length) (zA:z∉A) (zc:z≠c):∃ v row R Q,Nxt W A c v row R Q:=by
 have S:=(Wb.of G).toNb;have d:=(jR G).1;have aT:a∈T:=Dy hd;have bT:b∈T:=vf lt;have ab:a≠b:=λ q=>(S.e s).2.2 q;have mem:∀ l,l<T.length->T.getD l 0∈A:=λ l H=>TT.sub _ (di (xQ H));have C:∀ m,m+1<T.length->Adj T (T.getD m 0) (T.getD (m+1) 0):=λ m D=>vQ D
 have a1:∀ m u,m+1<T.length->(nxt W (T.getD m 0,T.getD (m+1) 0)).2=u->u∉A/\E W u (T.getD m 0)/\E W u (T.getD (m+1) 0):=λ m u D e=>by
  obtain⟨z,m1,m2,m3,e1,e2⟩:=qP S d (TT.path _ _ (C m D));have up:=h.up _ _ (C m D);rw[m1]at e up;have e:z=u:=e;subst e;exact⟨up,e2,S.sym _ _ e1⟩
 refine eX λ no=>?_
 have a3:∀ m u,m+1<T.length->(nxt W (T.getD m 0,T.getD (m+1) 0)).2=u->u≠c->(∀ l,E W u (T.getD l 0)->l<m->∀ g,l<=g->g<m->(nxt W (T.getD g 0,T.getD (g+1) 0)).2=u)->(∀ l,l<T.length->E W u (T.getD l 0)->m+1<l->∀ g,m+1<=g->g<l->(nxt W (T.getD g 0,T.getD (g+1) 0)).2=u)->False:=λ m u D eu O a4 a9=>by
  obtain⟨uA,Y,X⟩:=a1 m u D eu;obtain⟨lo,hi,l1,l2,l3,l4,l5,l6⟩:=kQN (P:=λ l=>E W u (T.getD l 0)) Y D X;refine no (kVH S d h TT Z aT has uA O (lo:=lo) (hi:=hi) (by omega) l3 (λ g M N=>?_) l6);rcases ya g m with r | r | r
  ·exact a4 lo l4 (by omega) g M r
  ·rw[r];exact eu
  ·exact a9 hi l3 l5 (by omega) g (by omega) N
 have B:∀ n v i k,k-i=n->i<k->k<T.length->v∉A->v≠c->E W v (T.getD i 0)->E W v (T.getD k 0)->∀ m,i<=m->m<k->(nxt W (T.getD m 0,T.getD (m+1) 0)).2=v:=by
  intro n
  induction n using Az with
  | _ n ih =>
   intro v i k en ik kt vA vc ex ey m im mk;refine eX λ ne=>?_;obtain⟨uA,Y,X⟩:=a1 m _ (by omega) rfl;obtain⟨O,on⟩:=inT G h TT s Z cA hd lt ik kt vA vc ex ey im mk rfl ne;refine a3 m _ (by omega) rfl O (λ l j lm g M N=>?_) (λ l H j lm g M N=>?_)
   ·have:=on l (by omega) j
    exact ih (m-l) (by omega) _ l m rfl lm (by omega) uA O j Y g M N
   ·have:=on l H j
    exact ih (l-(m+1)) (by omega) _ (m+1) l rfl lm H uA O X j g M N
 have U:∀ m,m+1<T.length->(nxt W (T.getD m 0,T.getD (m+1) 0)).2=c:=λ m D=>by
  refine eX λ O=>?_;obtain⟨uA,Y,X⟩:=a1 m _ D rfl;refine a3 m _ D rfl O (λ l j lm g M N=>?_) (λ l H j lm g M N=>?_)
  ·exact B _ _ l m rfl lm (by omega) uA O j Y g M N
  ·exact B _ _ (m+1) l rfl lm H uA O X j g M N
 obtain⟨cz,k1,k2,k3,f1,f2⟩:=qP S d s;have ag:=Z;rw[k1]at Z;have Z:cz=c:=Z
 subst Z
 have cT:∀ x,E W cz x->x∈T:=λ x ex=>by
  obtain⟨r,er,nd,mm,pv⟩:=Fc.row_at S (S.e ex).1;refine Fc.rot_to nd (P:=λ z=>z∈T) ((mm x).mpr ex) ((mm a).mpr (S.sym _ _ f1)) aT λ w v hw _ hv wT=>?_;have n:=pv w v hv;obtain⟨l,H,j⟩:=eV.mp wT;have j:w=T.getD l 0:=by rw[aj,ae H,<-j];rfl
  cases l with
  | zero =>
   have wa:w=a:=by
    rw[j,aj,<-List.head?_eq_getElem?,hd];rfl
   rw[wa,k2]at n;cases n
   exact bT
  | succ l =>
   obtain⟨z',m1,m2,m3,e1,e2⟩:=qP S d (TT.path _ _ (C l H));have:=U l H;rw[m1]at this;have this:z'=cz:=this;subst this;rw[j,m2]at n;cases n
   exact di (xQ (by omega))
 have tc:∀ x y,x∈T->E W x y->y∈A\/y=cz:=λ x y hx e=>by
  obtain⟨u,Y⟩:=kRI hx;obtain⟨w,X⟩:=dD hx;obtain⟨row,a5,f,er,ro,a7,ac,hh,ht⟩:=h.row S d TT s (by rw[k1]) cA hd lt Y X;obtain⟨af,a2,my⟩:=e;rw[er]at a2
  cases a2
  rcases cf.mp ((ro.mem y).mp my) with q | q
  ·exact .inl (a7 y q)
  ·right
   have a8:(a5++f).Nodup:=ro.nd.mp (S.nd _ _ er)
   have th:∀ p q,Nx T p q->nxt W (p,q)=(q,cz):=λ p q hn=>by
    have:Adj T p q\/(p=b/\q=a):=by
     obtain⟨I,rfl⟩:=Fc.head_split hd
     cases I with
     | nil =>
      cases lt
      exact absurd rfl ab
     | cons y I =>
      obtain⟨J,e⟩:=Fc.last_split (l:=y::I) (x:=b) (by rw[qi]at lt;exact lt);rw[e]at hn ⊢;exact(nxP J a b p q).mp hn
    rcases this with z | ⟨rfl,rfl⟩
    ·obtain⟨m,h1,rfl,rfl⟩:=gK z
     exact ux rfl (U m h1)
    ·exact k1
   obtain⟨I,eI⟩:=Fc.last_split ht;obtain⟨J,eJ⟩:=Fc.head_split hh
   cases f with
   | nil=>cases q
   | cons o f =>
    have hn:Nx row w o:=(ro.nx _ _).mpr (by
     rw[eI,bp];exact Fc.nx_mid I w o f)
    obtain⟨t1,t2,t3⟩:=oK S d (x:=x) ⟨row,er,hn⟩;have t4:=th x w X;rw[t1]at t4;have oc:o=cz:=congrArg tm t4;subst oc;obtain⟨L,lst,eL⟩ : ∃ L lst,o::f=L++[lst]:=⟨(o::f).dropLast,(o::f).getLast (Am _ _),(eN _).symm⟩
    have aa:Nx row lst u:=(ro.nx _ _).mpr (by
     rw[eL,eJ];refine(jH _ _ _ _).mpr ?_;rw[bp];exact Fc.nx_mid L lst u J)
    obtain⟨ah,a6,al⟩:=oK S d (x:=x) ⟨row,er,aa⟩;have t5:=th u x Y;rw[a6]at t5;have lc:lst=o:=congrArg tm t5;subst lc
    cases L with
    | nil =>
     rw[eL]at q;exact bz.mp q
    | cons l0 L =>
     have e0:lst=l0:=(Fj eL).1;have nd3:=(cu.mp a8).2.1;rw[eL,<-e0,ji,fu]at nd3;exact absurd (by simp) nd3.1
 have a0:∀ x,Reach W a x->x∈A\/x=cz:=λ x r=>by
  induction r with
  | here=>exact .inl (TT.sub a aT)
  | more _ e ih =>
   rename_i p q _
   rcases ih with r | r
   ·by_cases qA:q∈A
    ·exact .inl qA
    ·exact tc p q (h.inn S aT has r qA e) e
   ·rw[r]at e
    exact .inl (TT.sub q (cT q e))
 rcases a0 z ((Reach.symm S.sym (G.con a (S.e s).2.1)).trans (G.con z zl)) with q | q
 ·exact zA q
 ·exact zc q
end
structure OI(W:Rows)(a b c:Nat)(O:List Nat)(Fs Ts:List (List Nat)):Prop where
 go:goF W O (O.length-2)=some (Fs,Ts)
 two:2<=O.length
 e2:O.take 2=[a,b]
 nd:O.Nodup
 nc:c∉O
 lt:∀ x∈O,x<W.length
section
variable {W:Rows} {a b c:Nat}
def kCD{x y:Nat}(h:y∈W.getD x []):E W x y:=by
 rw[aj]at h
 cases w:W[x]? with
 | none=>rw[w]at h;cases h
 | some row=>rw[w]at h;exact⟨row,w,h⟩
def OI.start(S:Nb W)(d:E W a b)(g:c≠a)(h:c≠b):OI W a b c [a,b] [] [[a,b]]:=by
 have:=S.e d;refine⟨rfl,by simp,rfl,by simp;exact λ q=>this.2.2 q.symm,by simp[g,h],λ x f=>?_⟩;simp at f;rcases f with rfl | rfl
 ·exact this.1
 ·exact this.2.1
def OI.full{O:List Nat}{f d:List (List Nat)}(I:OI W a b c O f d):O.take (O.length-2+2)=O:=by
 rw[uf I.two,iJ]
def OI.top(S:Nb W)(d:E W a b){O:List Nat}{g f:List (List Nat)}(I:OI W a b c O g f):Top W O (f.getLastD []):=by
 have:=aG I.nd S.sym (by rw[I.e2];exact uB S d) (by have:=I.two;omega) I.go;rwa[I.full]at this
def OI.bd(S:Nb W)(d:∀ t∈kN W,(nxt W (nxt W t)).2=t.1)(f:E W a b)(h:(nxt W (b,a)).2=c){O:List Nat}{i g:List (List Nat)}(I:OI W a b c O i g):Bd W O (g.getLastD []) a b:=by
 have:=kTM S d I.nd I.e2 f h I.nc (by have:=I.two;omega) I.go;rwa[I.full]at this
def kGZ(S:Nb W)(d:E W a b){ms:List Nat}(o:ms.Nodup)(p:ms.take 2=[a,b]):∀{i:Nat}{fs ts:List (List Nat)},i+2<=ms.length->goF W ms i=some (fs,ts)->((ts.getLastD []).head?=some a/\(ts.getLastD []).getLast?=some b)/\∀ x∈ms.take (i+2),∃ y∈ms.take (i+2),E W x y:=by
 have h0:Top W (ms.take 2) (ms.take 2):=by rw[p];exact uB S d
 intro i
 induction i with
 | zero =>
  intro fs ts _ h;unfold goF at h;have h:=bq h;injection h with h1 h2
  rw[<-h2];show(((ms.take 2)).head?=_/\((ms.take 2)).getLast?=_)/\∀ x∈ms.take 2,∃ y∈ms.take 2,E W x y;rw[p];refine⟨⟨rfl,rfl⟩,λ x m=>?_⟩;simp at m;rcases m with rfl | rfl
  ·exact⟨b,by simp,d⟩
  ·exact⟨a,by simp,S.sym _ _ d⟩
 | succ i ih =>
  intro fs ts L h;obtain⟨I,J,e⟩:=wE (i:=i) (j:=1) h;obtain⟨st,z,O,G⟩:=zO e h;have TT:=aG o S.sym h0 (by omega) e;obtain⟨⟨n,g⟩,v⟩:=ih (by omega) e;have D:ms[i+2]?=some (ms.getD (i+2) 0):=by rw[aj,ae (by omega)];rfl
  have tk:ms.take (i+1+2)=ms.take (i+2)++[ms.getD (i+2) 0]:=by rw[iq,D];rfl
  obtain⟨B,f,M,l,C,r,s,mem,N⟩:=wO TT.nd z
  have c:ts.getLastD []=B++[f,ms.getD (i+2) 0,l]++C:=by
   rw[G,jT,r];exact xC s TT.nd
  rw[c,tk];rw[s]at n g;refine⟨⟨?_,?_⟩,λ x m=>?_⟩
  ·cases B with
   | nil=>exact n
   | cons b0 B=>exact n
  ·cases C with
   | nil =>
    simp only[iU,jj]at g ⊢;simpa using g
   | cons c0 C =>
    rw[jj]at g ⊢;rw[fj (Am c0 C)]at g ⊢;exact g
  ·rcases cf.mp m with q | q
   ·obtain⟨y,A,H⟩:=v x q
    exact⟨y,dc _ A,H⟩
   ·have u:=(mem f).mp (by rw[r];simp)
    refine⟨f,dc _ u.1,?_⟩;rw[bz.mp q];exact kCD u.2
def OI.next(G:Good W)(d:E W a b)(g:(nxt W (b,a)).2=c){O:List Nat}{m i:List (List Nat)}(I:OI W a b c O m i)(more:O.length+1<W.length):∃ v row R Q,Nxt W O c v row R Q:=by
 have S:=(Wb.of G).toNb;have f:=(jR G).1;obtain⟨⟨h1,o⟩,h⟩:=kGZ S d I.nd I.e2 (by have:=I.two;omega) I.go;rw[I.full]at h
 obtain⟨z,s,l,j⟩ : ∃ z,z<W.length/\z∉O/\z≠c:=by
  refine eX λ p=>?_
  have:=eY (tw (n:=W.length)) (l₂:=c::O) λ x r=>by
   refine eX λ nx=>p ⟨x,jr.mp r,λ q=>nx (dh _ q),λ q=>nx (q ▸ eW ..)⟩
  rw[iH,iQ]at this;omega
 exact kIL G (I.bd S f d g) (I.top S d) (S.sym _ _ d) g I.nc h1 o h s l j
def OI.more(S:Nb W)(d:∀ t∈kN W,(nxt W (nxt W t)).2=t.1)(f:E W a b)(j:(nxt W (b,a)).2=c){O R Q row:List Nat}{v:Nat}{h g:List (List Nat)}(I:OI W a b c O h g)(N:Nxt W O c v row R Q) :
  ∃ Ts',OI W a b c (O++[v]) (h++[R]) Ts':=by
 have st:=kSD S d (I.bd S d f j) (I.top S f) I.nd j N.nc N.no N.er N.ro N.hR N.hQ N.two;have two:=I.two
 have l:goF W (O++[v]) (O.length-2)=some (h,g):=by
  rw[<-I.go];refine cE ?_;rw[uf two,iJ,yj rfl]
 have m:=vK (st:=R) l (by
  rw[uf two,yj rfl,aj,dq];exact st)
 refine⟨g++[poF (g.getLastD []) R ((O++[v]).getD (O.length-2+2) 0)],⟨?_,by rw[bu];omega,by rw[wu two];exact I.e2,?_,?_,λ x i=>?_⟩⟩
 ·rw[bu,fk,show O.length+1-2=O.length-2+1 by omega]
  exact m
 ·exact cu.mpr ⟨I.nd,by simp,λ x i y n z=>N.no (by rw[<-bz.mp n,<-z];exact i)⟩
 ·intro q
  rcases cf.mp q with q | q
  ·exact I.nc q
  ·exact N.nc (bz.mp q).symm
 ·rcases cf.mp i with q | q
  ·exact I.lt x q
  ·rw[bz.mp q];exact N.lt
def OI.last(G:Good W)(s:E W a b)(L:(nxt W (b,a)).2=c){O:List Nat}{Fs A:List (List Nat)}(I:OI W a b c O Fs A)(full:O.length+1=W.length) :
  ∃ row Ts',W[c]?=some row/\Ro row (A.getLastD [])/\(A.getLastD []).head?=some a/\jX W a b c (O++[c])=some (Fs++[A.getLastD []],Ts')/\(O++[c]).Perm (cw W.length):=by
 have S:=(Wb.of G).toNb;have g:=(jR G).1;have TT:=I.top S s;have h:=I.bd S g s L;obtain⟨⟨o,lt⟩,has⟩:=kGZ S s I.nd I.e2 (by have:=I.two;omega) I.go;rw[I.full]at has;have two:=I.two;obtain⟨d,k1,k2,k3,f1,f2⟩:=qP S g (S.sym _ _ s);rw[k1]at L;have L:d=c:=L;subst L;have cl:d<W.length:=(S.e f2).1
 have pm:(O++[d]).Perm (cw W.length):=by
  have nd:(O++[d]).Nodup:=cu.mpr ⟨I.nd,by simp,λ x u y hy z=>I.nc (by rw[<-bz.mp hy,<-z];exact u)⟩
  have sub:∀ x∈O++[d],x∈cw W.length:=λ x u=>by
   rcases cf.mp u with q | q
   ·exact jr.mpr (I.lt x q)
   ·rw[bz.mp q];exact jr.mpr cl
  refine(ug nd tw).mpr λ x=>⟨sub x,λ u=>eX λ N=>?_⟩
  have:=eY (fu.mpr ⟨N,nd⟩) (l₂:=cw W.length) λ y hy=>by
   rcases eK.mp hy with q | q
   ·rw[q];exact u
   ·exact sub y q
  rw[iQ,bu,fk,iH]at this;omega
 have only:∀ x,x<W.length->x∉O->x=d:=λ x u N=>by
  have:=pm.mem_iff.mpr (jr.mpr u);rcases cf.mp this with q | q
  ·exact absurd q N
  ·exact bz.mp q
 generalize hT:A.getLastD []=T at *;have aT:a∈T:=Dy o;have bT:b∈T:=vf lt;have Y:b≠a:=(S.e s).2.2
 have lT:2<=T.length:=by
  match T,o,lt with
  | [],o,_=>cases o
  | [x],o,lt =>
   cases o
   cases lt
   exact absurd rfl Y
  | _::_::_,_,_=>simp
 have U:∀ p q,Adj T p q->nxt W (p,q)=(q,d)/\R W d p q:=λ p q ad=>by
  obtain⟨z,m1,m2,m3,e1,v⟩:=qP S g (TT.path _ _ ad);have up:=h.up p q ad;rw[m1]at up;have:=only z (S.e e1).2.1 up;subst this;obtain⟨y,r,n,_⟩:=uH S e1;rw[m2]at n;cases n
  exact⟨m1,r⟩
 obtain⟨row,H,ma⟩:=S.sym _ _ f1;have nd:=S.nd _ _ H
 have mem:∀ x,x∈row↔x∈T:=λ x=>by
  constructor
  ·intro u
   have ex:E W d x:=⟨row,H,u⟩;have xl:=S.e ex;have xO:x∈O:=eX λ N=>xl.2.2 (only x xl.2.1 N);exact h.inn S aT has xO I.nc (S.sym _ _ ex)
  ·intro u
   obtain⟨l,hl,el⟩:=eV.mp u;have el:x=T.getD l 0:=by rw[aj,ae hl,<-el];rfl
   have:∃ p q,R W d p q/\(x=p\/x=q):=by
    rcases iV (l+1) T.length with q | q
    ·exact⟨_,_,(U _ _ (vQ q)).2,.inl el⟩
    ·have:=vQ (T:=T) (m:=l-1) (by omega)
     rw[show l-1+1=l by omega]at this;exact⟨_,_,(U _ _ this).2,.inr el⟩
   obtain⟨p,q,⟨D,f,hn⟩,hp⟩:=this;rw[H]at f
   cases f
   rcases hp with rfl | rfl
   ·exact(kT hn).1
   ·exact(kT hn).2
 have X:∀ p q,Adj T p q->Nx row p q:=λ p q ad=>by
  obtain⟨D,f,hn⟩:=(U p q ad).2;rw[H]at f
  cases f
  exact hn
 obtain⟨I',eT⟩:=Fc.head_split o;obtain⟨r1,r2,e0⟩:=rm ma;have i:Ro row ([]++a::(r2++r1)):=⟨r1,a::r2,e0,by simp⟩;obtain⟨Q,eQ⟩:=nI (row:=row) I' a [] (r2++r1) (i.nd.mp nd) (by have:=TT.nd;rw[eT]at this;exact this) (λ p q ad=>(i.nx p q).mp (X p q (by rw[eT];exact ad)))
 have Q0:Q=[]:=by
  cases Q with
  | nil=>rfl
  | cons q Q =>
   exfalso;have nd2:=i.nd.mp nd;rw[eQ,kb,show a::(I'++q::Q)=(a::I')++q::Q from rfl,<-eT]at nd2;have qr:q∈row:=(i.mem q).mpr (by rw[eQ];simp);exact(cu.mp nd2).2.2 q ((mem q).mp qr) q (by simp) rfl
 have ro:Ro row T:=by
  rw[eQ,Q0,iU,kb,<-eT]at i;exact i
 obtain⟨M,Z⟩ : ∃ M,T=a::M++[b]:=by
  obtain⟨J,eJ⟩:=Fc.last_split lt;rw[eJ]at o
  cases J with
  | nil=>cases o;exact absurd rfl Y
  | cons j J =>
   cases o
   exact⟨J,eJ⟩
 have st:stF W T O d=some (a::M++[b]):=wN (B:=[]) (C:=[]) TT.nd I.nd (by rw[Z];simp) TT.sub (λ q=>by
   rw[<-Z];constructor
   ·intro hq
    refine⟨TT.sub q hq,Fc.mem_row ⟨row,H,(mem q).mpr hq⟩⟩
   ·rintro⟨_,hq⟩
    obtain⟨D,f,hr⟩:=kCD hq;rw[H]at f
    cases f
    exact(mem q).mp hr) (λ t ht=>by
   rw[<-Z]at ht;rw[(U t.1 t.2 (bJ (a:=t.1) (b:=t.2) ht)).1])
 rw[<-Z]at st
 have go:goF W (O++[d]) (O.length-2)=some (Fs,A):=by
  rw[<-I.go];refine cE ?_;rw[uf two,iJ,yj rfl]
 have on:=vK (st:=T) go (by
  rw[uf two,yj rfl,aj,dq,hT];exact st)
 suffices e:jX W a b d (O++[d])=some (Fs++[T],A++[poF (A.getLastD []) T ((O++[d]).getD (O.length-2+2) 0)]) from⟨row,_,H,ro,o,e,pm⟩
 unfold jX
 have g0:(O++[d])[0]?=some a/\(O++[d])[1]?=some b:=by
  have v:=I.e2
  match O,two,v with
  | x::y::r,_,v =>
   simp at v;exact⟨by rw[v.1];rfl,by rw[v.2];rfl⟩
 rw[if_pos ⟨g0.1,g0.2,by simp⟩,bu,fk,show O.length+1-2=O.length-2+1 by omega];exact on
def zF(row A:List Nat):List Nat:=(cw row.length).filter λ k=>decide (row.getD k 0∈A) && !decide ((if k=0 then row.getLastD 0 else row.getD (k-1) 0)∈A)
def vX(row A:List Nat):List Nat:=if(zF row A).length≠1 then[] else(row.drop ((zF row A).headD 0)++row.take ((zF row A).headD 0)).filter λ q=>decide (q∈A)
def mem_begs{row A:List Nat}{k:Nat}:k∈zF row A↔k<row.length/\row.getD k 0∈A/\(if k=0 then row.getLastD 0 else row.getD (k-1) 0)∉A:=by
 unfold zF;simp
def sR{row:List Nat}{k:Nat}(h:k<row.length):Nx row (if k=0 then row.getLastD 0 else row.getD (k-1) 0) (row.getD k 0):=by
 by_cases c:k=0
 ·rw[if_pos c,c]
  have a:row≠[]:=λ z=>by rw[z]at h;simp at h
  obtain⟨J,l,e⟩ : ∃ J l,row=J++[l]:=⟨row.dropLast,row.getLast a,(eN a).symm⟩;rw[e];have b:(J++[l]).getLastD 0=l:=by rw[kh,jj];rfl
  rw[b];refine(jH [l] J _ _).mp ?_
  cases J with
  | nil=>exact .inl ⟨rfl,rfl⟩
  | cons j J=>exact yR (.inl ⟨rfl,rfl⟩)
 ·rw[if_neg c]
  have:=vQ (T:=row) (m:=k-1) (by omega);rw[show k-1+1=k by omega]at this;exact yR this
theorem kGJ{P:Nat->Prop}:∀{l:List Nat},(∀ x y,Adj l x y->¬ P x->¬ P y)->∃ R Q,l=R++Q/\(∀ x∈R,P x)/\∀ x∈Q,¬ P x
 | [],_=>⟨[],[],rfl,(λ _ h=>by cases h),(λ _ h=>by cases h)⟩
 | [x],_=>by
  by_cases c:P x
  ·exact⟨[x],[],rfl,λ y d=>by rw[bz.mp d];exact c,λ _ h=>by cases h⟩
  ·exact⟨[],[x],rfl,(λ _ h=>by cases h),λ y d=>by rw[bz.mp d];exact c⟩
 | x::y::l,st=>by
  obtain⟨R,Q,e,h1,f⟩:=kGJ (l:=y::l) λ p q a=>st p q (.inr a);by_cases c:P x
  ·exact⟨x::R,Q,by rw[e];rfl,λ z b=>by
    rcases eK.mp b with rfl | b
    ·exact c
    ·exact h1 z b,f⟩
  ·have g:=st x y (.inl ⟨rfl,rfl⟩) c
   cases R with
   | cons r R =>
    have:y=r:=(Fj e).1;exact absurd (h1 r (by simp)) (this ▸ g)
   | nil=>exact⟨[],x::Q,by rw[e];rfl,(λ _ h=>by cases h),λ z b=>by
     rcases eK.mp b with rfl | b
     ·exact c
     ·exact f z b⟩
def kBZ{A R Q:List Nat}(h1:∀ x∈R,x∈A)(b:∀ x∈Q,x∉A):(R++Q).filter (λ q=>decide (q∈A))=R:=by
 rw[tz,DI.mpr λ x a=>by simpa using h1 x a,AQ.mpr λ x a=>by simpa using b x a,iU]
def kDJ{row A:List Nat}(nd:row.Nodup)(h:1<(vX row A).length):∃ Q,Ro row (vX row A++Q)/\(∀ x∈vX row A,x∈A)/\(∀ x∈Q,x∉A)/\Q≠[]:=by
 unfold vX at h ⊢;by_cases c:(zF row A).length≠1
 ·rw[if_pos c]at h
  simp at h
 rw[if_neg c]at h ⊢;obtain⟨k,i⟩ : ∃ k,zF row A=[k]:=CZ.mp (Classical.not_not.mp c);have f:=mem_begs.mp (by rw[i];exact bz.mpr rfl:k∈zF row A);rw[i]at h ⊢;show ∃ Q,Ro row ((row.drop k++row.take k).filter _++Q)/\(∀ x∈(row.drop k++row.take k).filter _,_)/\_;have b:Ro row (row.drop k++row.take k):=⟨row.take k,row.drop k,(gk k row).symm,rfl⟩;have nd2:=b.nd.mp nd
 obtain⟨o,l⟩ : ∃ o,row.drop k++row.take k=row.getD k 0::o:=by
  have d:=f.1;clear f h;rw[Bc d];refine⟨row.drop (k+1)++row.take k,?_⟩
  have:row.getD k 0=row[k]:=by
   rw[aj,ae d]
   rfl
  rw[this]
  rfl
 have m:∀ x y,Adj (row.drop k++row.take k) x y->¬ x∈A->¬ y∈A:=λ x y ad v s=>by
  have n:Nx row x y:=(b.nx x y).mpr (yR ad);obtain⟨j,g,a⟩:=eV.mp (kT n).2;have a:y=row.getD j 0:=by rw[aj,ae g,<-a];rfl
  have q:=sR g;rw[<-a]at q;have u:=yD nd n q;have:j∈zF row A:=mem_begs.mpr ⟨g,by rw[<-a];exact s,by rw[<-u];exact v⟩;rw[i]at this;have:j=k:=bz.mp this;subst this;have t:=(qH ad).2;rw[l]at t nd2;rw[fu]at nd2;exact nd2.1 (a ▸ t)
 obtain⟨R,Q,e,h1,p⟩:=kGJ (P:=λ z=>z∈A) m;rw[e,kBZ (A:=A) h1 p];rw[e]at b;refine⟨Q,b,h1,p,λ z=>?_⟩;have r:=kT (sR f.1);have:=(b.mem _).mp r.1;rw[z,iU]at this;exact f.2.2 (h1 _ this)
def kLY{row A R Q:List Nat}(nd:row.Nodup)(f:Ro row (R++Q))(h1:∀ x∈R,x∈A)(n:∀ x∈Q,x∉A)(G:R≠[])(u:Q≠[]):(vX row A).length=R.length:=by
 have nd2:=f.nd.mp nd
 obtain⟨x,b,rfl⟩ : ∃ x b,R=x::b:=by
  cases R with
  | nil=>exact absurd rfl G
  | cons x R=>exact⟨x,R,rfl⟩
 obtain⟨c,y,rfl⟩ : ∃ c y,Q=c++[y]:=⟨Q.dropLast,Q.getLast u,(eN u).symm⟩;have s:Nx row y x:=(f.nx y x).mpr ((jH [y] (x::b++c) _ _).mp (by exact yR (.inl ⟨rfl,rfl⟩)) |> λ h=>by simpa using h)
 have key:∀ k,k∈zF row A↔k=row.idxOf x:=λ k=>by
  have B:x∈row:=(kT s).2;have i:row.idxOf x<row.length:=gj B;have j:row.getD (row.idxOf x) 0=x:=by rw[aj,ae i,BX];rfl
  rw[mem_begs];constructor
  ·rintro⟨v,o,L⟩
   have g:=sR v;have d:=(f.nx _ _).mp g
   have I:row.getD k 0=x:=by
    refine eX λ M=>L ?_;have m:=(kT d).2
    have inR:row.getD k 0∈x::b:=by
     rcases cf.mp m with q | q
     ·exact q
     ·exact absurd o (n _ q)
    have inT:row.getD k 0∈(x::b).tail:=by
     rcases eK.mp inR with q | q
     ·exact absurd q M
     ·exact q
    obtain⟨p,hp⟩:=cQ (l:=x::b) inT;have:=yD nd2 d (Fc.adj_nx (c++[y]) hp);rw[this];exact h1 p (qH hp).1
   exact mU nd v i (by rw[I,j])
  ·rintro rfl
   refine⟨i,by rw[j];exact h1 x (by simp),?_⟩;have g:=sR i;rw[j]at g;rw[yD nd g s];exact n y (by simp)
 have H:(zF row A).length=1:=by
  have a:(zF row A).Nodup:=tw.filter _;have C:zF row A≠[]:=λ z=>by have:=(key (row.idxOf x)).mpr rfl;rw[z]at this;cases this
  match hb:zF row A,a,C with
  | [k],_,_=>rfl
  | k::o::r,a,_ =>
   have J:=(key k).mp (by rw[hb];simp);have D:=(key o).mp (by rw[hb];simp);rw[fu]at a;exact absurd (by rw[J,D];simp) a.1
 unfold vX;rw[if_neg (by rw[H];simp)];generalize(zF row A).headD 0=k;have p1:(row.drop k++row.take k).Perm ((x::b)++(c++[y])):=(Ro.perm ⟨row.take k,row.drop k,(gk k row).symm,rfl⟩ : row.Perm (row.drop k++row.take k)).symm.trans f.perm;have:=(p1.filter λ q=>decide (q∈A)).length_eq;rw[this,kBZ h1 n]
end
end Tri
namespace L2
open PySem
section
variable {X:Cx}
def kPO{o:iS}{b:TE}(d:PE X o b):PE X o (λ σ H Q=>∃ P:V->Hp->Prop,b σ H P/\∀ x H1,P x H1->Q x H1):=λ a s σ H Q I ⟨P,h,m⟩=>thn (d a s σ H P I h) λ v i ⟨x,H1,g,f,c⟩=>⟨x,H1,g,f,m x H1 c⟩
inductive kBT(R:It->Hp->Prop)(x:V)(H1:Hp):Prop
 | mk:∀ d kvs,(x=.ref d)->(Rd H1 d (.dK kvs))->(∀(o:Obj)(H4:Hp),H4 d=some (.frz o (.dK kvs))->(∀ b u,b≠d->H1 b=some u->H4 b=some u)->(H1 d=some (.dK kvs)\/H4=H1)->R (Itm d o) H4)->kBT R x H1
def kQH(c:TE):TI:=λ b H R=>c b H λ x a=>kBT R x a
def kIX{o:iS}{p:TE}{c a i:Pos}{l:List iS} {x1} (B:PE X o p)
  (f:attributeBase o "items" X.env (eval o X.env)=eval o X.env:=by rfl) (g:(c.endLine == a.line)=true:=by rfl):PI X (.Tuple l x1 i) (.Call (.Attribute o "items" c) [] [] a) (kQH p):=by
 intro j s A H R I h;refine kAY (kPO B) f g j s A H R I ⟨_,h,?_⟩;rintro x r ⟨d,m,rfl,y,q⟩;refine⟨d,m,rfl,?_⟩;rcases y with e | ⟨n,e⟩
 ·exact .inl ⟨e,λ o=>q o _ kA (λ b u v e=>by rw[kM v];exact e) (.inl e)⟩
 ·exact .inr ⟨n,e,q n r e (λ _ _ _ e=>e) (.inr rfl)⟩
end
end L2
namespace Tri
open Cyc Rnd
abbrev Sps:=List (Nat×Int×Int)
def aB(s:Nat×Int×Int)(r:Sps)(p:Nat):atS (s::r) p=if s.1=p then s.2 else atS r p:=by
 unfold atS;rw[uo];by_cases e:s.1=p
 ·rw[if_pos e,show(s.1 == p)=true by simp[e]]
  rfl
 ·rw[if_neg e,show(s.1 == p)=false by simp[e]]
def kHM{G:List Nat}{b:Int}{p:Nat}:∀{S:Sps},p∈S.map (·.1)->atS (mvS S G b) p=if p∈G then((atS S p).1+b,(atS S p).2) else atS S p:=by
 intro S
 induction S with
 | nil=>intro h;simp at h
 | cons s r ih =>
  intro h;have e:mvS (s::r) G b=(if s.1∈G then(s.1,s.2.1+b,s.2.2) else s)::mvS r G b:=rfl;rw[e,aB,aB];have a:(if s.1∈G then(s.1,s.2.1+b,s.2.2) else s:Nat×Int×Int).1=s.1:=by split<;>rfl
  rw[a];by_cases c:s.1=p
  ·rw[if_pos c,if_pos c,<-c]
   split<;>rfl
  ·rw[if_neg c,if_neg c]
   refine ih ?_;rw[gh]at h;rcases eK.mp h with q | q
   ·exact absurd q.symm c
   ·exact q
def kTV{R:Sps}{p:Nat}:∀{S:Sps},p∈S.map (·.1)->atS (S++R) p=atS S p:=by
 intro S
 induction S with
 | nil=>intro h;simp at h
 | cons s r ih =>
  intro h;rw[ji,aB,aB];by_cases c:s.1=p
  ·rw[if_pos c,if_pos c]
  ·rw[if_neg c,if_neg c]
   refine ih ?_;rw[gh]at h;rcases eK.mp h with q | q
   ·exact absurd q.symm c
   ·exact q
def tT{S a:Sps}(nd:(S.map (·.1)).Nodup)(h:S.Perm a)(p:Nat):atS S p=atS a p:=by
 by_cases c:p∈S.map (·.1)
 ·have b:p∈a.map (·.1):=(h.map _).mem_iff.mp c
  have o:=kHN c;have n:=h.mem_iff.mpr (kHN b);obtain⟨i,m,g⟩:=eV.mp o;obtain⟨j,l,d⟩:=eV.mp n
  have q:i=j:=by
   refine(AA (xs:=S.map (·.1)) (h₀:=by rw[ak];exact m) (h₁:=by rw[ak];exact l) nd).mp ?_;rw[yq,yq,g,d]
  subst q;rw[g]at d;exact(Prod.mk.inj d).2
 ·have b:p∉a.map (·.1):=λ z=>c ((h.map _).mem_iff.mpr z)
  have f:∀{R:Sps},p∉R.map (·.1)->atS R p=(0,0):=by
   intro R
   induction R with
   | nil=>intro _;rfl
   | cons s r ih =>
    intro h;rw[gh,eK,not_or]at h;rw[aB,if_neg (sj h.1)];exact ih h.2
  rw[f c,f b]
def kBL{S:Sps}{G G':List Nat}{b:Int}(d:∀ q∈S.map (·.1),q∈G↔q∈G'):mvS S G b=mvS S G' b:=by
 unfold mvS;refine qk λ s a=>?_;have:=d s.1 (iR.mpr ⟨s,a,rfl⟩);by_cases c:s.1∈G
 ·rw[if_pos c,if_pos (this.mp c)]
 ·rw[if_neg c,if_neg (λ z=>c (this.mpr z))]
def kGK{S a:Sps}{G G':List Nat}{b:Int}(h:S.Perm a)(c:∀ q,q∈G↔q∈G'):(mvS S G b).Perm (mvS a G' b):=by
 rw[kBL (G:=G) (G':=G') λ q _=>c q];exact h.map _
structure Alk(T:List Nat)(x y:Sps×(Nat->List Nat)):Prop where
 at':x.1.Perm y.1
 hang:∀ p∈T,∀ q,q∈x.2 p↔q∈y.2 p
def cG{L T:List Nat}{U U':Nat->List Nat}(a:∀ p∈L,p∈T)(h:∀ p∈T,∀ q,q∈U p↔q∈U' p)(q:Nat):q∈L.flatMap U↔q∈L.flatMap U':=by
 rw[AD,AD];exact⟨λ⟨p,hp,z⟩=>⟨p,hp,(h p (a p hp) q).mp z⟩,λ⟨p,hp,z⟩=>⟨p,hp,(h p (a p hp) q).mpr z⟩⟩
def kQJ{T d F:List Nat}{v:Nat}{x y:Sps×(Nat->List Nat)}(nd:(x.1.map (·.1)).Nodup)(h:∀ p∈F,p∈T)(f:∀ p∈d,p=v\/p∈T)(A:Alk T x y):Alk d (gst x.1 x.2 v F T) (gst y.1 y.2 v F T):=by
 have b:∀ p∈F.tail.dropLast,p∈T:=λ p hp=>h p (pe (List.dropLast_subset _ hp));have g:∀ p∈T.drop (T.idxOf (F.getLastD 0)),p∈T:=λ p hp=>An hp
 have a:(mvS (mvS x.1 (F.tail.dropLast.flatMap x.2) 1) ((T.drop (T.idxOf (F.getLastD 0))).flatMap x.2) 2).Perm (mvS (mvS y.1 (F.tail.dropLast.flatMap y.2) 1) ((T.drop (T.idxOf (F.getLastD 0))).flatMap y.2) 2) :=
  kGK (kGK A.at' (cG b A.hang)) (cG g A.hang)
 have nd2:((mvS (mvS x.1 (F.tail.dropLast.flatMap x.2) 1) ((T.drop (T.idxOf (F.getLastD 0))).flatMap x.2) 2).map (·.1)).Nodup:=by rw[jW,jW];exact nd
 refine⟨?_,λ p hp q=>?_⟩
 ·unfold gst
  dsimp only;rw[tT nd2 a (F.headD 0),tT nd2 a (F.getLastD 0)];exact a.append_right _
 ·show q∈(if p=v then v::F.tail.dropLast.flatMap x.2 else x.2 p)↔q∈(if p=v then v::F.tail.dropLast.flatMap y.2 else y.2 p)
  rcases f p hp with c | c
  ·rw[if_pos c,if_pos c,eK,eK,cG b A.hang q]
  ·by_cases e:p=v
   ·rw[if_pos e,if_pos e,eK,eK,cG b A.hang q]
   ·rw[if_neg e,if_neg e]
    exact A.hang p c q
def kQO{X Y:List Nat}{l:Nat}(nd:(X++l::Y).Nodup):(X++l::Y).drop ((X++l::Y).idxOf l)=l::Y:=by
 have:l∉X:=λ z=>(cu.mp nd).2.2 l z l (by simp) rfl;rw[yc,if_neg this,DB,CT,Ap (be _),List.drop_length,kb]
def kMN(l r:Int×Int)(b:Int):ovr (l.1+b,l.2) (r.1+b,r.2)=((ovr l r).1+b,(ovr l r).2):=by
 unfold ovr;dsimp only;rw[show r.1+b-(l.1+b)+r.2-l.2=r.1-l.1+r.2-l.2 by omega];refine ux ?_ rfl;show l.1+b+_=l.1+_+b;omega
structure Cst(S:Sps)(U:Nat->List Nat)(T:List Nat)(u v:Nat):Prop where
 tn:T.Nodup
 un:(T.flatMap U).Nodup
 own:∀ p,p∈U p
 all:∀ x∈T.flatMap U,x∈S.map (·.1)
 nu:u∉S.map (·.1)
 nv:v∉S.map (·.1)
 uv:u≠v
def tE{S:Sps}{U:Nat->List Nat}{T M X Y:List Nat}{v f l:Nat}(nd:T.Nodup)(e:T=X++l::Y) :
  gst S U v (f::M++[l]) T=(mvS (mvS S (M.flatMap U) 1) ((l::Y).flatMap U) 2++[(v,ovr (atS (mvS (mvS S (M.flatMap U) 1) ((l::Y).flatMap U) 2) f) (atS (mvS (mvS S (M.flatMap U) 1) ((l::Y).flatMap U) 2) l))],λ p=>if p=v then v::M.flatMap U else U p):=by
 have h1:(f::M++[l]).tail.dropLast=M:=by simp
 have a:(f::M++[l]).getLastD 0=l:=by rw[kh,DC];rfl
 unfold gst;rw[h1,a,e,kQO (by rw[<-e];exact nd)]
 rfl
def gG(S:Sps)(G G':List Nat)(a b:Int):mvS (mvS S G a) G' b=mvS (mvS S G' b) G a:=by
 unfold mvS;rw[ui,ui];refine qk λ s _=>?_;show(if(if s.1∈G then(s.1,s.2.1+a,s.2.2) else s:Nat×Int×Int).1∈G' then _ else _)=(if(if s.1∈G' then(s.1,s.2.1+b,s.2.2) else s:Nat×Int×Int).1∈G then _ else _);by_cases c:s.1∈G<;>by_cases d:s.1∈G'<;>simp[c,d];omega
def sW(S R:Sps)(G:List Nat)(b:Int):mvS (S++R) G b=mvS S G b++mvS R G b:=du ..
def bE{x:Nat×Int×Int}{G:List Nat}{b:Int}(h:x.1∉G):mvS [x] G b=[x]:=by
 show[if x.1∈G then _ else x]=[x];rw[if_neg h]
def kJD{x:Nat×Int×Int}{G:List Nat}{b:Int}(h:x.1∈G):mvS [x] G b=[(x.1,x.2.1+b,x.2.2)]:=by
 show[if x.1∈G then _ else x]=_;rw[if_pos h]
def uY{L:List Nat}{U:Nat->List Nat}{v:Nat}{R:List Nat}(h:v∉L):(L.flatMap λ p=>if p=v then R else U p)=L.flatMap U:=by
 show(L.map _).flatten=(L.map _).flatten
 congr 1
 refine qk λ x a=>?_;exact if_neg λ z:x=v=>h (z ▸ a)
def apart{T L R:List Nat}{U:Nat->List Nat}(un:(T.flatMap U).Nodup)(e:T=L++R){x:Nat}(h1:x∈L.flatMap U)(a:x∈R.flatMap U):False:=by
 rw[e,oz]at un;exact(cu.mp un).2.2 x h1 x a rfl
def yE{L:List Nat}{U:Nat->List Nat}{x p:Nat}(h:p∈L)(a:x∈U p):x∈L.flatMap U:=AD.mpr ⟨p,h,a⟩
def wM{L R:List Nat}{U:Nat->List Nat}{x:Nat}(h:∀ p∈L,p∈R)(a:x∈L.flatMap U):x∈R.flatMap U:=by
 obtain⟨p,hp,z⟩:=AD.mp a;exact yE (h p hp) z
def comm{S:Sps}{U:Nat->List Nat}{T A M C D N E:List Nat}{u v f l g h:Nat}(X:Cst S U T u v)(o:T=A++f::(M++l::C))(j:l::C=D++(g::(N++h::E)))(t1:(A++f::u::l::C).Nodup)(t2:(A++f::(M++(D++g::v::h::E))).Nodup) :
  (gst (gst S U u (f::M++[l]) T).1 (gst S U u (f::M++[l]) T).2 v (g::N++[h]) (A++f::u::l::C)).1.Perm (gst (gst S U v (g::N++[h]) T).1 (gst S U v (g::N++[h]) T).2 u (f::M++[l]) (A++f::(M++(D++g::v::h::E)))).1
  /\ (gst (gst S U u (f::M++[l]) T).1 (gst S U u (f::M++[l]) T).2 v (g::N++[h]) (A++f::u::l::C)).2=(gst (gst S U v (g::N++[h]) T).1 (gst S U v (g::N++[h]) T).2 u (f::M++[l]) (A++f::(M++(D++g::v::h::E)))).2:=by
 have s:T=(A++f::(M++(D++g::N)))++h::E:=by rw[o,j];simp
 have e4:A++f::u::l::C=(A++f::u::(D++g::N))++h::E:=by rw[j];simp
 obtain⟨B,Y⟩ : ∃ B,D++g::v::h::E=l::B:=by
  cases D with
  | nil =>
   rw[kb]at j;injection j with q _
   exact⟨v::h::E,by rw[q];rfl⟩
  | cons d D =>
   injection j with q _
   exact⟨D++g::v::h::E,by rw[q];rfl⟩
 have e6:A++f::(M++(D++g::v::h::E))=(A++f::M)++l::B:=by rw[Y];simp
 have r:∀{x},x∉S.map (·.1)->x∉T:=λ{x} nx b=>nx (X.all x (yE b (X.own x)));have Z:∀{x:Nat}{L:List Nat},x∉S.map (·.1)->(∀ p∈L,p∈T)->x∉L.flatMap U:=λ{x L} nx hL b=>nx (X.all x (wM hL b));have iM:∀ p∈M,p∈T:=λ p hp=>by rw[o];simp[hp]
 have y:∀ p∈l::C,p∈T:=λ p hp=>by rw[o];exact cm _ (dh _ (cm _ hp))
 have iN:∀ p∈N,p∈T:=λ p hp=>by rw[s];simp[hp]
 have iE:∀ p∈h::E,p∈T:=λ p hp=>by rw[s];exact cm _ hp
 have iD:∀ p∈D,p∈T:=λ p hp=>by rw[s];simp[hp]
 have ig:g∈T:=by rw[s];simp
 have jf:f∈T:=by rw[o];simp
 have m:∀{x},x∈T->x∈S.map (·.1):=λ{x} b=>X.all x (yE b (X.own x));rw[tE X.tn (show T=(A++f::M)++l::C by rw[o];simp),tE X.tn s,tE t1 e4,tE t2 e6];dsimp only;have uN:u∉N:=λ z=>r X.nu (iN u z);have uE:u∉h::E:=λ z=>r X.nu (iE u z);have vM:v∉M:=λ z=>r X.nv (iM v z);rw[uY uN,uY uE,uY vM]
 have zz:∀ q,q∈S.map (·.1)->(q∈(l::B).flatMap (λ p=>if p=v then v::N.flatMap U else U p)↔q∈(l::C).flatMap U):=λ q O=>by
  have qv:q≠v:=λ z=>X.nv (z ▸ O);have vD:v∉D:=λ z=>r X.nv (iD v z);have vE:v∉h::E:=λ z=>r X.nv (iE v z);have vg:g≠v:=λ z=>r X.nv (z ▸ ig)
  have z1:(D++g::v::h::E).flatMap (λ p=>if p=v then v::N.flatMap U else U p)=D.flatMap U++(U g++((v::N.flatMap U)++(h::E).flatMap U)):=by
   rw[oz,uY vD];show _++((if g=v then v::N.flatMap U else U g)++((if v=v then v::N.flatMap U else U v)++(h::E).flatMap _))=_;rw[if_neg vg,if_pos rfl,uY vE]
  have z2:(D++g::(N++h::E)).flatMap U=D.flatMap U++(U g++(N.flatMap U++(h::E).flatMap U)):=by
   rw[oz,yg,oz]
  rw[<-Y,j,z1,z2];simp only[cf,eK];constructor
  ·rintro(a | a | (a | a) | a)
   ·exact .inl a
   ·exact .inr (.inl a)
   ·exact absurd a qv
   ·exact .inr (.inr (.inl a))
   ·exact .inr (.inr (.inr a))
  ·rintro(a | a | a | a)
   ·exact .inl a
   ·exact .inr (.inl a)
   ·exact .inr (.inr (.inl (.inr a)))
   ·exact .inr (.inr (.inr a))
 have Q:v∈(l::B).flatMap (λ p=>if p=v then v::N.flatMap U else U p):=by
  refine yE (p:=v) (by rw[<-Y];simp) ?_;rw[if_pos rfl];exact eW
 rw[sW,sW,sW,sW];rw[bE (G:=N.flatMap U) (Z X.nu iN),bE (G:=(h::E).flatMap U) (Z X.nu iE),bE (G:=M.flatMap U) (Z X.nv iM),kJD Q];have i:∀(G1 G2 G3:List Nat)(b1 b2 b3:Int),(mvS (mvS (mvS S G1 b1) G2 b2) G3 b3).map (·.1)=S.map (·.1):=λ G1 G2 G3 b1 b2 b3=>by rw[jW,jW,jW]
 rw[kBL (S:=mvS (mvS (mvS S (N.flatMap U) 1) ((h::E).flatMap U) 2) (M.flatMap U) 1) (G':=(l::C).flatMap U) (λ q O=>zz q (by rw[i]at O;exact O))]
 have n:mvS (mvS (mvS (mvS S (N.flatMap U) 1) ((h::E).flatMap U) 2) (M.flatMap U) 1) ((l::C).flatMap U) 2=mvS (mvS (mvS (mvS S (M.flatMap U) 1) ((l::C).flatMap U) 2) (N.flatMap U) 1) ((h::E).flatMap U) 2:=by
  rw[gG (mvS S (M.flatMap U) 1) ((l::C).flatMap U) (N.flatMap U),gG S (M.flatMap U) (N.flatMap U),gG (mvS (mvS S (N.flatMap U) 1) (M.flatMap U) 1),gG (mvS S (N.flatMap U) 1) (M.flatMap U)]
 have ff:∀ x,x∈T->x∉N.flatMap U->x∉(h::E).flatMap U->atS (mvS (mvS (mvS (mvS S (M.flatMap U) 1) ((l::C).flatMap U) 2) (N.flatMap U) 1) ((h::E).flatMap U) 2) x=atS (mvS (mvS S (M.flatMap U) 1) ((l::C).flatMap U) 2) x:=λ x b n1 n2=>by
  rw[kHM (by rw[i];exact m b),if_neg n2,kHM (by rw[jW,jW];exact m b),if_neg n1]
 have gg:∀ x,x∈T->x∉M.flatMap U->x∈(l::C).flatMap U->atS (mvS (mvS (mvS (mvS S (N.flatMap U) 1) ((h::E).flatMap U) 2) (M.flatMap U) 1) ((l::C).flatMap U) 2) x=((atS (mvS (mvS S (N.flatMap U) 1) ((h::E).flatMap U) 2) x).1+2,(atS (mvS (mvS S (N.flatMap U) 1) ((h::E).flatMap U) 2) x).2):=λ x b n1 n2=>by
  rw[kHM (by rw[i];exact m b),if_pos n2,kHM (by rw[jW,jW];exact m b),if_neg n1]
 have c1:T=(A++[f])++(M++(l::C)):=by rw[o];simp
 have c2:T=(A++f::M)++(l::C):=by rw[o];simp
 have c3:T=(A++f::(M++(D++[g])))++(N++h::E):=by rw[s];simp
 have NZ:∀ p∈N,p∈M++(l::C):=λ p hp=>by rw[j];simp[hp]
 have EZ:∀ p∈h::E,p∈M++(l::C):=λ p hp=>by
  rw[j];refine cm _ (cm _ (dh _ (cm _ hp)))
 have fN:f∉N.flatMap U:=λ z=>apart X.un c1 (yE (p:=f) (by simp) (X.own f)) (wM NZ z);have fE:f∉(h::E).flatMap U:=λ z=>apart X.un c1 (yE (p:=f) (by simp) (X.own f)) (wM EZ z)
 have ld:l∈A++f::(M++(D++[g])):=by
  have:l∈D++[g]:=by
   cases D with
   | nil =>
    rw[kb]at j;injection j with q _
    rw[q];simp
   | cons d D =>
    injection j with q _
    rw[q];simp
  exact cm _ (dh _ (cm _ this))
 have lN:l∉N.flatMap U:=λ z=>apart X.un c3 (yE ld (X.own l)) (wM (λ p hp=>dc _ hp) z);have lE:l∉(h::E).flatMap U:=λ z=>apart X.un c3 (yE ld (X.own l)) (wM (λ p hp=>cm _ hp) z);have I:g∈l::C:=by rw[j];simp
 have H:h∈l::C:=by rw[j];simp
 have mz:∀ x,x∈l::C->x∉M.flatMap U:=λ x b z=>apart X.un c2 (wM (R:=A++f::M) (λ p hp=>by simp[hp]) z) (yE b (X.own x));have hl:l∈T:=y l (by simp);rw[n];have J:∀ x,x∈T->∀ R:Sps,atS (mvS (mvS (mvS (mvS S (M.flatMap U) 1) ((l::C).flatMap U) 2) (N.flatMap U) 1) ((h::E).flatMap U) 2++R) x=atS (mvS (mvS (mvS (mvS S (M.flatMap U) 1) ((l::C).flatMap U) 2) (N.flatMap U) 1) ((h::E).flatMap U) 2) x:=λ x b R=>kTV (by rw[jW,i];exact m b);rw[J g (y g I),J h (y h H),J f jf,J l hl,ff f jf fN fE,ff l hl lN lE];rw[<-n,gg g (y g I) (mz g I) (yE I (X.own g)),gg h (y h H) (mz h H) (yE H (X.own h)),kMN];refine⟨?_,funext λ p=>?_⟩
 ·rw[bp,bp]
  exact(DA _ _ _).append_left _
 ·by_cases c:p=v
  ·rw[if_pos c,if_neg (λ z=>X.uv (z.symm.trans c)),if_pos c]
  ·rw[if_neg c,if_neg c]
def kTN{ms:List Nat}{b a:List (List Nat)}:∀(i p:Nat),p∈(gF ms b a i).2 p:=by
 intro i
 induction i with
 | zero=>intro p;exact bz.mpr rfl
 | succ i ih =>
  intro p;show p∈(if p=_ then _::_ else(gF ms b a i).2 p)
  split
  ·rename_i c
   rw[c];exact eW
  ·exact ih p
def kGV{ms ms':List Nat}{b Fs' a Ts':List (List Nat)}:∀{i:Nat},(∀ j,j<i+2->ms[j]?=ms'[j]?)->(∀ j,j<i->b.getD j []=Fs'.getD j [])->(∀ j,j<i->a.getD j []=Ts'.getD j [])->gF ms b a i=gF ms' Fs' Ts' i:=by
 intro i
 induction i with
 | zero =>
  intro h1 _ _
  have:ms.take 2=ms'.take 2:=by
   refine Bp λ j=>?_;rw[zx,zx]
   split
   ·exact h1 j (by omega)
   ·rfl
  show((ms.take 2).map _,_)=((ms'.take 2).map _,_);rw[this]
 | succ i ih =>
  intro h1 c d;have e:=ih (λ j f=>h1 j (by omega)) (λ j f=>c j (by omega)) (λ j f=>d j (by omega));show gst _ _ _ _ _=gst _ _ _ _ _;have g:ms.getD (i+2) 0=ms'.getD (i+2) 0:=by rw[aj,aj,h1 (i+2) (by omega)]
  rw[e,c i (by omega),d i (by omega),g]
section
variable {W:Rows} {ms:List Nat} {a b k n:Nat} {fs ts X Y:List (List Nat)} {su sv T1 T1' T2:List Nat}
def kNQ(S:Nb W)(a6:∀ t∈kN W,(nxt W (nxt W t)).2=t.1)(d:ms.Nodup)(e2:ms.take 2=[a,b])(a7:E W a b)(h2:2<=k)(hk:k+1<ms.length)(hn:n+2<=ms.length)(kn:k<=n)
  (go:goF W ms n=some (fs++[su,sv]++X,ts++[T1,T2]++Y)) (a4:goF W (exN ms k) n=some (fs++[sv,su]++X,ts++[T1',T2]++Y)) (lf:fs.length=k-2) (lt:ts.length=k-1) :
  Alk T2 (gF ms (fs++[su,sv]++X) (ts++[T1,T2]++Y) k) (gF (exN ms k) (fs++[sv,su]++X) (ts++[T1',T2]++Y) k):=by
 obtain⟨i,rfl⟩ : ∃ i,k=i+2:=⟨k-2,by omega⟩;have h0:Top W (ms.take 2) (ms.take 2):=by rw[e2];exact uB S a7
 have pm:=kCA (ms:=ms) (k:=i+2) hk;have a1:(exN ms (i+2)).Nodup:=pm.nodup_iff.mpr d;have a0:=aH (ms:=ms) (k:=i+2) hk;have ah:∀ j,j<=i+2->(exN ms (i+2)).take j=ms.take j:=λ j hj=>mX hk hj;have a9:Top W ((exN ms (i+2)).take 2) ((exN ms (i+2)).take 2):=by rw[ah 2 (by omega)];exact h0
 have sw:=kGX (ms:=ms) (k:=i+2) h2 hk;rw[show i+2-2=i by omega]at sw;have one:=sw.one;have two:=sw.two;generalize hu:ms.getD (i+2) 0=u at *;generalize hv:ms.getD (i+3) 0=v at *;have gT:∀(R:List Nat),(ts++[R,T2]++Y)[i]?=ts[i]?:=λ R=>by rw[bp,bb (by omega)]
 have o:∀(R:List Nat),(ts++[R,T2]++Y)[i+1]?=some R:=λ R=>by
  rw[bp,bf (by omega),show i+1-ts.length=0 by omega]
  rfl
 have ab:∀(R:List Nat),(ts++[R,T2]++Y)[i+2]?=some T2:=λ R=>by
  rw[bp,bf (by omega),show i+2-ts.length=1 by omega]
  rfl
 have L:∀(R Q:List Nat),(fs++[R,Q]++X)[i]?=some R:=λ R Q=>by
  rw[bp,bf (by omega),show i-fs.length=0 by omega]
  rfl
 have U:∀(R Q:List Nat),(fs++[R,Q]++X)[i+1]?=some Q:=λ R Q=>by
  rw[bp,bf (by omega),show i+1-fs.length=1 by omega]
  rfl
 obtain⟨T,hT⟩ : ∃ T,ts[i]?=some T:=⟨_,ae (by omega)⟩;obtain⟨tp,B,f,M,l,C,eu,eT,m⟩:=zN S.sym d h0 hn go i _ _ _ (L su sv) ((gT T1).trans hT) (o T1);obtain⟨am,H,g,N,h,C',ev,c,ap⟩:=zN S.sym d h0 hn go (i+1) _ _ _ (U su sv) (o T1) (ab T1);obtain⟨tq,B2,g2,N2,an,C2,aa,a8,a2⟩:=zN S.sym a1 a9 (by rw[a0];exact hn) a4 i _ _ _ (L sv su) ((gT T1').trans hT) (o T1');rw[hu]at m;rw[one]at a2;have I:=kEI S a6 d e2 a7 hn go i (by omega);have dT:(ts++[T1,T2]++Y).getD i []=T:=by rw[aj,gT,hT];rfl
 have a3:gF (exN ms (i+2)) (fs++[sv,su]++X) (ts++[T1',T2]++Y) i=gF ms (fs++[su,sv]++X) (ts++[T1,T2]++Y) i:=by
  refine kGV (λ j hj=>tK hk hj) (λ j hj=>?_) (λ j hj=>?_)
  ·rw[aj,aj,bp,bp,bb (by omega),bb (by omega)]
  ·rw[aj,aj,bp,bp,bb (by omega),bb (by omega)]
 have uT:u∉ms.take (i+2):=by rw[<-hu];exact xD d (be _) (by omega)
 have vT:v∉ms.take (i+2):=by rw[<-hv];exact xD d (by omega) (by omega)
 have uv:u≠v:=λ z=>xD d (k:=i+3) (j:=i+3) (be _) (by omega) (by
  rw[hv,<-z,<-hu,show i+3=i+2+1 by omega,take_one (show i+2<ms.length by omega)];simp)
 have g1:gF ms (fs++[su,sv]++X) (ts++[T1,T2]++Y) (i+2)=gst (gst (gF ms (fs++[su,sv]++X) (ts++[T1,T2]++Y) i).1 (gF ms (fs++[su,sv]++X) (ts++[T1,T2]++Y) i).2 u su T).1 (gst (gF ms (fs++[su,sv]++X) (ts++[T1,T2]++Y) i).1 (gF ms (fs++[su,sv]++X) (ts++[T1,T2]++Y) i).2 u su T).2 v sv T1:=by
  show gst (gst _ _ _ _ _).1 (gst _ _ _ _ _).2 (ms.getD (i+3) 0) _ _=_;rw[hu,hv,dT];simp only[aj];rw[L,U,o]
  rfl
 have g2:gF (exN ms (i+2)) (fs++[sv,su]++X) (ts++[T1',T2]++Y) (i+2)=gst (gst (gF ms (fs++[su,sv]++X) (ts++[T1,T2]++Y) i).1 (gF ms (fs++[su,sv]++X) (ts++[T1,T2]++Y) i).2 v sv T).1 (gst (gF ms (fs++[su,sv]++X) (ts++[T1,T2]++Y) i).1 (gF ms (fs++[su,sv]++X) (ts++[T1,T2]++Y) i).2 v sv T).2 u su T1':=by
  show gst (gst _ _ _ _ _).1 (gst _ _ _ _ _).2 ((exN ms (i+2)).getD (i+3) 0) _ _=_;rw[a3,one,two];simp only[aj];rw[L,U,o,gT,hT]
  rfl
 rw[g1,g2];have ag:∀ p,p∈(gF ms (fs++[su,sv]++X) (ts++[T1,T2]++Y) i).2 p:=kTN i;obtain⟨af,_⟩:=zN S.sym a1 a9 (by rw[a0];exact hn) a4 (i+1) _ _ _ (U sv su) (o T1') (ab T1');have ac:=I.nd;have Z:=I.sub;have s:=I.fst;rw[dT]at ac Z;clear I a3 g1 g2 go a4;generalize(gF ms (fs++[su,sv]++X) (ts++[T1,T2]++Y) i).1=SS at *;generalize(gF ms (fs++[su,sv]++X) (ts++[T1,T2]++Y) i).2=UU at *;have al:∀ x∈sv,x∈T:=λ x hx=>by rw[a8,<-aa];simp[hx]
 have uS:u∉sv:=λ z=>uT (tp.sub u (al u z));have X0:∀{x y:Nat},x∉ms.take (i+2)->y∉ms.take (i+2)->x≠y->Cst SS UU T x y:=λ{x y} hx hy xy=>⟨tp.nd,ac,ag,λ z hz=>by rw[s];exact Z z hz,by rw[s];exact hx,by rw[s];exact hy,xy⟩;have p1:poF T sv v=T1':=by rw[a2,aa];exact xC a8 tp.nd
 have O:u∈H++(g::N++[h])++C':=by rw[<-c,m];simp
 have G:=am.nd
 have nu:u∉B++[f]:=λ z=>by
  rw[m]at G;have:B++[f,u,l]++C=(B++[f])++(u::l::C):=by simp
  rw[this]at G;exact(cu.mp G).2.2 u z u (by simp) rfl
 rcases cf.mp O with O | O
 ·rcases cf.mp O with O | O
  ·-- to the right
   obtain⟨P,Q,eB⟩:=rm O
   have nP:u∉P:=λ z=>by
    rw[c,eB]at G;have:P++u::Q++(g::N++[h])++C'=P++(u::(Q++(g::N++[h])++C')):=by simp
    rw[this]at G;exact(cu.mp G).2.2 u z u (by simp) rfl
   obtain⟨q1,q2⟩:=tO (A:=B++[f]) (B:=l::C) (C:=P) (D:=Q++(g::N++[h])++C') (u:=u) (by
    have:=m.symm.trans c;rw[eB]at this;simpa using this) nu nP
   have J:l::C=Q++(g::(N++h::C')):=by rw[q2];simp
   have r:T=B++f::(M++l::C):=by rw[eT];simp
   have a5:T=(B++f::(M++Q))++(g::N++[h])++C':=by rw[r,J];simp
   have eb:T1'=B++f::(M++(Q++g::v::h::C')):=by rw[<-p1,ev,xC a5 tp.nd];simp
   have ea:T1=B++f::u::l::C:=by rw[m];simp
   have R:=comm (X0 uT vT uv) r J (by rw[<-ea];exact G) (by rw[<-eb];exact af.nd);rw[<-ea,<-eb,<-eu,<-ev]at R;exact⟨R.1,λ p _ q=>by rw[R.2]⟩
  ·exact absurd (by rw[ev];exact O) uS
 ·-- to the left
  obtain⟨P,Q,eC⟩:=rm O
  have nP:u∉H++(g::N++[h])++P:=λ z=>by
   rw[c,eC]at G;have:H++(g::N++[h])++(P++u::Q)=(H++(g::N++[h])++P)++(u::Q):=by simp
   rw[this]at G;exact(cu.mp G).2.2 u z u (by simp) rfl
  obtain⟨q1,q2⟩:=tO (A:=B++[f]) (B:=l::C) (C:=H++(g::N++[h])++P) (D:=Q) (u:=u) (by
   have:=m.symm.trans c;rw[eC]at this;simpa using this) nu nP
  obtain⟨D,eD⟩ : ∃ D,h::P=D++[f]:=by
   have:B++[f]=(H++g::N)++(h::P):=by rw[q1];simp
   have l1:(h::P).getLast?=some f:=by
    have z:=congrArg List.getLast? this;rw[DC,jj]at z
    cases e:(h::P).getLast? with
    | none=>simp at e
    | some y=>rw[e]at z;exact z.symm
   exact List.getLast?_eq_some_iff.mp l1
  have r:T=H++g::(N++h::(P++(M++l::C))):=by
   rw[eT,show B++(f::M++[l])++C=(B++[f])++(M++l::C) by simp,q1];simp
  have J:h::(P++(M++l::C))=D++(f::(M++l::C)):=by rw[<-ji,eD];simp
  have a5:T=H++(g::N++[h])++(P++(M++l::C)):=by rw[r];simp
  have eb:T1'=H++g::v::h::(P++(M++l::C)):=by rw[<-p1,ev,xC a5 tp.nd];simp
  have ea:T1=H++g::(N++(D++f::u::l::C)):=by
   rw[m,show B++[f,u,l]++C=(B++[f])++(u::l::C) by simp,q1];have:h::P++(u::l::C)=D++f::u::l::C:=by rw[eD];simp
   simp only[bp,ji,kb]at this ⊢;rw[this]
  have R:=comm (X0 vT uT (sj uv)) r J (by rw[<-eb];exact af.nd) (by rw[<-ea];exact G);rw[<-ea,<-eb,<-eu,<-ev]at R;exact⟨R.1.symm,λ p _ q=>by rw[R.2]⟩
def kQK(S:Nb W)(g:∀ t∈kN W,(nxt W (nxt W t)).2=t.1)(m:ms.Nodup)(r:ms.take 2=[a,b])(o:E W a b)(Q:2<=k)(x:k+1<ms.length)(u:n+2<=ms.length)(U:k<=n)
  (q:goF W ms n=some (fs++[su,sv]++X,ts++[T1,T2]++Y)) (s:goF W (exN ms k) n=some (fs++[sv,su]++X,ts++[T1',T2]++Y)) (N:fs.length=k-2) (lt:ts.length=k-1) (j:Nat) (J:j<=n) (jk:j≠k-1) :
  (gF ms (fs++[su,sv]++X) (ts++[T1,T2]++Y) j).1.Perm (gF (exN ms k) (fs++[sv,su]++X) (ts++[T1',T2]++Y) j).1:=by
 have h0:Top W (ms.take 2) (ms.take 2):=by rw[r];exact uB S o
 rcases iV j (k-1) with c | c
 ·rw[kGV (ms:=ms) (ms':=exN ms k) (Fs':=fs++[sv,su]++X) (Ts':=ts++[T1',T2]++Y) (i:=j)]
  ·intro i y
   exact(tK x (by omega)).symm
  ·intro i y
   rw[aj,aj,bp,bp,bb (by omega),bb (by omega)]
  ·intro i y
   rw[aj,aj,bp,bp,bb (by omega),bb (by omega)]
 have all:∀ d,k+d<=n->Alk ((ts++[T1,T2]++Y).getD (k+d) []) (gF ms (fs++[su,sv]++X) (ts++[T1,T2]++Y) (k+d)) (gF (exN ms k) (fs++[sv,su]++X) (ts++[T1',T2]++Y) (k+d)):=by
  intro d
  induction d with
  | zero =>
   intro _
   have:(ts++[T1,T2]++Y).getD (k+0) []=T2:=by
    rw[aj,bp,bf (by omega),show k+0-ts.length=1 by omega]
    rfl
   rw[this];exact kNQ S g m r o Q x u U q s N lt
  | succ d ih =>
   intro hd;have A:=ih (by omega);have get:∀(L:List (List Nat))(j:Nat),j<L.length->L[j]?=some (L.getD j []):=λ L j h=>by rw[aj,ae h];rfl
   obtain⟨l1,Z⟩:=yG q;obtain⟨tp,B,f,M,l,C,O,D,v⟩:=zN S.sym m h0 u q (k+d) _ _ _ (get _ (k+d) (by omega)) (get _ (k+d) (by omega)) (get _ (k+d+1) (by omega));have I:=kEI S g m r o u q (k+d) (by omega)
   have G:(exN ms k).getD (k+d+2) 0=ms.getD (k+d+2) 0:=by
    rw[aj,aj,bG x (by omega)]
   have H:(fs++[sv,su]++X).getD (k+d) []=(fs++[su,sv]++X).getD (k+d) []:=by
    rw[aj,aj,bf (by simp;omega),bf (by simp;omega)];simp
   have T:(ts++[T1',T2]++Y).getD (k+d) []=(ts++[T1,T2]++Y).getD (k+d) []:=by
    have:∀ R:List Nat,(ts++[R,T2]++Y)[k+d]?=(T2::Y)[d]?:=λ R=>by
     rw[bp,bf (by omega),show k+d-ts.length=d+1 by omega]
     rfl
    rw[aj,aj,this,this]
   rw[show k+(d+1)=k+d+1 by omega];show Alk _ (gst _ _ _ _ _) (gst _ _ _ _ _);rw[G,H,T];refine kQJ ?_ (λ p hp=>?_) (λ p hp=>?_) A
   ·rw[I.fst]
    exact m.sublist (wz _ _)
   ·rw[O]at hp
    rw[D];exact dc _ (cm _ hp)
   ·rw[v]at hp
    rw[D];simp only[cf,eK,si,or_false]at hp ⊢;rcases hp with(hp | hp | hp | hp) | hp
    ·exact .inr (.inl (.inl hp))
    ·exact .inr (.inl (.inr (.inl (.inl hp))))
    ·exact .inl hp
    ·exact .inr (.inl (.inr (.inr hp)))
    ·exact .inr (.inr hp)
 obtain⟨d,rfl⟩ : ∃ d,j=k+d:=⟨j-k,by omega⟩;exact(all d J).at'
end
end Tri
namespace Prf
open PySem L2 Own Tri Cyc Rnd
def top(i:Nat):qa:=PySem.Challenge.pw_restdraw_k64_whole_untied_ones_exchanged.main.body.getD i (.Pass ⟨0,0,0,0⟩)
abbrev lJ:qa:=top 7
def kAP:FnScope ["thing"] ["thing"] (kL lJ):=qJ
abbrev dY:qa:=top 8
def rV:FnScope ["thing","many"] ["thing","many"] (kL dY):=qJ
abbrev lC:qa:=top 9
def kAK:FnScope ["web"] ["web"] (kL lC):=qJ
abbrev kLS:qa:=top 10
def kPC:FnScope ["web"] ["web"] (kL kLS):=qJ
abbrev kAT:qa:=top 11
def kIQ:FnScope ["web","step","p","q","row"] ["web","step"] (kL kAT):=qJ
abbrev aM:qa:=top 12
def gZ:FnScope ["web","step","steps","further"] ["web","step"] (kL aM):=qJ
abbrev kFS:qa:=top 13
def kLR:FnScope ["web","told","seen","step","steps"] ["web"] (kL kFS):=qJ
abbrev oX:qa:=top 14
def kDH:FnScope ["web"] ["web"] (kL oX):=qJ
abbrev uL:qa:=top 15
def fS:FnScope ["web"] ["web"] (kL uL):=qJ
abbrev zU:qa:=top 17
def aW:FnScope ["web","some"] ["web"] (kL zU):=qJ
abbrev dZ:qa:=top 18
def rW:FnScope ["web","p","q","r"] ["web","p","q","r"] (kL dZ):=qJ
abbrev oY:qa:=top 19
def kDI:FnScope ["web","thing","a","b","c"] ["web","thing"] (kL oY):=qJ
abbrev wP:qa:=top 20
def bM:FnScope ["web","base","face"] ["web","base"] (kL wP):=qJ
abbrev lQ:qa:=top 22
def kAR:FnScope ["web","base","thing","a","b","c"] ["web","base","thing"] (kL lQ):=qJ
abbrev vU:qa:=top 23
def cV:FnScope ["web","top","ahead","place","below","stretch","start"] ["web","top","ahead","place"] (kL vU):=qJ
abbrev lD:qa:=top 24
def kAL:FnScope ["top","stretch","place","start","end"] ["top","stretch","place"] (kL lD):=qJ
abbrev kLT:qa:=top 25
def kPD:FnScope ["web","base","thing","found","tops","at","stretch"] ["web","base","thing"] (kL kLT):=qJ
abbrev uK:qa:=top 26
def fR:FnScope ["web","base","order","both"] ["web","base","order"] (kL uK):=qJ
abbrev lM:qa:=top 27
def kAQ:FnScope ["web","base","thing"] ["web","base","thing"] (kL lM):=qJ
abbrev aN:qa:=top 29
def hJ:FnScope ["spots","hung","places","by","gone"] ["spots","hung","places","by"] (kL aN):=qJ
abbrev dR:qa:=top 30
def rO:FnScope ["left","right","x","y","further","higher","way"] ["left","right"] (kL dR):=qJ
abbrev lU:qa:=top 31
def kAS:FnScope ["order","found","tops","spots","hung","told","v","stretch","top","right"] ["order","found","tops"] (kL lU):=qJ
abbrev kFR:qa:=top 32
def kLQ:FnScope ["web","base","order","found","tops"] ["web","base","order"] (kL kFR):=qJ
abbrev kLU:qa:=top 33
def kPE:FnScope ["web","base","order","found","tops","spots"] ["web","base","order"] (kL kLU):=qJ
abbrev oV:qa:=top 35
def kDF:FnScope ["_law_script","_law_k","_law_cell"] ["_law_script","_law_k"] (kL oV):=qJ
abbrev dW:qa:=top 36
def rR:FnScope ["_law_pot_here","_law_many","_law_digit_here"] ["_law_pot_here","_law_many"] (kL dW):=qJ
abbrev dX:qa:=top 37
def rT:FnScope ["_law_rows","_law_p","_law_q","_law_row"] ["_law_rows","_law_p","_law_q"] (kL dX):=qJ
abbrev bN:qa:=top 38
def nS:FnScope ["_law_rows","_law_p","_law_v","_law_new","_law_row"] ["_law_rows","_law_p","_law_v","_law_new"] (kL bN):=qJ
abbrev oW:qa:=top 39
def kDG:FnScope ["_law_rows","_law_p","_law_q","_law_r","_law_new"] ["_law_rows","_law_p","_law_q"] (kL oW):=qJ
abbrev lH:qa:=top 40
def kAN:FnScope ["_law_rows","_law_p","_law_q","_law_r","_law_s"] ["_law_rows","_law_p","_law_q"] (kL lH):=qJ
abbrev lG:qa:=top 41
def kAM:FnScope ["_law_pot_here","_law_rows","_law_p"] ["_law_pot_here","_law_rows"] (kL lG):=qJ
abbrev uM:qa:=top 42
def fU:FnScope ["_law_pot_here","_law_n","_law_rows","_law_k","_law_p","_law_q"] ["_law_pot_here","_law_n"] (kL uM):=qJ
abbrev dU:qa:=top 43
def rQ:FnScope ["_law_pot_here","_law_n","_law_found","_law_k"] ["_law_pot_here","_law_n"] (kL dU):=qJ
abbrev oT:qa:=top 44
def kDD:FnScope ["_law_rows","_law_names_here","_law_found","_law_p","_law_row","_law_called","_law_k"] ["_law_rows","_law_names_here"] (kL oT):=qJ
abbrev lI:qa:=top 45
def kAO:FnScope ["_law_pot_here","_law_web_here","_law_a","_law_c"] ["_law_pot_here","_law_web_here"] (kL lI):=qJ
abbrev oU:qa:=top 46
def kDE:FnScope ["_law_web_here","_law_ahead_here","_law_v","_law_row","_law_begins"] ["_law_web_here","_law_ahead_here","_law_v"] (kL oU):=qJ
abbrev aO:qa:=top 47
def hZ:FnScope ["_law_pot_here","_law_web_here","_law_base_here","_law_order","_law_runs","_law_k","_law_some","_law_v","_law_row","_law_first"] ["_law_pot_here","_law_web_here","_law_base_here"] (kL aO):=qJ
abbrev vV:qa:=top 48
def cW:FnScope ["_law_order","_law_k"] ["_law_order","_law_k"] (kL vV):=qJ
abbrev dS:qa:=top 49
def rP:FnScope ["_law_before","_law_after","_law_order","_law_k","_law_j"] ["_law_before","_law_after","_law_order","_law_k"] (kL dS):=qJ
abbrev kFQ:qa:=top 50
def sc_law:FnScope ["_law_script","_law_pot_here","_law_n","_law_web_here","_law_base_here","_law_order","_law_runs","_law_before","_law_due","_law_turn","_law_k","_law_after"] ["_law_script"] (kL kFQ):=qJ
structure FxG(K:az)(mg:Str->Option ar):Prop where
 X:∃ h:iO,K.In h/\h.Ns gn mg
 d0:jI K "is_whole" lJ
 d1:jI K "are_whole" dY
 d2:jI K "steps_of" lC
 d3:jI K "ties" kLS
 d4:jI K "behind" kAT
 d5:jI K "steps_round" aM
 d6:jI K "faces" kFS
 d7:jI K "is_flat" oX
 d8:jI K "must_be_flat" uL
 d9:jI K "uncornered_face" zU
 d10:jI K "are_round" dZ
 d11:jI K "is_base" oY
 d12:jI K "must_have_base" wP
 d13:jI K "has_ends" lQ
 d14:jI K "stretch_under" vU
 d15:jI K "put_over" lD
 d16:jI K "laid" kLT
 d17:jI K "must_be_laid" uK
 d18:jI K "is_order" lM
 d19:jI K "moved_right" aN
 d20:jI K "spot_over" dR
 d21:jI K "grids_by" lU
 d22:jI K "grids" kFR
 d23:jI K "grid" kLU
 d24:jI K "_law_pot" oV
 d25:jI K "_law_digit" dW
 d26:jI K "_law_ahead" dX
 d27:jI K "_law_behind" bN
 d28:jI K "_law_add" oW
 d29:jI K "_law_flip" lH
 d30:jI K "_law_step" lG
 d31:jI K "_law_cornered" uM
 d32:jI K "_law_names" dU
 d33:jI K "_law_web" oT
 d34:jI K "_law_base" lI
 d35:jI K "_law_run" oU
 d36:jI K "_law_ordered" aO
 d37:jI K "_law_exchanged" vV
 d38:jI K "_law_stays" dS
 d39:jI K "law" kFQ
 y0:jv K gn "len" = some none
 y1:jv K gn "max" = some none
 y2:jv K gn "abs" = some none
 y3:jv K gn "range" = some none
 y4:jv K gn "enumerate" = some none
 y5:jv K gn "min" = some none
 y6:jv K gn "tuple" = some none
 y7:jv K gn "sorted" = some none
 y8:jv K gn "isinstance" = some none
 y9:jv K gn "bool" = some none
 y10:jv K gn "int" = some none
 y11:jv K gn "all" = some none
 y12:jv K gn "list" = some none
 y13:jv K gn "zip" = some none
def FxG.z{K:az}{mg:Str->Option ar}(B:FxG K mg){n:Str}(y:jv K gn n=some none):mg n=none:=by
 obtain⟨h,x,g⟩:=B.X;exact PySem.W.mg_none_of x g y
def Bad(c:Cn):Prop:=FxG c.K c.mg/\∃ f a,Fun c.K "law" "law" kFQ f a/\¬ FnOk c.P c.w c.K c.mg c.base CX0 11 f a ["_law_script"] (oP c.K)
noncomputable def c0:Cn:=Classical.epsilon Bad
noncomputable def P:fb:=c0.P
noncomputable def w:iI:=c0.w
noncomputable def K:az:=c0.K
noncomputable def mg:Str->Option ar:=c0.mg
noncomputable def base:iO:=c0.base
abbrev Fx:=FxG K mg
abbrev Hs:=Own.Has P w K mg base
def kC{H:Hp}{p:av}(h:H p=none)(o:HO):Same H (upd H p o):=λ b u q=>by rw[kM (kO q h)];exact q
def SameBut(a:av)(H H':Hp):Prop:=∀ b o,b≠a->H b=some o->H' b=some o
inductive kRB(K:az)(vs:List V)(H:Hp)(Q:VK)(Y:XK):Prop
 | mk:∀(a:av)(ns:List Int)(k:Int),(vs=[.ref a,.int k])->(SqL K H a (ns.map V.int))->(ns.length<=63)->(0<=k)->(k<=63)->(∀(p:av)(x y:Int)(H':Hp),0<=x->Same H H'->H p=none->H' p=some (.lst [.int x,.int y])->Q (.ref p) H')->kRB K vs H Q Y
def PotAt(H:Hp)(a:av):Prop:=∃ x y:Int,H a=some (.lst [.int x,.int y])/\0<=x
inductive kFM(vs:List V)(H:Hp)(Q:VK)(Y:XK):Prop
 | mk:∀(a:av)(m:Int),(vs=[.ref a,.int m])->(PotAt H a)->(0<m)->(m.natAbs<2 ^ 9000)->(∀(d:Int)(H':Hp),0<=d->d<m->SameBut a H H'->PotAt H' a->Q (.int d) H')->kFM vs H Q Y
def vn(n:Nat):V:=.int (n:Int)
def ci(n:Nat):Int:=n
structure RowsAt(H:Hp)(r:av)(A:List av)(L:Rows):Prop where
 top:H r=some (.lst (A.map V.ref))
 len:A.length=L.length
 nd:A.Nodup
 out:r∉A
 row:∀(i:Nat)(a:av)(ns:List Nat),A[i]?=some a->L[i]?=some ns->H a=some (.lst (ns.map vn))
def xI(a:List Nat):a.map vn=(a.map ci).map V.int:=by
 rw[ui]
 rfl
def qN{a:List Nat}{n:Nat}(h:n∈a):cR (a.map ci) (n:Int) (a.idxOf n):=by
 have c:=gj h;refine⟨?_,λ m f e=>?_⟩
 ·rw[bg,ae c,BX c]
  rfl
 ·have b:m<a.length:=by omega
  rw[bg,ae b]at e
  have d:a[m]=n:=by
   have z:((a[m]:Nat):Int)=(n:Int):=bq e;omega
  have q:=List.not_of_lt_findIdx (p:=(· == n)) (xs:=a) f;rw[d]at q;simp at q
def RowsAt.at{H:Hp}{r:av}{A:List av}{L:Rows}(x:RowsAt H r A L){i:Nat}{c:List Nat}(h:L[i]?=some c):∃ a,A[i]?=some a/\H a=some (.lst (c.map vn))/\atI (A.map V.ref) (i:Int)=some (.ref a):=by
 have b:i<A.length:=by rw[x.len];exact(ao.mp h).1
 refine⟨A[i],ae b,x.row i _ c (ae b) h,qS ?_⟩;rw[bg,ae b]
 rfl
inductive kFO(vs:List V)(H:Hp)(Q:VK)(Y:XK):Prop
 | mk:∀(r b:av)(xs:List V)(p q:Nat)(row:List Nat)(v:Nat),(vs=[.ref r,vn p,vn q])->((H r=some (.lst xs)/\H b=some (.lst (row.map vn))\/H r=some (.tup xs)/\H b=some (.tup (row.map vn))))->(atI xs (q:Int)=some (.ref b))->(p∈row)->(xH row p=some v)->(Q (vn v) H)->kFO vs H Q Y
def tS{row:List Nat}{p v:Nat}(hp:p∈row)(h:xH row p=some v):atI (row.map vn) ((row.idxOf p:Int)-1)=some (vn v):=by
 have b:=gj hp;unfold xH at h;by_cases h0:row.idxOf p=0
 ·rw[if_pos h0]at h
  rw[h0]
  have e:row=row.dropLast++[v]:=by
   have a:row≠[]:=λ z=>by rw[z]at hp;cases hp
   rw[fj a]at h;rw[<-bq h];exact(eN a).symm
  rw[e,du];exact yI _ _
 ·rw[if_neg h0]at h
  have e:((row.idxOf p:Int)-1)=((row.idxOf p-1:Nat):Int):=by omega
  rw[e];exact qS (by rw[bg,h];rfl)
section
def at0{x y:V}:atI [x,y] 0=some x:=rfl
def at1{x y:V}:atI [x,y] 1=some y:=rfl
def zD(B:Fx):Hs "_law_ahead" ["_law_rows","_law_p","_law_q"] 1 (kFO):=by
 refine qM B.X B.d26 rT λ f j A c s H m Q E g l h=>?_;obtain⟨r,b,n,p,q,row,v,rfl,⟨h1,a⟩ | ⟨h1,a⟩,i,hp,d,k⟩:=h
 ·refine⟨_,(kH (pst 3 g (pix kY (pv 0) (pv 2)))
   (kJ (kU (pix kY (pv 3) (kX zL (jQ md me zM (pv 3) (p1 (pv 1))) kI))))),?_⟩
  try dsimp only[qW]
  refine⟨_,rfl,_,rfl,r,_,_,_,rfl,rfl,SqL.of h1,i,?_⟩;refine⟨_,rfl,_,rfl,.inl ⟨rfl,_,SqL.of a⟩,_,rfl,b,row.map ci,p,row.idxOf p,rfl,rfl,by rw[a,xI],qN hp,_,_,rfl,rfl,?_⟩;exact⟨b,_,_,_,rfl,rfl,SqL.of a,tS hp d,k⟩
 ·refine⟨_,(kH (pst 3 g (pix qC (pv 0) (pv 2)))
   (kJ (kU (pix qC (pv 3) (kX zL (kBA zg zh zi dE (pv 3) (p1 (pv 1))) kI))))),?_⟩
  try dsimp only[qW]
  refine⟨_,rfl,_,rfl,r,_,_,_,rfl,rfl,SqT.of h1,i,?_⟩;refine⟨_,rfl,_,rfl,.inr (.inl ⟨rfl,.inr ⟨_,a⟩⟩),_,rfl,b,row.map ci,p,row.idxOf p,rfl,rfl,SqT.of (by rw[a,xI]),qN hp,_,_,rfl,rfl,?_⟩;exact⟨b,_,_,_,rfl,rfl,SqT.of a,tS hp d,k⟩
theorem RowsAt.set{H:Hp}{r:av}{A:List av}{L:Rows}(x:RowsAt H r A L){i:Nat}{a:av}(h:A[i]?=some a)(f:List Nat):RowsAt (upd H a (.lst (f.map vn))) r A (L.set i f):=by
 have g:r≠a:=λ z=>x.out (z ▸ di h);have l:i<L.length:=by rw[<-x.len];exact(ao.mp h).1
 refine⟨by rw[kM g];exact x.top,by rw[As];exact x.len,x.nd,x.out,λ j b n c d=>?_⟩;rcases wB l d with⟨rfl,rfl⟩ | ⟨m,d⟩
 ·rw[h]at c
  cases c
  exact kA
 ·have o:b≠a:=λ z=>by
   subst z;have:=(ye (ao.mp c).1 x.nd).mp (c.trans h.symm);exact m this
  rw[kM o];exact x.row j b n c d
def ButRows(r:av)(A:List av)(H H':Hp):Prop:=∀ b o,b≠r->b∉A->H b=some o->H' b=some o
inductive kAI(vs:List V)(H:Hp)(Q:VK)(Y:XK):Prop
 | mk:∀(r:av)(A:List av)(L:Rows)(p v n:Nat)(row:List Nat),(vs=[.ref r,vn p,vn v,vn n])->(RowsAt H r A L)->(L[p]?=some row)->(v∈row)->(row.length<=1000)->(∀ H',ButRows r A H H'->RowsAt H' r A (L.set p (jE row v n))->Q .non H')->kAI vs H Q Y
def xM(B:Fx):Hs "_law_behind" ["_law_rows","_law_p","_law_v","_law_new"] 1 (kAI):=by
 refine qM B.X B.d27 nS λ f l A d s H G Q E m C h=>?_;obtain⟨r,I,L,p,v,n,row,rfl,X,hp,g,j,k⟩:=h
 refine⟨_,(kH (pst 4 m (pix kY (pv 0) (pv 1)))
   (kJ (qK (jQ Bv Bw pK (pv 4) (p2 (kX jG (jQ md me zM (pv 4) (p1 (pv 2))) kI) (pv 3)))))),?_⟩
 try dsimp only[qW]
 obtain⟨a,i,c,u⟩:=X.at hp;have D:=gj g;refine⟨_,rfl,_,rfl,r,_,_,_,rfl,rfl,SqL.of X.top,u,?_⟩;refine⟨_,rfl,.inl ⟨rfl,_,SqL.of c⟩,_,rfl,.inl ⟨rfl,_,SqL.of c⟩,_,rfl,a,row.map ci,v,row.idxOf v,rfl,rfl,by rw[c,xI],qN g,_,_,rfl,rfl,_,rfl,a,_,_,_,rfl,rfl,c,by omega,by omega,by rw[ak];exact kS j,?_⟩
 have e:Fv ((row.idxOf v:Int)+1).toNat (row.map vn)++vn n::Gj ((row.idxOf v:Int)+1).toNat (row.map vn)=(jE row v n).map vn:=by
  have z:((row.idxOf v:Int)+1).toNat=row.idxOf v+1:=by omega
  rw[z];unfold jE;rw[du,xj,gh,zj]
 have q:=k (upd H a (.lst ((jE row v n).map vn))) (λ b o _ y h=>by
  have x:b≠a:=λ z=>y (by rw[z];exact di i);rw[kM x];exact h) (X.set i _)
 rw[<-e]at q;exact q
def ButRows.trans{r:av}{A:List av}{H a d:Hp}(x:ButRows r A H a)(y:ButRows r A a d):ButRows r A H d:=λ b o h1 c h=>y b o h1 c (x b o h1 c h)
def cY{L:Rows}(G:Good L){p:Nat}{row:List Nat}(h:L[p]?=some row):row.length<=6*L.length:=by
 have q:=yZ L p row [] h;have t:=G.tot;simp only[yh]at q;omega
def RowsAt.app{H:Hp}{r:av}{A:List av}{L:Rows}(x:RowsAt H r A L){a:av}(h:H a=none)(l:List Nat):RowsAt (upd (upd H a (.lst (l.map vn))) r (.lst (A.map V.ref++[V.ref a]))) r (A++[a]) (L++[l]):=by
 have j:r≠a:=kO x.top h
 have p:∀ b,b∈A->b≠a:=λ b d=>by
  obtain⟨i,f,rfl⟩:=eV.mp d;have g:i<L.length:=by rw[<-x.len];exact f
  exact kO (x.row i _ _ (ae f) (ae g)) h
 refine⟨by rw[kA,du];rfl,by simp[x.len],?_,?_,λ i b s d f=>?_⟩
 ·rw[cu]
  exact⟨x.nd,by simp,λ b d c o=>by simp at o;rw[o];exact p b d⟩
 ·intro z
  rcases cf.mp z with z | z
  ·exact x.out z
  ·exact j (by simpa using z)
 ·by_cases n:i<A.length
  ·rw[bb n]at d
   rw[bb (by rw[<-x.len];exact n)]at f;have m:=di d;have q:b≠r:=λ z=>x.out (by rw[<-z];exact m);rw[kM q,kM (p b m)];exact x.row i b s d f
  ·have e:i=A.length:=by
    have:=(ao.mp d).1;simp at this;omega
   subst e;rw[bf (be _)]at d;rw[bf (by rw[x.len];exact be _)]at f;rw[x.len]at f;simp at d f;subst d f;rw[kM j.symm,kA]
inductive kRC(vs:List V)(H:Hp)(Q:VK)(Y:XK):Prop
 | mk:∀(r:av)(A:List av)(L:Rows)(p q:Nat),(vs=[.ref r,vn p,vn q])->(RowsAt H r A L)->(Good L)->(L.length<=150)->(E L p q)->(∀(x:av)(L':Rows)(H':Hp),H x=none->ButRows r A H H'->RowsAt H' r (A++[x]) L'->Good L'->L'.length=L.length+1->Q .non H')->kRC vs H Q Y
def kDW(B:Fx):Hs "_law_add" ["_law_rows","_law_p","_law_q"] 2 (kRC):=by
 refine qM B.X B.d28 kDG λ f a0 A I s H vs Q E nN v h=>?_;obtain⟨r,a,L,p,q,rfl,X,G,hL,U,k⟩:=h
 refine⟨_,(kH (pst 3 nN (pf (zD B) v (kE (pv 0) (kE (pv 1) (kE (pv 2) kW)))))
   (kH (pst 4 nN (kR kP rfl (B.z B.y0) fc (p1 (pv 0))))
   (kH (qK (pf (xM B) v (kE (pv 0) (kE (pv 1) (kE (pv 2) (kE (pv 4) kW))))))
   (kH (qK (pf (xM B) v (kE (pv 0) (kE (pv 2) (kE (pv 3) (kE (pv 4) kW))))))
   (kH (qK (pf (xM B) v (kE (pv 0) (kE (pv 3) (kE (pv 1) (kE (pv 4) kW))))))
   (kJ (qK (jQ jo jq xE (pv 0) (p1 (jD (kE (pv 1) (kE (pv 2) (kE (pv 3) kW))))))))))))),?_⟩
 try dsimp only[qW]
 obtain⟨c,m,D⟩:=G.sym U;obtain⟨u,hp,mp⟩:=U;obtain⟨t,S⟩:=vH D;have f:=zB (G.nd q c m) D S;have Fq:R L q t p:=⟨c,m,f⟩;have Fr:=G.tri _ _ _ Fq;obtain⟨y,j,nr⟩:=id Fr;have gd:=kOO G hp m j f;obtain⟨lq,lt,lp,tq,pq⟩:=wQ G Fq;obtain⟨_,_,_,pt,_⟩:=wQ G Fr;have mr:=(kT nr).1;have g:(a.map V.ref).length=L.length:=by rw[ak];exact X.len
 obtain⟨aX,_,N,J⟩:=X.at m;refine⟨_,rfl,_,rfl,_,rfl,r,aX,_,p,q,c,t,rfl,.inl ⟨X.top,N⟩,J,D,S,?_⟩;refine⟨_,rfl,r,_,rfl,.inl (SqL.of X.top),?_⟩;refine⟨_,rfl,_,rfl,_,rfl,_,rfl,r,a,L,p,q,(a.map V.ref).length,u,rfl,X,hp,mp,(by have:=cY G hp;omega),λ H1 b1 X1=>?_⟩;have O:(L.set p (jE u q (a.map V.ref).length))[q]?=some c:=by rw[eZ pq];exact m
 refine⟨_,rfl,_,rfl,_,rfl,_,rfl,r,a,_,q,t,(a.map V.ref).length,c,rfl,X1,O,(kT f).1,(by have:=cY G m;omega),λ H2 b2 X2=>?_⟩;have M:((L.set p (jE u q (a.map V.ref).length)).set q (jE c t (a.map V.ref).length))[t]?=some y:=by rw[eZ (λ z=>tq z.symm),eZ pt];exact j
 refine⟨_,rfl,_,rfl,_,rfl,_,rfl,r,a,_,t,p,(a.map V.ref).length,y,rfl,X2,M,mr,(by have:=cY G j;omega),λ H3 b3 l=>?_⟩;refine⟨_,rfl,.inl ⟨rfl,_,SqL.of l.top⟩,_,rfl,_,rfl,_,rfl,yS3,λ x n=>?_⟩;have T:r≠x:=kO l.top n;have d:=b1.trans (b2.trans b3)
 have xn:H x=none:=by
  cases e:H x with
  | none=>rfl
  | some o =>
   have xA:x∉a:=λ z=>by
    obtain⟨i,Z,rfl⟩:=eV.mp z;have C:i<(((L.set p (jE u q (a.map V.ref).length)).set q (jE c t (a.map V.ref).length)).set t (jE y p (a.map V.ref).length)).length:=by rw[<-l.len];exact Z
    rw[l.row i _ _ (ae Z) (ae C)]at n;cases n
   rw[d x o (λ z=>T z.symm) xA e]at n;cases n
 refine⟨r,_,_,rfl,rfl,(by rw[kM T];exact l.top),(by rw[g];exact kS (by omega)),?_⟩;have Y:=l.app n [p,q,t];rw[g]at Y;refine k x (bI L p q t u c y) _ xn (λ b o h1 h2 h=>?_) Y gd (by simp[bI]);have bx:b≠x:=λ z=>by rw[z,xn]at h;cases h
 rw[kM h1,kM bx];exact d b o h1 h2 h
def kOG(a:List Int)(lo hi:Option Int):∃ ms:List Int,xS (a.map V.int) lo hi=ms.map V.int/\ms.length<=a.length:=by
 refine⟨(a.drop (HT.sIx (a.map V.int).length 0 lo)).take (HT.sIx (a.map V.int).length (a.map V.int).length hi-HT.sIx (a.map V.int).length 0 lo),?_,?_⟩
 ·unfold xS
  rw[xj,zj]
 ·rw[de,iP]
  omega
def kJU(ms:List Int):∃ c:Int,atI (ms.map V.int++[V.int 0]) 0=some (V.int c):=by
 cases ms with
 | nil=>exact⟨0,rfl⟩
 | cons x r=>exact⟨x,qS (j:=0) rfl⟩
def xJ{n:Nat}(h:n<=20000):n<sizeLine:=jl h (by rw[Bk];decide)
def kUJ{n:Nat}(h:n<=1000):n<=sizeLine:=fv (kS h)
def kDV(B:Fx):Hs "_law_pot" ["_law_script","_law_k"] 1 (kRB K):=by
 refine qM B.X B.d24 kDF λ f y A d s H L Q E C I h=>?_;obtain⟨a,i,k,rfl,x,p,J,N,q⟩:=h
 refine⟨_,(kH (pst 2 C (pix kY (kX dA (qD yO (pv 0) (qF (pv 1)) (qF (kX jG (pv 1) kI))) (jD (p1 kI))) kI))
   (kJ (kU (jD (p2 (kR (kKD rfl) rfl (B.z B.y1) GH (p2 kI (kX zL (pv 2) (kX kSS kI kI)))) (kX jG (kX mG (kX jG (kX jG (kR kOL rfl (B.z B.y2) GJ (p1 (pv 2))) (kX kDS kI (pv 1))) kI) kI) kI)))))),?_⟩
 try dsimp only[qW]
 obtain⟨r,em,M⟩:=kOG i (some k) (some (k+1));obtain⟨c,o⟩:=kJU r;refine⟨_,rfl,_,rfl,k,rfl,_,rfl,_,_,rfl,rfl,k+1,rfl,a,_,rfl,x,λ p1 h1=>?_⟩;refine⟨yS1,λ p2 l=>?_⟩;have b:p1≠p2:=kO kA l;refine⟨p1,p2,_,_,rfl,rfl,(by rw[kM b];exact kA),kA,(by rw[em,ak,fk];exact kUJ (by omega)),λ u D=>?_⟩;refine⟨u,_,_,_,rfl,rfl,SqL.of kA,(by rw[em];exact o),?_⟩;have m:Same H (upd H p1 (.lst (xS (i.map V.int) (some k) (some (k+1))))):=kC h1 _;have v:=kC l (.lst [V.int 0]);have n:=kC D (.lst (xS (i.map V.int) (some k) (some (k+1))++[V.int 0]));have g:=m.trans (v.trans n);refine⟨_,rfl,_,_,rfl,rfl,⟨by decide,by decide,by decide⟩,_,_,rfl,rfl,_,_,rfl,_,rfl,c,rfl,_,rfl,_,_,rfl,rfl,.inl ⟨by decide,by decide⟩,_,_,rfl,rfl,_,_,rfl,rfl,_,_,rfl,rfl,(by show(0:Int)<2147483629;decide),_,_,rfl,rfl,yS2,λ G j=>?_⟩;refine q G _ _ _ ?_ (g.trans (kC j _)) (g.free j) kA
 split<;>omega
def SameBut.trans{a:av}{H c d:Hp}(x:SameBut a H c)(y:SameBut a c d):SameBut a H d:=λ b o n h=>y b o n (x b o n h)
def SameBut.of{a:av}{H H':Hp}(h:Same H H'):SameBut a H H':=λ b o _ e=>h b o e
def kHJ{a:av}{H:Hp}{o:HO}:SameBut a H (upd H a o):=λ b u n h=>by rw[kM n];exact h
def qV(B:Fx):Hs "_law_digit" ["_law_pot_here","_law_many"] 1 (kFM):=by
 refine qM B.X B.d25 rR λ f l A g s H r Q E n o h=>?_;obtain⟨a,m,rfl,⟨x,y,b,i⟩,d,j,q⟩:=h
 refine⟨_,(kH (xL (kZ kMR (pix kY (pv 0) kI) kI (qO _)) (kH (pst 2 n (kX mG (pix kY (pv 0) kI) (pv 1)))
   (kH (yB (kX Own.op_fdivW (pix kY (pv 0) kI) (pv 1)) (kDO (pv 0) kI gY))
   (kJ (kU (pv 2))))) qQ)
   (kH (yB (kX mG (kX jG (kX kDS (pix kY (pv 0) kI) kI) kI) kI) (kDO (pv 0) kI gY))
   (kJ (kU (kX mG (kX kGF (kX mG (kX kDS (pix kY (pv 0) kI) (pix kY (pv 0) kI)) kI) kI) (pv 1)))))),?_⟩
 try dsimp only[qW]
 refine⟨_,rfl,a,_,_,_,rfl,rfl,SqL.of b,at0,_,_,rfl,rfl,_,rfl,?_⟩;refine kJM (λ c=>?_) (λ c=>?_)
 ·refine⟨_,rfl,a,_,_,_,rfl,rfl,SqL.of b,at0,_,rfl,_,_,rfl,rfl,d,?_⟩
  refine⟨_,rfl,a,_,_,_,rfl,rfl,SqL.of b,at0,_,rfl,_,_,rfl,rfl,⟨by omega,j⟩,?_⟩;refine⟨_,rfl,a,_,_,0,rfl,rfl,b,rfl,?_⟩;refine⟨_,rfl,?_⟩;refine q _ _ (Cm _ (by omega)) (BZ _ d) kHJ ⟨_,_,kA,?_⟩;rw[BL _ (by omega)];exact Int.ediv_nonneg i (by omega)
 ·refine⟨_,rfl,a,_,_,_,rfl,rfl,SqL.of b,at1,_,_,rfl,rfl,.inr ⟨by decide,by decide⟩,_,_,rfl,rfl,_,_,rfl,rfl,(by show(0:Int)<2147483647;decide),?_⟩
  refine⟨_,rfl,a,_,_,1,rfl,rfl,b,rfl,?_⟩;have p:0<=(y*48271+39373) % 2147483647:=Cm _ (by decide);have u:(y*48271+39373) % 2147483647<2147483647:=BZ _ (by decide);refine⟨_,rfl,a,_,_,_,rfl,rfl,SqL.of kA,at1,_,rfl,a,_,_,_,rfl,rfl,SqL.of kA,at1,_,_,rfl,rfl,.inl ⟨?_,?_⟩,_,_,rfl,rfl,(by show(0:Int)<2147483629;decide),_,_,rfl,rfl,⟨by decide,by decide⟩,_,rfl,_,_,rfl,rfl,d,?_⟩
  ·show -(2 ^ 64)<(y*48271+39373) % 2147483647
   omega
  ·show(y*48271+39373) % 2147483647<2 ^ 64
   omega
  ·exact q _ _ (Cm _ (by omega)) (BZ _ d) kHJ ⟨_,_,kA,i⟩
def PotAt.kept{H H':Hp}{p:av}(h:PotAt H p)(g:Same H H'):PotAt H' p:=by
 obtain⟨x,y,e,z⟩:=h;exact⟨x,y,g _ _ e,z⟩
def mQ{i:Int}(h:i.natAbs<2 ^ 200):i.natAbs<2 ^ 9000:=cv h (Nat.pow_le_pow_right (by decide) (by decide))
def PotAt.other{H:Hp}{a l:av}{o:HO}(h:PotAt H a)(n:a≠l):PotAt (upd H l o) a:=by
 obtain⟨x,y,e,z⟩:=h;exact⟨x,y,by rw[kM n];exact e,z⟩
def kNF(s:Nat)(row:List Nat):inV (vn s) (row.map vn)=decide (s∈row):=by
 unfold inV;rw[iL,EI,decide_eq_true_iff];constructor
 ·rintro⟨x,b,e⟩
  obtain⟨n,a,rfl⟩:=iR.mp b;have:((n:Int) == (s:Int))=true:=e
  have:n=s:=by
   have:=eq_of_beq this;omega
  subst this;exact a
 ·intro h
  exact⟨vn s,iR.mpr ⟨s,h,rfl⟩,(beq_self_eq_true (s:Int))⟩
def kGW(row:List Nat):(row.map vn).all aR=true:=by
 rw[GC,wo];intro x _
 rfl
def kNY(row:List Nat)(q:Nat):((row.map ci).eraseIdx (row.idxOf q)).map V.int=(jU row q).map vn:=by
 unfold jU;rw[xI,vJ ci]
def kIN{L:Rows}{i j:Nat}{r:List Nat}{row:List Nat}(h:L[j]?=some row)(n:i≠j):(L.set i r)[j]?=some row:=by rw[eZ n];exact h
inductive kLJ(vs:List V)(H:Hp)(Q:VK)(Y:XK):Prop
 | mk:∀(r:av)(A:List av)(L:Rows)(p q:Nat),(vs=[.ref r,vn p,vn q])->(RowsAt H r A L)->(Good L)->(L.length<=150)->(E L p q)->(∀(L':Rows)(H':Hp),ButRows r A H H'->RowsAt H' r A L'->Good L'->L'.length=L.length->Q .non H')->kLJ vs H Q Y
def kBD(B:Fx):Hs "_law_flip" ["_law_rows","_law_p","_law_q"] 2 (kLJ):=by
 refine qM B.X B.d29 kAN λ f a6 A S s H vs Q E nN y h=>?_;obtain⟨r,A1,L,p,q,rfl,X,G,hL,hE,k⟩:=h
 refine⟨_,(kH (pst 3 nN (pf (zD B) y (kE (pv 0) (kE (pv 1) (kE (pv 2) kW)))))
   (kH (pst 4 nN (pf (zD B) y (kE (pv 0) (kE (pv 2) (kE (pv 1) kW)))))
   (kJ (xL (PW.pt (mB (kZ mF (pv 3) (pv 4) (qO _)) (fY (kZ zC (pv 4) (pix kY (pv 0) (pv 3)) rfl)))) (kH (qK (jQ Bx By pI (pix kY (pv 0) (pv 1)) (p1 (pv 2))))
   (kH (qK (jQ Bx By pI (pix kY (pv 0) (pv 2)) (p1 (pv 1))))
   (kH (qK (pf (xM B) y (kE (pv 0) (kE (pv 3) (kE (pv 1) (kE (pv 4) kW))))))
   (kJ (qK (pf (xM B) y (kE (pv 0) (kE (pv 4) (kE (pv 2) (kE (pv 3) kW)))))))))) qQ)))),?_⟩
 try dsimp only[qW]
 obtain⟨d,x,C⟩:=G.sym hE;obtain⟨a,hp,mp⟩:=hE;obtain⟨t,ht⟩:=vH C;obtain⟨u,hu⟩:=vH mp;have f:=zB (G.nd q d x) C ht;have f':=zB (G.nd p a hp) mp hu;have Fq:R L q t p:=⟨d,x,f⟩;have Fp:R L p u q:=⟨a,hp,f'⟩;have Ft:=G.tri _ _ _ Fq;have Fu:=G.tri _ _ _ Fp;obtain⟨rt,g,nt⟩:=id Ft;obtain⟨ru,j,nu⟩:=id Fu;obtain⟨lq,lt,lp,tq,pq⟩:=wQ G Fq;obtain⟨_,lu,_,a4,qp⟩:=wQ G Fp;obtain⟨_,_,_,pt,qt⟩:=wQ G Ft;obtain⟨_,_,_,qu,pu⟩:=wQ G Fu;obtain⟨aX,_,a3,M⟩:=X.at x;refine⟨_,rfl,_,rfl,_,rfl,r,aX,_,p,q,d,t,rfl,.inl ⟨X.top,a3⟩,M,C,ht,?_⟩;obtain⟨aY,_,O,N⟩:=X.at hp;refine⟨_,rfl,_,rfl,_,rfl,r,aY,_,q,p,a,u,rfl,.inl ⟨X.top,O⟩,N,mp,hu,?_⟩;have stay:=k L H (λ _ _ _ _ h=>h) X G rfl;refine⟨_,rfl,_,rfl,rfl,_,rfl,?_⟩;refine kJM (λ c=>?_) (λ c=>jY stay);have tu:t≠u:=λ z=>by subst z;simp[vn]at c
 obtain⟨at',a5,Z,a0⟩:=X.at g;refine⟨_,rfl,_,rfl,_,rfl,r,_,_,_,rfl,rfl,SqL.of X.top,a0,at',_,rfl,.inl (SqL.of Z),rfl,kGW _,_,rfl,?_⟩;rw[kNF];refine kJM (λ c2=>?_) (λ c2=>stay);have ut:u∉rt:=λ z=>by simp[z]at c2
 have gd:=kJT G hp x g j f f' tu ut
 obtain⟨I,l,v,a1⟩:=X.at hp;refine⟨_,rfl,_,rfl,r,_,_,_,rfl,rfl,SqL.of X.top,a1,.inl ⟨rfl,_,SqL.of v⟩,_,rfl,I,a.map ci,q,a.idxOf q,rfl,rfl,(by rw[v,xI]),qN mp,?_⟩;rw[kNY];have U:=X.set l (jU a q);have T:=kIN (i:=p) (r:=jU a q) x pq;obtain⟨J,m,n,Y⟩:=U.at T;refine⟨_,rfl,_,rfl,r,_,_,_,rfl,rfl,SqL.of U.top,Y,.inl ⟨rfl,_,SqL.of n⟩,_,rfl,J,d.map ci,p,d.idxOf p,rfl,rfl,(by rw[n,xI]),qN C,?_⟩;rw[kNY];have X2:=U.set m (jU d p)
 have b2:ButRows r A1 H (upd (upd H I (.lst ((jU a q).map vn))) J (.lst ((jU d p).map vn))):=λ b o h1 h2 h=>by
  rw[kM (λ z=>h2 (by rw[z];exact di m)),kM (λ z=>h2 (by rw[z];exact di l))];exact h
 generalize upd (upd H I (.lst ((jU a q).map vn))) J (.lst ((jU d p).map vn))=H2 at *;have a2:=kIN (i:=q) (r:=jU d p) (kIN (i:=p) (r:=jU a q) g pt) qt;refine⟨_,rfl,_,rfl,_,rfl,_,rfl,r,A1,_,t,p,u,rt,rfl,X2,a2,(kT nt).1,(by have:=cY G g;omega),λ H3 b3 X3=>?_⟩;have D:=kIN (i:=t) (r:=jE rt p u) (kIN (i:=q) (r:=jU d p) (kIN (i:=p) (r:=jU a q) j pu) qu) tu;refine⟨_,rfl,_,rfl,_,rfl,_,rfl,r,A1,_,u,q,t,ru,rfl,X3,D,(kT nu).1,(by have:=cY G j;omega),λ H4 b4 X4=>?_⟩;exact k _ H4 (b2.trans (b3.trans b4)) X4 gd (by simp[zP])
structure Some'(L:Rows):Prop where
 pos:0<L.length
 le:L.length<=150
 ne:∀(p:Nat)(row:List Nat),L[p]?=some row->row≠[]/\row.length<=1000
def RowsAt.but{H H':Hp}{r a:av}{A:List av}{L:Rows}(x:RowsAt H r A L)(h1:a≠r)(h:a∉A)(g:SameBut a H H'):RowsAt H' r A L :=
 ⟨g _ _ h1.symm x.top,x.len,x.nd,x.out,λ i b f c d=>g _ _ (λ z=>h (z ▸ di c)) (x.row i b f c d)⟩
def kEU{row:List Nat}{j:Nat}(h:j<row.length):atI (row.map vn) (j:Int)=some (vn row[j]):=qS (by rw[bg,ae h];rfl)
inductive kLG(vs:List V)(H:Hp)(Q:VK)(Y:XK):Prop
 | mk:∀(a r:av)(A:List av)(L:Rows),(vs=[.ref a,.ref r])->(PotAt H a)->(RowsAt H r A L)->(a≠r)->(a∉A)->(Some' L)->(∀(t:av)(p q:Nat)(H':Hp),SameBut a H H'->PotAt H' a->H t=none->H' t=some (.tup [vn p,vn q])->E L p q->Q (.ref t) H')->kLG vs H Q Y
def WebAt(H:Hp)(t:av)(W:Rows):Prop:=∃ b:List av,H t=some (.tup (b.map V.ref))/\b.length=W.length/\∀(j:Nat)(a:av)(row:List Nat),b[j]?=some a->W[j]?=some row->H a=some (.tup (row.map vn))
def WebAt.at{H:Hp}{t:av}{W:Rows}(h:WebAt H t W):∃ ts:List av,H t=some (.tup (ts.map V.ref))/\ts.length=W.length/\∀(q:Nat)(row:List Nat),W[q]?=some row->∃ b,atI (ts.map V.ref) (q:Int)=some (.ref b)/\H b=some (.tup (row.map vn)):=by
 obtain⟨ts,h1,c,d⟩:=h;refine⟨ts,h1,c,λ q row e=>?_⟩;have a:q<ts.length:=by rw[c];exact(ao.mp e).1
 exact⟨ts[q],qS (by rw[bg,ae a];rfl),d q _ row (ae a) e⟩
def kDM{H:Hp}{a b:av}{o:HO}(hp:PotAt H a)(e:H b=some o)(n:∀ xs,o≠.lst xs):b≠a:=λ z=>by
 obtain⟨x,y,h,_⟩:=hp;rw[z,h]at e;exact n _ (bq e).symm
def WebAt.pot{H H':Hp}{a t:av}{W:Rows}(h:WebAt H t W)(g:SameBut a H H')(hp:PotAt H a):WebAt H' t W:=by
 obtain⟨i,h1,l,c⟩:=h;exact⟨i,g _ _ (kDM hp h1 (by simp)) h1,l,λ j b row f d=>g _ _ (kDM hp (c j b row f d) (by simp)) (c j b row f d)⟩
def WebAt.kept{H H':Hp}{t:av}{W:Rows}(h:WebAt H t W)(g:Same H H'):WebAt H' t W:=by
 obtain⟨b,h1,c,d⟩:=h;exact⟨b,g _ _ h1,c,λ j a row i f=>g _ _ (d j a row i f)⟩
inductive kFD(vs:List V)(H:Hp)(Q:VK)(Y:XK):Prop
 | mk:∀(a r:av)(W:Rows),(vs=[.ref a,.ref r])->(PotAt H a)->(WebAt H r W)->(0<W.length)->(W.length<=150)->((∀(p:Nat)(row:List Nat),W[p]?=some row->row≠[]/\row.length<=1000))->(∀(t:av)(p q:Nat)(H':Hp),SameBut a H H'->PotAt H' a->H t=none->H' t=some (.tup [vn p,vn q])->E W p q->Q (.ref t) H')->kFD vs H Q Y
def kOY:Sp:=λ a H Q E=>kLG a H Q E\/kFD a H Q E
def uU(B:Fx):Hs "_law_step" ["_law_pot_here","_law_rows"] 2 (kOY):=by
 refine qM B.X B.d30 kAM λ f a7 A a4 s H vs Q E nN M h=>?_;rcases h with h | h
 ·obtain⟨a,r,A1,L,rfl,N,X,C,l,S,k⟩:=h
  refine⟨_,(kH (pst 2 nN (pf (qV B) M (p2 (pv 0) (kR kP rfl (B.z B.y0) fc (p1 (pv 1))))))
   (kJ (kU (qU (p2 (pv 2) (pix kY (pix kY (pv 1) (pv 2)) (pf (qV B) M (p2 (pv 0) (kR kP rfl (B.z B.y0) fc (p1 (pix kY (pv 1) (pv 2)))))))))))),?_⟩
  try dsimp only[qW]
  have lA:((A1.map V.ref).length:Int)=L.length:=by rw[ak,X.len]
  have sp:=S.pos;have sl:=S.le;refine⟨_,rfl,_,rfl,r,_,rfl,.inl (SqL.of X.top),a,_,rfl,N,(by omega),mQ (by rw[lA];exact jl (m:=150) (by omega) (by decide)),λ d H1 d0 d1 q p1=>?_⟩;rw[lA]at d1;obtain⟨p,rfl⟩:=mf d0;have hp:p<L.length:=by omega
  have O:=X.but C l q;have b:=ae hp;obtain⟨Z,e1,e2,e3⟩:=O.at b;obtain⟨u,a3⟩:=S.ne p _ b;have G:0<L[p].length:=vy.mpr u;have J:((L[p].map vn).length:Int)=L[p].length:=by rw[ak]
  refine⟨_,rfl,_,rfl,_,rfl,r,_,_,_,rfl,rfl,SqL.of O.top,e3,_,rfl,_,rfl,_,rfl,r,_,_,_,rfl,rfl,SqL.of O.top,e3,Z,_,rfl,.inl (SqL.of e2),a,_,rfl,p1,(by omega),mQ (by rw[J];exact jl (m:=1000) (by omega) (by decide)),λ d' H2 c0 Y i p2=>?_⟩;rw[J]at Y;obtain⟨j,rfl⟩:=mf c0;have D:j<L[p].length:=by omega
  have X2:=O.but C l i;have a2:Z≠a:=λ z=>l (z ▸ di e1);refine⟨Z,_,_,_,rfl,rfl,SqL.of (i _ _ a2 e2),kEU D,yS2,λ t g=>?_⟩;have I:=kC g (.tup [vn p,vn L[p][j]])
  have n:H t=none:=by
   cases e:H t with
   | none=>rfl
   | some o =>
    have ta:t≠a:=λ z=>by
     obtain⟨x,y,w,_⟩:=p2;rw[z,w]at g;cases g
    rw[(q.trans i) t o ta e]at g;cases g
  exact k t p L[p][j] _ (q.trans (i.trans (.of I))) (p2.kept I) n kA ⟨_,b,ie D⟩
 ·obtain⟨a,r,W,rfl,N,hW,w0,w1,wl,k⟩:=h
  refine⟨_,(kH (pst 2 nN (pf (qV B) M (p2 (pv 0) (kR kP rfl (B.z B.y0) fc (p1 (pv 1))))))
   (kJ (kU (qU (p2 (pv 2) (pix qC (pix qC (pv 1) (pv 2)) (pf (qV B) M (p2 (pv 0) (kR kP rfl (B.z B.y0) fc (p1 (pix qC (pv 1) (pv 2)))))))))))),?_⟩
  try dsimp only[qW]
  obtain⟨ts,h1,a1,h3⟩:=hW.at;have eL:((ts.map V.ref).length:Int)=(W.length:Int):=by rw[ak,a1]
  refine⟨_,rfl,_,rfl,r,_,rfl,.inr (SqT.of h1),a,_,rfl,N,(by omega),mQ (by rw[eL];exact jl (m:=150) (by omega) (by decide)),λ d H1 d0 d1 q p1=>?_⟩;rw[eL]at d1;obtain⟨p,rfl⟩:=mf d0;have hp:p<W.length:=by omega
  have W1:=hW.pot q N;obtain⟨a6,v,a5,a0⟩:=W1.at;have b:=ae hp;obtain⟨b1,f1,T⟩:=a0 p W[p] b;obtain⟨u,a3⟩:=wl p _ b;have G:0<W[p].length:=vy.mpr u;have J:((W[p].map vn).length:Int)=W[p].length:=by rw[ak]
  refine⟨_,rfl,_,rfl,_,rfl,r,_,_,_,rfl,rfl,SqT.of v,f1,_,rfl,_,rfl,_,rfl,r,_,_,_,rfl,rfl,SqT.of v,f1,b1,_,rfl,.inr (SqT.of T),a,_,rfl,p1,(by omega),mQ (by rw[J];exact jl (m:=1000) (by omega) (by decide)),λ c H2 c0 Y i p2=>?_⟩;rw[J]at Y;obtain⟨j,rfl⟩:=mf c0;have D:j<W[p].length:=by omega
  have U:=i _ _ (kDM p1 T (by simp)) T;refine⟨b1,_,_,_,rfl,rfl,SqT.of U,kEU D,yS2,λ t g=>?_⟩;have I:=kC g (.tup [vn p,vn W[p][j]])
  have n:H t=none:=by
   cases e:H t with
   | none=>rfl
   | some o =>
    have ta:t≠a:=λ z=>by
     obtain⟨x,y,w,_⟩:=p2;rw[z,w]at g;cases g
    rw[(q.trans i) t o ta e]at g;cases g
  exact k t p W[p][j] _ (q.trans (i.trans (.of I))) (p2.kept I) n kA ⟨_,b,ie D⟩
def dJ{L:Rows}(G:Good L)(h:L.length<=150):Some' L :=
 ⟨by have:=G.three;omega,h,λ p row e=>⟨G.ne p row e,by have:=cY G e;omega⟩⟩
structure New(H:Hp)(a r:av)(A:List av):Prop where
 top:H r=none
 all:∀ x∈A,H x=none
 pot:a≠r/\a∉A
def New.but{H d f:Hp}{a r:av}{A:List av}(n:New H a r A)(s:SameBut a H d)(b:ButRows r A d f):SameBut a H f:=λ c o g e =>
 b c o (kO e n.top) (λ z=>by rw[n.all c z]at e;cases e) (s c o g e)
def PotAt.rows{H H':Hp}{a r:av}{A:List av}(h:PotAt H a)(h1:a≠r)(c:a∉A)(b:ButRows r A H H'):PotAt H' a:=by
 obtain⟨x,y,e,z⟩:=h;exact⟨x,y,b _ _ h1 c e,z⟩
inductive gR(vs:List V)(H:Hp)(Q:VK)(Y:XK):Prop
 | mk:∀(a:av)(n:Nat),(vs=[.ref a,vn n])->(PotAt H a)->(3<=n)->(n<=40)->(∀(r:av)(A:List av)(L:Rows)(H':Hp),SameBut a H H'->PotAt H' a->RowsAt H' r A L->Good L->L.length=n->New H a r A->Q (.ref r) H')->gR vs H Q Y
def kEK{H:Hp}{c d f r:av}(D:H c=none)(A:upd H c (.lst [vn 1,vn 2]) d=none)(q:upd (upd H c (.lst [vn 1,vn 2])) d (.lst [vn 2,vn 0]) f=none)
  (j:upd (upd (upd H c (.lst [vn 1,vn 2])) d (.lst [vn 2,vn 0])) f (.lst [vn 0,vn 1]) r=none) :
  RowsAt (upd (upd (upd (upd H c (.lst [vn 1,vn 2])) d (.lst [vn 2,vn 0])) f (.lst [vn 0,vn 1])) r (.lst [.ref c,.ref d,.ref f])) r [c,d,f] [[1,2],[2,0],[0,1]]/\Same H (upd (upd (upd (upd H c (.lst [vn 1,vn 2])) d (.lst [vn 2,vn 0])) f (.lst [vn 0,vn 1])) r (.lst [.ref c,.ref d,.ref f])):=by
 have B:=kC D (.lst [vn 1,vn 2]);have h:=kC A (.lst [vn 2,vn 0]);have g:=kC q (.lst [vn 0,vn 1]);have m:=kC j (.lst [.ref c,.ref d,.ref f]);have h1:=m _ _ (g _ _ (h _ _ (kA (H:=H) (a:=c) (o:=.lst [vn 1,vn 2]))));have C:=m _ _ (g _ _ (kA (H:=upd H c (.lst [vn 1,vn 2])) (a:=d) (o:=.lst [vn 2,vn 0])));have G:=m _ _ (kA (H:=upd (upd H c (.lst [vn 1,vn 2])) d (.lst [vn 2,vn 0])) (a:=f) (o:=.lst [vn 0,vn 1]));have y:c≠d:=kO (kA (H:=H) (a:=c) (o:=.lst [vn 1,vn 2])) A;have x:c≠f:=kO (h _ _ (kA (H:=H) (a:=c) (o:=.lst [vn 1,vn 2]))) q;have s:d≠f:=kO (kA (H:=upd H c (.lst [vn 1,vn 2])) (a:=d) (o:=.lst [vn 2,vn 0])) q;have u:c≠r:=kO (g _ _ (h _ _ (kA (H:=H) (a:=c) (o:=.lst [vn 1,vn 2])))) j;have n:d≠r:=kO (g _ _ (kA (H:=upd H c (.lst [vn 1,vn 2])) (a:=d) (o:=.lst [vn 2,vn 0]))) j;have p:f≠r:=kO (kA (H:=upd (upd H c (.lst [vn 1,vn 2])) d (.lst [vn 2,vn 0])) (a:=f) (o:=.lst [vn 0,vn 1])) j;refine⟨⟨kA,rfl,?_,?_,λ i b I l v=>?_⟩,B.trans (h.trans (g.trans m))⟩
 ·simp[y,x,s]
 ·simp[u.symm,n.symm,p.symm]
 ·match i with
  | 0=>cases l;cases v;exact h1
  | 1=>cases l;cases v;exact C
  | 2=>cases l;cases v;exact G
  | i+3=>simp at l
def fW(B:Fx):Hs "_law_cornered" ["_law_pot_here","_law_n"] 3 (gR):=by
 refine qM B.X B.d31 fU λ f a7 A a3 s H vs Q E I U h=>?_;obtain⟨a,n,rfl,ha,n3,a5,k⟩:=h
 refine⟨_,(kH (pst 2 I (jD (kE (jD (p2 kI kI)) (kE (jD (p2 kI kI)) (kE (jD (p2 kI kI)) kW)))))
   (kH (nV (jV rfl (B.z B.y3) (p1 (kX zL (pv 1) kI))) (pgn 3 I) (kH (yB (pf (uU B) U (p2 (pv 0) (pv 2))) (jF (n:=2) rfl (kQ (pgn 4 I) (kQ (pgn 5 I) qR))))
   (kJ (qK (pf (kDW B) U (kE (pv 2) (kE (pv 4) (kE (pv 5) kW))))))))
   (kH (nV (jV rfl (B.z B.y3) (p1 (pf (qV B) U (p2 (pv 0) (kX Own.op_mulW kI (pv 1)))))) (pgn 3 I) (kH (yB (pf (uU B) U (p2 (pv 0) (pv 2))) (jF (n:=2) rfl (kQ (pgn 4 I) (kQ (pgn 5 I) qR))))
   (kJ (qK (pf (kBD B) U (kE (pv 2) (kE (pv 4) (kE (pv 5) kW))))))))
   (kJ (kU (pv 2)))))),?_⟩
 try dsimp only[qW]
 refine⟨yS2,λ S m1=>⟨yS2,λ l2 m2=>⟨yS2,λ l3 m3=>⟨yS3,λ r m4=>?_⟩⟩⟩⟩;obtain⟨X0,g0⟩:=kEK m1 m2 m3 m4;have p0:=ha.kept g0
 have a0:New H a r [S,l2,l3]:=by
  obtain⟨x,y,j,_⟩:=ha;have g1:=kC m1 (.lst [vn 1,vn 2]);have g2:=kC m2 (.lst [vn 2,vn 0]);have g3:=kC m3 (.lst [vn 0,vn 1]);have f2:=g1.free m2;have f3:=(g1.trans g2).free m3;have f4:=(g1.trans (g2.trans g3)).free m4;refine⟨f4,λ x l=>?_,kO j f4,λ z=>?_⟩
  ·simp at l
   rcases l with rfl | rfl | rfl
   ·exact m1
   ·exact f2
   ·exact f3
  ·simp at z
   rcases z with rfl | rfl | rfl
   ·rw[m1]at j;cases j
   ·rw[f2]at j;cases j
   ·rw[f3]at j;cases j
 generalize a4:upd (upd (upd (upd H S (.lst [vn 1,vn 2])) l2 (.lst [vn 2,vn 0])) l3 (.lst [vn 0,vn 1])) r (.lst [.ref S,.ref l2,.ref l3])=H1 at *;have Z:upd (upd (upd (upd H S (.lst [.int 1,.int 2])) l2 (.lst [.int 2,.int 0])) l3 (.lst [.int 0,.int 1])) r (.lst [.ref S,.ref l2,.ref l3])=H1:=a4;rw[Z]
 refine⟨_,rfl,_,_,rfl,rfl,_,rfl,by omega,by omega,yJ (lo:=0) (n:=((n:Int)-3).toNat) (λ i C T=>∃(x y z:Option V)(A:List av)(L:Rows),C=[some (.ref a),some (vn n),some (.ref r),x,y,z]/\RowsAt T r A L/\Good L/\L.length=3+i/\SameBut a H T/\PotAt T a/\New H a r A)
  ⟨none,none,none,_,_,rfl,X0,kEL,rfl,.of g0,p0,a0⟩ ?_ ?_⟩
 ·rintro i C T hi ⟨x,y,z,u,L,rfl,X,G,hl,s2,p2,c⟩
  have g:L.length<=150:=by omega
  refine⟨_,rfl,_,rfl,.inl ⟨a,r,u,L,rfl,p2,X,c.pot.1,c.pot.2,dJ G g,λ t p q H3 M N nt ht hE=>?_⟩⟩;have X3:=X.but c.pot.1 c.pot.2 M;refine⟨t,_,rfl,SqT.of ht,rfl,_,_,rfl,_,_,rfl,rfl,?_⟩;refine⟨_,rfl,_,rfl,_,rfl,r,u,L,p,q,rfl,X3,G,g,hE,λ nx L' D l b4 J G' a1=>?_⟩;have O:=c.but (s2.trans M) b4;have p4:=N.rows c.pot.1 c.pot.2 b4
  have a2:H nx=none:=by
   cases e:H nx with
   | none=>rfl
   | some o =>
    have na:nx≠a:=λ z=>by
     obtain⟨v,w,j,_⟩:=N;rw[z,j]at l;cases l
    rw[(s2.trans M) nx o na e]at l;cases l
  refine⟨_,_,_,u++[nx],L',rfl,J,G',by omega,O,p4,c.top,λ b hb=>?_,c.pot.1,λ z=>?_⟩
  ·rcases cf.mp hb with w | w
   ·exact c.all b w
   ·rw[bz.mp w];exact a2
  ·rcases cf.mp z with w | w
   ·exact c.pot.2 w
   ·have e:=bz.mp w
    obtain⟨v,w',j,_⟩:=N;rw[<-e,j]at l;cases l
 ·rintro C T ⟨x,y,z,u,L,rfl,X,G,hl,s2,p2,c⟩
  have hn:L.length=n:=by omega
  refine⟨_,rfl,_,rfl,_,_,rfl,rfl,⟨mQ (by decide),mQ (jl (m:=40) (by show((n:Int)).natAbs<=40;omega) (by decide))⟩,a,_,rfl,p2,(by show(0:Int)<2*(n:Int);omega),mQ (jl (m:=80) (by show(2*(n:Int)).natAbs<=80;omega) (by decide)),λ d H3 d0 d1 M N=>?_⟩;have a6:d<2*(n:Int):=d1
  refine⟨d,rfl,by omega,by omega,yJ (lo:=0) (n:=d.toNat) (λ i C D=>∃(x y z:Option V)(L:Rows),C=[some (.ref a),some (vn n),some (.ref r),x,y,z]/\RowsAt D r u L/\Good L/\L.length=n/\SameBut a H D/\PotAt D a)
   ⟨_,_,_,L,rfl,X.but c.pot.1 c.pot.2 M,G,hn,s2.trans M,N⟩ ?_ ?_⟩
  ·rintro i C D hi ⟨x,y,z,L4,rfl,J,G4,Y,O,p4⟩
   have g:L4.length<=150:=by omega
   refine⟨_,rfl,_,rfl,.inl ⟨a,r,u,L4,rfl,p4,J,c.pot.1,c.pot.2,dJ G4 g,λ t p q H5 s5 p5 nt ht hE=>?_⟩⟩;have X5:=J.but c.pot.1 c.pot.2 s5;refine⟨t,_,rfl,SqT.of ht,rfl,_,_,rfl,_,_,rfl,rfl,?_⟩;refine⟨_,rfl,_,rfl,_,rfl,r,u,L4,p,q,rfl,X5,G4,g,hE,λ L' H6 b6 X6 G' a1=>?_⟩;exact⟨_,_,_,L',rfl,X6,G',by omega,c.but (O.trans s5) b6,p5.rows c.pot.1 c.pot.2 b6⟩
  ·rintro C D ⟨x,y,z,L4,rfl,J,G4,Y,O,p4⟩
   exact⟨_,rfl,k r u L4 D O p4 J G4 Y c⟩
inductive kFG(vs:List V)(H:Hp)(Q:VK)(Y:XK):Prop
 | mk:∀(a:av)(n:Nat),(vs=[.ref a,vn n])->(PotAt H a)->(n<=150)->(∀(l:av)(ns:List Nat)(H':Hp),SameBut a H H'->PotAt H' a->H l=none->l≠a->H' l=some (.lst (ns.map vn))->ns.Perm (cw n)->Q (.ref l) H')->kFG vs H Q Y
def kMK{b:List Nat}{i d:Nat}(h:b.Perm (cw i)):(b.take d++i::b.drop d).Perm (cw (i+1)):=by
 rw[BR]
 have e:(b.take d++i::b.drop d).Perm (i::b):=by
  have:=CG (a:=i) (l₁:=b.take d) (l₂:=b.drop d);rw[gk]at this;exact this
 exact e.trans ((List.Perm.cons i h).trans (List.perm_append_singleton i _).symm)
def sP(B:Fx):Hs "_law_names" ["_law_pot_here","_law_n"] 2 (kFG):=by
 refine qM B.X B.d32 rQ λ f T A q s H U Q E J M h=>?_;obtain⟨a,n,rfl,G,Y,k⟩:=h
 refine⟨_,(kH (pst 2 J (jD kW))
   (kH (nV (jV rfl (B.z B.y3) (p1 (pv 1))) (pgn 3 J) (kJ (qK (jQ Bv Bw pK (pv 2) (p2 (pf (qV B) M (p2 (pv 0) (kX jG (pv 3) kI))) (pv 3))))))
   (kJ (kU (pv 2))))),?_⟩
 try dsimp only[qW]
 refine⟨yS0,λ l j=>?_⟩
 have r:l≠a:=by
  obtain⟨x,y,z,_⟩:=G;exact(kO z j).symm
 have D:=kC j (.lst [])
 refine⟨_,rfl,(n:Int),rfl,by omega,by omega,yJ (lo:=0) (n:=(n:Int).toNat) (λ i C g=>∃(x:Option V)(c:List Nat),C=[some (.ref a),some (vn n),some (.ref l),x]/\g l=some (.lst (c.map vn))/\c.Perm (cw i)/\SameBut a H g/\PotAt g a)
  ⟨none,[],rfl,kA,.nil,.of D,G.kept D⟩ ?_ ?_⟩
 ·rintro i C g hi ⟨x,c,rfl,p,hp,u,p2⟩
  have O:c.length=i:=by rw[hp.length_eq,iH]
  refine⟨_,rfl,.inl ⟨rfl,_,SqL.of p⟩,_,rfl,_,rfl,_,_,rfl,rfl,a,_,rfl,p2,(by omega),mQ (jl (m:=151) (by omega) (by decide)),λ d H3 S Z I N=>?_⟩;have v:=I _ _ r p;refine⟨_,rfl,l,_,_,_,rfl,rfl,v,S,(by omega),(by rw[ak,O];exact kS (by omega)),?_⟩;refine⟨_,c.take d.toNat++i::c.drop d.toNat,rfl,?_,kMK hp,(λ b o L e=>?_),N.other r.symm⟩
  ·rw[du,xj,gh,zj,show vn i=V.int (0+(i:Int)) by rw[xh];rfl]
   exact kA
  ·rw[kM (kO e j)]
   exact I b o L (u b o L e)
 ·rintro C g ⟨x,c,rfl,p,hp,u,p2⟩
  exact⟨_,rfl,k l c g u p2 j r p hp⟩
def yU(xs:List V){k:Nat}(h:k<=xs.length):xS xs (some (k:Int)) none=xs.drop k:=by
 unfold xS;rw[HT.sIx_none,HT.sIx_nat,kq h,ky];rw[iP];exact be _
def vO(xs:List V){k:Nat}(h:k<=xs.length):xS xs none (some (k:Int))=xs.take k:=by
 unfold xS;rw[HT.sIx_none,HT.sIx_nat,kq h,Eu,Dw]
def kOR(L:Rows)(a:List Nat)(W:Rows)(p:Nat):Prop:=∀ row,L[p]?=some row->∃ n M,a[p]?=some n/\M∈row.map (λ q=>a.getD q 0)/\(∀ i∈row.map (λ q=>a.getD q 0),M<=i)/\W[n]?=some (rot (row.map λ q=>a.getD q 0) M)
inductive kQZ(vs:List V)(H:Hp)(Q:VK)(Y:XK):Prop
 | mk:∀(r l:av)(A:List av)(L:Rows)(ns:List Nat),(vs=[.ref r,.ref l])->(RowsAt H r A L)->(H l=some (.lst (ns.map vn)))->(ns.Perm (cw L.length))->(Some' L)->((∀(p:Nat)(row:List Nat),L[p]?=some row->∀ x∈row,x<L.length))->(∀(t:av)(W:Rows)(H':Hp),Same H H'->WebAt H' t W->W.length=L.length->(∀ p,p<L.length->kOR L ns W p)->Q (.ref t) H')->kQZ vs H Q Y
def kQE{n j:Nat}(h:j<n):ixN n (j:Int)=some j:=by
 unfold ixN;rw[if_pos (by omega),if_pos (by omega),iw]
def qI{H a:Hp}{D:av}{o:HO}(n:H D=none)(g:Same H a):Same H (upd a D o):=λ b u e=>by
 rw[kM (kO e n)];exact g b u e
def kMA(n:Nat)(e:av):(gy n [V.ref e]).flatten=(gy n e).map V.ref:=by
 induction n with
 | zero=>rfl
 | succ n ih=>rw[wd,wd,xx,ih];rfl
end
section
def kLV{n k:Nat}(h:k<=n):HT.sIx n n (some (k:Int))=k:=by rw[HT.sIx_nat,kq h]
end
section
def wD(s:Nat)(row:List Nat):inV (vn s) (row.map vn)=decide (s∈row):=by
 unfold inV;rw[iL,EI,decide_eq_true_iff];constructor
 ·rintro⟨y,b,e⟩
  obtain⟨n,a,rfl⟩:=iR.mp b;have:(n:Int)=s:=by simpa[eqV,vn] using e
  rw[show s=n by omega];exact a
 ·intro h
  exact⟨vn s,iR.mpr ⟨s,h,rfl⟩,by simp[eqV,vn]⟩
def yT(row:List Nat):(row.map vn).all aR=true:=by
 rw[wo];intro y a;obtain⟨n,b,rfl⟩:=iR.mp a
 rfl
inductive oS(vs:List V)(H:Hp)(Q:VK)(Y:XK):Prop
 | mk:∀(t z:av)(W:Rows)(p q:Nat),(vs=[.ref t,.ref z])->(WebAt H t W)->(H z=some (.tup [vn p,vn q]))->(Nb W)->(E W p q)->(∀(y:av)(H':Hp),Same H H'->H y=none->H' y=some (.tup [vn (nxt W (p,q)).1,vn (nxt W (p,q)).2])->Q (.ref y) H')->oS vs H Q Y
def kPI{W:Rows}(S:Nb W){q v p:Nat}(h:R W q v p):∃ row,W[q]?=some row/\p∈row/\xH row p=some v:=by
 obtain⟨row,e,n⟩:=h;exact⟨row,e,(kT n).2,rZ (S.nd _ _ e) n⟩
def pH(B:Fx):Hs "behind" ["web","step"] 1 (oS):=by
 refine qM B.X B.d4 kIQ λ f r A c s H I Q E d G h=>?_;obtain⟨t,z,W,p,q,rfl,x,j,S,o,k⟩:=h
 refine⟨_,(kH (yB (pv 1) (jF (n:=2) rfl (kQ (pgn 2 d) (kQ (pgn 3 d) qR))))
   (kH (pst 4 d (pix qC (pv 0) (pv 3)))
   (kJ (kU (qU (p2 (pv 3) (pix qC (pv 4) (kX zL (kBA zg zh zi dE (pv 4) (p1 (pv 2))) kI)))))))),?_⟩
 try dsimp only[qW]
 obtain⟨v,i,l,_⟩:=uH S o;obtain⟨row,C,hp,m⟩:=kPI S i;obtain⟨J,h1,_,D⟩:=x.at;obtain⟨b,u,a⟩:=D q row C;rw[l]at k;refine⟨_,rfl,z,_,rfl,SqT.of j,rfl,_,_,rfl,_,_,rfl,rfl,?_⟩;refine⟨_,rfl,_,rfl,t,_,_,_,rfl,rfl,SqT.of h1,u,?_⟩;refine⟨_,rfl,_,rfl,_,rfl,.inr (.inl ⟨rfl,.inr ⟨_,a⟩⟩),_,rfl,b,row.map ci,p,row.idxOf p,rfl,rfl,SqT.of (by rw[a,xI]),qN hp,_,_,rfl,rfl,b,_,_,_,rfl,rfl,SqT.of a,tS hp m,yS2,λ y g=>?_⟩;exact k y _ (kC g _) g kA
def prD(x y:Nat):Cu:=.tuple [.int (x:Int),.int (y:Int)]
def mD(x y:Nat):kj (prD x y)=true:=by
 first | rfl | simp[prD,kj,mh,lj,ql,ph]
def kGA(x y u v:Nat):ja (prD x y) (prD u v)=decide (x=u/\y=v):=by
 have e:∀ i j:Nat,((i:Int) == (j:Int))=decide (i=j):=λ i j=>by
  rw[iL,beq_iff_eq,decide_eq_true_iff];omega
 simp[prD,ja,iW,e]
def kOB{K:az}{H:Hp}{z:av}{x y:Nat}(h:H z=some (.tup [vn x,vn y])):Dt K H (prD x y) (.ref z):=by
 unfold prD Dt;exact⟨z,_,rfl,SqT.of h,by simp only[DtAll,Dt];exact⟨_,_,rfl,rfl,_,_,rfl,rfl,rfl⟩⟩
def PairsAt(H:Hp)(s:av)(T:List (Nat×Nat)):Prop:=∃ a:List av,H s=some (.lst (a.map V.ref))/\a.length=T.length/\∀(i:Nat)(b:av)(t:Nat×Nat),a[i]?=some b->T[i]?=some t->H b=some (.tup [vn t.1,vn t.2])
def PairsAt.kept{H H':Hp}{s:av}{T:List (Nat×Nat)}(h:PairsAt H s T)(g:Same H H'):PairsAt H' s T:=by
 obtain⟨d,h1,a,c⟩:=h;exact⟨d,g _ _ h1,a,λ i b t j f=>g _ _ (c i b t j f)⟩
def PairsAt.app{H H':Hp}{s b:av}{a:List av}{T:List (Nat×Nat)}{t:Nat×Nat}(h1:H s=some (.lst (a.map V.ref)))(h:a.length=T.length)(m:∀(i:Nat)(b:av)(t:Nat×Nat),a[i]?=some b->T[i]?=some t->H b=some (.tup [vn t.1,vn t.2]))(j:H b=some (.tup [vn t.1,vn t.2])) :
  PairsAt (upd H s (.lst (a.map V.ref++[.ref b]))) s (T++[t]):=by
 refine⟨a++[b],by rw[du];exact kA,by simp[h],λ i c u d f=>?_⟩;have g:c≠s->upd H s (.lst (a.map V.ref++[.ref b])) c=H c:=λ z=>kM z;by_cases l:i<a.length
 ·rw[bb l]at d
  rw[bb (by omega)]at f;have:=m i c u d f;rw[g (wR this h1 (by simp))];exact this
 ·have:i=a.length:=by
   have:=(ao.mp d).1;simp at this;omega
  subst this;rw[dq]at d;rw[h,dq]at f;cases d
  cases f
  rw[g (wR j h1 (by simp))];exact j
def orb(W:Rows)(p q k:Nat):List (Nat×Nat):=(cw k).map λ i=>it (nxt W) i (p,q)
def kMO(W:Rows)(p q k:Nat):orb W p q (k+1)=orb W p q k++[it (nxt W) k (p,q)]:=by
 unfold orb;rw[BR,du]
 rfl
def sM(W:Rows)(p q k:Nat):(orb W p q k).length=k:=by simp[orb]
structure Turns(W:Rows)(p q k:Nat):Prop where
 pos:0<k
 back:it (nxt W) k (p,q)=(p,q)
 first:∀ j,0<j->j<k->it (nxt W) j (p,q)≠(p,q)
 few:k<=(kN W).length
def kKM{W:Rows}(S:Nb W){p q:Nat}(h:E W p q):∃ k,Turns W p q k:=by
 obtain⟨k,h1,c,a,b⟩:=(mK S.nd S.sym).comes (mem_steps.mpr h);exact⟨k,h1,a,b,c⟩
def bL{W:Rows}(S:Nb W)(h:W.length<=42):(kN W).length<=1764:=by
 rw[yM]
 have:∀(L:List (List Nat))(n:Nat),(∀ r∈L,r.length<=n)->(L.map jd).sum<=L.length*n:=λ L n b=>by
  induction L with
  | nil=>simp
  | cons r L ih =>
   have h1:=b r (by simp);have d:=ih λ r a=>b r (by simp[a]);simp only[gh,Ah,iQ,Nat.add_mul,Nat.one_mul];omega
 have h1:=this W W.length λ r a=>by
  obtain⟨i,c,rfl⟩:=eV.mp a;exact S.len (ae c)
 have d:W.length*W.length<=42*42:=Nat.mul_le_mul h h;omega
inductive kAG(vs:List V)(H:Hp)(Q:VK)(Y:XK):Prop
 | mk:∀(w z:av)(W:Rows)(p q:Nat),(vs=[.ref w,.ref z])->(WebAt H w W)->(Nb W)->(W.length<=42)->(H z=some (.tup [vn p,vn q]))->(E W p q)->(∀(s:av)(k:Nat)(H':Hp),Same H H'->Turns W p q k->PairsAt H' s (orb W p q k)->Q (.ref s) H')->kAG vs H Q Y
def lO:Option HO->Nat
 | some (.lst xs)=>xs.length
 | some (.dK kvs)=>kvs.length
 | _=>0
def kUW(a:Nat)(b:St)(H:Hp):Nat:=match b with
 | [_,_,some (.ref s),_]=>a-lO (H s)
 | _=>0
def uQ(B:Fx):Hs "steps_round" ["web","step"] 2 (kAG):=by
 refine qM B.X B.d5 gZ λ f a5 A a1 s0 H vs Q E nN M h=>?_;obtain⟨w,z,W,p,q,rfl,hW,S,a2,N,hE,k⟩:=h
 refine⟨_,(kH (pst 2 nN (jD (p1 (pv 1))))
   (kH (pst 3 nN (pf (pH B) M (p2 (pv 0) (pv 1))))
   (kH (kMI ET (kZ (cZ M.units) (pv 3) (pv 1) (qO _)) (kH (qK (jQ jo jq xE (pv 2) (p1 (pv 3))))
   (kJ (pst 3 nN (pf (pH B) M (p2 (pv 0) (pv 3)))))))
   (kJ (kU (pv 2)))))),?_⟩
 try dsimp only[qW]
 obtain⟨n,T⟩:=kKM S hE;have D:=bL S a2;have n9:=T.few;refine⟨_,rfl,yS1,λ s ns=>?_⟩;have U:=kC ns (.lst [.ref z]);refine⟨_,rfl,_,rfl,w,z,W,p,q,rfl,hW.kept U,U _ _ N,S,hE,λ y H1 g1 ny x=>?_⟩;have Y:=g1 _ _ (kA (H:=H) (a:=s) (o:=.lst [.ref z]));have I:=U.trans g1
 refine kKK (λ σ g=>∃(y:av)(i:Nat)(r:List av),σ=[some (.ref w),some (.ref z),some (.ref s),some (.ref y)]/\Same H g/\0<i/\i<=n /\
   g s=some (.lst (r.map V.ref))/\r.length=i/\(∀(j:Nat)(b:av)(t:Nat×Nat),r[j]?=some b->(orb W p q i)[j]?=some t->g b=some (.tup [vn t.1,vn t.2]))/\g y=some (.tup [vn (it (nxt W) i (p,q)).1,vn (it (nxt W) i (p,q)).2])) (kUW (n+1))
  ⟨y,1,[z],rfl,I,by omega,T.pos,Y,rfl,(λ j b t J L=>?_),x⟩ ?_ ?_
 ·match j,J with
  | 0,J =>
   cases J
   have:t=(p,q):=by
    have:(orb W p q 1)[0]?=some (p,q):=rfl;rw[this]at L;exact(bq L).symm
   rw[this];exact I _ _ N
 ·rintro σ g ⟨y,i,r,rfl,Z,i0,i1,C,ls,u,x⟩
  have O:=Z _ _ N;refine⟨_,rfl,_,rfl,_,prD p q,kOB x,kOB O,mD _ _,mD _ _,_,rfl,?_⟩;rw[kGA];by_cases c:it (nxt W) i (p,q)=(p,q)
  ·rw[decide_eq_true (by rw[c];exact⟨rfl,rfl⟩)]
   have:i=n:=by
    rcases iV i n with l | l
    ·exact absurd c (T.first i i0 l)
    ·omega
   subst this;exact⟨_,rfl,k s i g Z T ⟨r,C,by rw[sM];exact ls,u⟩⟩
  ·rw[decide_eq_false (λ z=>c (ux z.1 z.2))]
   have lt:i<n:=by
    rcases iV i n with l | l
    ·exact l
    ·exact absurd (by rw[show i=n by omega];exact T.back) c
   refine⟨_,rfl,.inl ⟨rfl,_,SqL.of C⟩,_,rfl,s,_,_,rfl,rfl,C,(by rw[ak];exact xJ (by omega)),?_⟩;have A1:=PairsAt.app (H':=g) C (by rw[sM];exact ls) u (t:=it (nxt W) i (p,q)) x;rw[<-kMO]at A1;have gu:Same H (upd g s (.lst (r.map V.ref++[V.ref y]))):=qI ns Z;have sy:y≠s:=wR x C (by simp);have a3:upd g s (.lst (r.map V.ref++[V.ref y])) y=some (.tup [vn (it (nxt W) i (p,q)).1,vn (it (nxt W) i (p,q)).2]):=by rw[kM sy];exact x
   generalize upd g s (.lst (r.map V.ref++[V.ref y]))=H3 at *;refine⟨_,rfl,_,rfl,w,y,W,_,_,rfl,hW.kept gu,a3,S,kGP S hE i,λ y' H4 g4 a4 a0=>?_⟩;obtain⟨G,b1,b2,b3⟩:=A1.kept g4;rw[sM]at b2;refine⟨⟨y',i+1,G,rfl,gu.trans g4,by omega,lt,b1,b2,b3,a0⟩,?_⟩;show n+1-lO (H4 s)<n+1-lO (g s);rw[b1,C];show n+1-(G.map V.ref).length<n+1-(r.map V.ref).length;rw[ak,ak,b2,ls];clear u b3 D;omega
 ·rintro σ H1 Q1 Q2 m ⟨v,J,v2,L,d,e,h1,h2,h3,h4,kk,e5,q1⟩
  exact⟨v,J,v2,L,d,e,h1,h2,h3,h4,kk,e5,m _ _ q1⟩
end
section
end
section
theorem kCE{H:Hp}:∀{a:List av}{T:List (Nat×Nat)},a.length=T.length->(∀(i:Nat)(b:av)(t:Nat×Nat),a[i]?=some b->T[i]?=some t->H b=some (.tup [vn t.1,vn t.2]))->DtAll K H (T.map λ t=>prD t.1 t.2) (a.map V.ref)
 | [],[],_,_=>by unfold DtAll;rfl
 | s::a,t::T,hl,h=>by
  rw[gh,gh];unfold DtAll;exact⟨_,_,rfl,kOB (h 0 s t rfl rfl),kCE (by simpa using hl) λ i b u d c=>h (i+1) b u (by simpa using d) (by simpa using c)⟩
 | [],_::_,hl,_=>by simp at hl
 | _::_,[],hl,_=>by simp at hl
end
section
end
section
end
section
def kNE(l:List Nat):iW (l.map λ n:Nat=>iu (n:Int)) (l.map λ n:Nat=>iu (n:Int))=true:=by
 induction l with
 | nil=>rfl
 | cons x l ih=>simp[iW,ja,ih]
def kHD{H:Hp}(row:List Nat):DtAll K H (row.map λ n:Nat=>iu (n:Int)) (row.map vn):=by
 induction row with
 | nil=>unfold DtAll;rfl
 | cons x r ih =>
  rw[gh,gh];unfold DtAll;exact⟨_,_,rfl,(by unfold Dt;rfl),ih⟩
end
section
end
section
end
section
end
section
end
section
def kDU(B:Fx):Hs "_law_web" ["_law_rows","_law_names_here"] 1 (kQZ):=by
 refine qM B.X B.d33 kDD λ f b9 A ap s H vs Q E nN hr h=>?_;obtain⟨r,l,A1,L,d,rfl,X,hl,hp,S,am,k⟩:=h
 refine⟨_,(kH (pst 2 nN (kX kSR (jD (p1 (qU kW))) (kR kP rfl (B.z B.y0) fc (p1 (pv 0)))))
   (kH (nV (kGB true rfl (B.z B.y4) (p1 (pv 0))) (jF (n:=2) rfl (kQ (pgn 3 nN) (kQ (pgn 4 nN) qR))) (kH (bO (i:=5) (Nc:=["_law_q","_law_names_here"]) (js:=[none,some 1]) rfl rfl nN rfl (yw rfl) (xU (pv 4)) (CS.of rfl rfl) rfl (λ C aa a8 fp a9=>(pgc 0)) (λ C aa a8 fp a9 D L=>(qT (jP (pix (show IxR _ (kSI K) from kY) (pv 1) (pv 0))))))
   (kH (pst 6 nN (jQ md me zM (pv 5) (p1 (kR (kKC rfl) rfl (B.z B.y5) GK (p1 (pv 5))))))
   (kJ (yB (jM qY rfl (B.z B.y6) je (p1 (kX dA (qD yO (pv 5) (qF (pv 6)) jA) (qD yO (pv 5) jA (qF (pv 6)))))) (kDO (pv 2) (pix kY (pv 1) (pv 3)) gY))))))
   (kJ (kU (jM qY rfl (B.z B.y6) je (p1 (pv 2))))))),?_⟩
 try dsimp only[qW]
 have b0:d.length=L.length:=by rw[hp.length_eq,iH]
 have b1:∀{j:Nat}{n:Nat},d[j]?=some n->n<L.length:=λ{j n} e=>jr.mp (hp.mem_iff.mp (di e));have as:d.Nodup:=hp.nodup_iff.mpr tw;have lA:((A1.map V.ref).length:Int)=L.length:=by rw[ak,X.len]
 have b6:=S.le;refine⟨yS0,λ e ne=>⟨yS1,λ l1 n1=>?_⟩⟩;have g1:=(kC ne (.tup [])).trans (kC n1 (.lst [.ref e]));have he:=(kC n1 (.lst [.ref e])) _ _ (kA (H:=H) (a:=e) (o:=.tup []));have af:=kA (H:=upd H e (.tup [])) (a:=l1) (o:=.lst [.ref e]);generalize upd (upd H e (.tup [])) l1 (.lst [.ref e])=H1 at *;refine⟨_,rfl,r,_,rfl,.inl (SqL.of (g1 _ _ X.top)),l1,_,_,rfl,rfl,af,(by omega),(by omega),(by rw[lA];exact fv (kS (by simp;omega))),λ f nf=>?_⟩;rw[lA,iw,kMA];have gf:=kC nf (.lst ((gy L.length e).map V.ref));have g2:=g1.trans gf;have an:=gf _ _ he;have b2:=kA (H:=H1) (a:=f) (o:=.lst ((gy L.length e).map V.ref));generalize upd H1 f (.lst ((gy L.length e).map V.ref))=H2 at *
 refine⟨_,rfl,r,rfl,⟨_,SqL.of (g2 _ _ X.top)⟩,kNT (k:=true) (xs:=A1.map V.ref) (λ i G O=>∃(x3 x4 x5 x6:Option V)(u:List av)(W:Rows),G=[some (.ref r),some (.ref l),some (.ref f),x3,x4,x5,x6]/\O f=some (.lst (u.map V.ref))/\u.length=L.length/\W.length=L.length /\
   (∀(j:Nat)(a:av)(row:List Nat),u[j]?=some a->W[j]?=some row->O a=some (.tup (row.map vn)))/\(∀ p,p<i->kOR L d W p)/\Same H O/\H f=none)
  ⟨none,none,none,none,gy L.length e,gy L.length [],rfl,b2,xt,xt,(λ j a row e1 e2=>?_),(λ p ah=>by omega),g2,g1.free nf⟩ ?_ ?_ ?_⟩
 ·have a1:=(DX.mp (di e1)).2
  have a2:=(DX.mp (di e2)).2;subst a1 a2;exact an
 ·rintro i G O _ ⟨x3,x4,x5,x6,u,W,rfl,hf,lt,lW,J,hW,g3,I⟩
  exact SqL.of (g3 _ _ X.top)
 ·rintro i x T G O hx nT ⟨x3,x4,x5,x6,u,W,rfl,hf,lt,lW,J,hW,g3,I⟩
  rw[bg]at hx;obtain⟨a,ea,rfl⟩:=cq.mp hx;have hi:i<L.length:=by rw[<-X.len];exact(ao.mp ea).1
  have g:=ae hi;have ac:=X.row i a _ ea g;obtain⟨aq,b8⟩:=S.ne i _ g;have rb:=am i _ g;have gT:=g3.trans (kC nT (.tup [.int i,.ref a]));have b5:=(kC nT (.tup [.int i,.ref a])) _ _ hf;have a7:∀(j:Nat)(b:av)(row:List Nat),u[j]?=some b->W[j]?=some row->upd O T (.tup [.int i,.ref a]) b=some (.tup (row.map vn)):=λ j b row U w2=>(kC nT (.tup [.int i,.ref a])) _ _ (J j b row U w2);refine⟨T,_,rfl,SqT.of kA,rfl,_,_,rfl,_,_,rfl,rfl,?_⟩;generalize upd O T (.tup [.int i,.ref a])=H4 at *
  generalize b7:L[i]=row at *
  refine⟨_,rfl,a,rfl,⟨_,SqL.of (gT _ _ ac)⟩,λ D nD=>?_⟩;refine jJ (xs:=row.map vn) (λ j G Y=>∃ x:Option V,G=[x,some (.ref l)]/\Y D=some (.lst (((row.take j).map λ q=>d.getD q 0).map vn))/\Same H4 Y) ⟨none,rfl,kA,kC nD _⟩ ?_ ?_ ?_
  ·rintro j G Y _ ⟨x,rfl,v,N⟩
   exact SqL.of (N _ _ (gT _ _ ac))
  ·rintro j x G Y hx ⟨y,rfl,v,N⟩
   rw[bg]at hx;obtain⟨q,eq,rfl⟩:=cq.mp hx;have hj:j<row.length:=(ao.mp eq).1;have hq:q<d.length:=by rw[b0];exact rb q (di eq)
   refine⟨_,rfl,_,rfl,l,_,_,_,rfl,rfl,SqL.of (N _ _ (gT _ _ hl)),kEU hq,_,v,(by rw[ak,ak,de];exact kS (by omega)),?_⟩;refine⟨_,rfl,?_,qI nD N⟩;rw[iq,eq];simp only[rh,du,gh,CQ];rw[show d.getD q 0=d[q] by simp[aj,hq]];exact kA
  ·rintro G Y ⟨x,rfl,v,N⟩
   rw[ak,iJ]at v;generalize hc:(row.map λ q=>d.getD q 0)=c at *;have al:c.length=row.length:=by rw[<-hc,ak]
   have a4:0<c.length:=by rw[al];exact vy.mpr aq
   refine⟨_,rfl,.inl ⟨rfl,_,SqL.of v⟩,_,rfl,D,c.map ci,rfl,SqL.of (by rw[v,xI]),(by rw[ak];exact a4),λ M hM ax=>?_⟩;obtain⟨m,hm,rfl⟩:=iR.mp hM
   have b4:∀ j∈c,m<=j:=λ j hj=>by
    have:=ax (ci j) (iR.mpr ⟨j,hj,rfl⟩);simp only[ci]at this;omega
   have il:=gj hm
   refine⟨D,c.map ci,m,c.idxOf m,rfl,rfl,(by rw[v,xI]),qN hm,?_⟩
   have lv:(c.map vn).length=c.length:=ak _;refine⟨_,rfl,_,rfl,_,rfl,D,_,rfl,SqL.of v,λ p1 m1=>?_⟩;rw[yU _ (by rw[lv];omega)];have h1:=kC m1 (.lst ((c.map vn).drop (c.idxOf m)));refine⟨_,rfl,_,rfl,_,rfl,D,_,rfl,SqL.of (h1 _ _ v),λ p2 m2=>?_⟩;rw[vO _ (by rw[lv];omega)];have h2:=kC m2 (.lst ((c.map vn).take (c.idxOf m)));refine⟨p1,p2,_,_,rfl,rfl,h2 _ _ kA,kA,(by rw[iP,de,lv];exact fv (kS (by omega))),λ p3 m3=>?_⟩;have h3:=kC m3 (.lst ((c.map vn).drop (c.idxOf m)++(c.map vn).take (c.idxOf m)));refine⟨p3,_,rfl,.inl ⟨SqL.of kA,λ t m4=>?_⟩⟩;have h4:=kC m4 (.tup ((c.map vn).drop (c.idxOf m)++(c.map vn).take (c.idxOf m)));have er:(c.map vn).drop (c.idxOf m)++(c.map vn).take (c.idxOf m)=(rot c m).map vn:=by unfold rot;rw[du,zj,xj]
   have hh:=h1.trans (h2.trans (h3.trans h4));have ht:upd (upd (upd (upd Y p1 (.lst ((c.map vn).drop (c.idxOf m)))) p2 (.lst ((c.map vn).take (c.idxOf m)))) p3 (.lst ((c.map vn).drop (c.idxOf m)++(c.map vn).take (c.idxOf m)))) t (.tup ((c.map vn).drop (c.idxOf m)++(c.map vn).take (c.idxOf m))) t=some (.tup ((rot c m).map vn)):=by rw[<-er];exact kA
   generalize upd (upd (upd (upd Y p1 (.lst ((c.map vn).drop (c.idxOf m)))) p2 (.lst ((c.map vn).take (c.idxOf m)))) p3 (.lst ((c.map vn).drop (c.idxOf m)++(c.map vn).take (c.idxOf m)))) t (.tup ((c.map vn).drop (c.idxOf m)++(c.map vn).take (c.idxOf m)))=H6 at *;have g6:=gT.trans (N.trans hh);have Z:=hh _ _ (N _ _ b5);have a5:i<d.length:=by omega
   have a0:=ae a5;have b3:=b1 a0;refine⟨_,rfl,_,rfl,_,rfl,l,_,_,_,rfl,rfl,SqL.of (g6 _ _ hl),kEU a5,f,_,_,d[i],rfl,rfl,Z,kQE (by rw[ak,lt];exact b3),?_⟩;refine⟨_,_,_,_,u.set d[i] t,W.set d[i] (rot c m),rfl,(by rw[List.map_set];exact kA),(by rw[As];exact lt),(by rw[As];exact lW),(λ j b ag e1 e2=>?_),(λ p ah=>?_),qI I g6,I⟩
   ·have bt:b≠f->upd H6 f (.lst ((u.map V.ref).set d[i] (.ref t))) b=H6 b:=λ z=>kM z
    by_cases ej:d[i]=j
    ·subst ej
     rw[ki (by omega)]at e1;rw[ki (by omega)]at e2;cases e1
     cases e2
     rw[bt (wR ht Z (by intro z;cases z))];exact ht
    ·rw[eZ ej]at e1 e2
     have hb:=hh _ _ (N _ _ (a7 j b ag e1 e2));rw[bt (wR hb Z (by intro z;cases z))];exact hb
   ·intro ab a3
    by_cases a6:p=i
    ·subst a6
     have e0:=g.symm.trans a3;cases e0
     refine⟨d[p],m,a0,(by rw[hc];exact hm),(λ j hj=>b4 j (by rw[hc]at hj;exact hj)),?_⟩;rw[hc,ki (by omega)]
    ·obtain⟨n',M',U,w2,w3,w4⟩:=hW p (by omega) ab a3
     refine⟨n',M',U,w2,w3,?_⟩
     have:d[i]≠n':=λ z=>by
      have aw:=(ao.mp U).1;have:=(ye aw as).mp (U.trans (by rw[<-z];exact a0.symm));exact a6 this
     rw[eZ this];exact w4
 ·rintro G O ⟨x3,x4,x5,x6,u,W,rfl,hf,lt,lW,J,hW,g3,I⟩
  rw[ak,X.len]at hW;refine⟨_,rfl,f,_,rfl,.inl ⟨SqL.of hf,λ t nt=>?_⟩⟩;have gt:=kC nt (.tup (u.map V.ref));exact k t W _ (g3.trans gt) ⟨u,kA,by omega,λ j b row U w2=>gt _ _ (J j b row U w2)⟩ lW hW
def kJC{L W:Rows}{a:List Nat}(hp:a.Perm (cw L.length))(b:W.length=L.length)(h:∀ p,p<L.length->kOR L a W p):Ren L W a:=⟨hp,b,λ p row e=>by
 obtain⟨n,M,h1,_,_,c⟩:=h p (ao.mp e).1 row e;exact⟨n,(row.map λ q=>a.getD q 0).take ((row.map λ q=>a.getD q 0).idxOf M),(row.map λ q=>a.getD q 0).drop ((row.map λ q=>a.getD q 0).idxOf M),h1,(gk _ _).symm,c⟩⟩
end
section
def prZ(t:Nat×Nat):List Int:=[(t.1:Int),(t.2:Int)]
def kDA{H:Hp}{s:av}{T:List (Nat×Nat)}(h:PairsAt H s T):∃ ps:List (av×List Int),H s=some (.lst (ps.map λ q=>V.ref q.1))/\kQU H ps /\
  ∀(l:av)(c:List (av×List Int)),H l=none->c.Perm ps->c.Pairwise (λ a b=>Srt.lexLt b.2 a.2=false)->PairsAt (upd H l (.lst (c.map λ q=>V.ref q.1))) l (Fc.sortP T):=by
 obtain⟨j,h1,S,O⟩:=h
 have f:(j.zip (T.map prZ)).map (λ q=>V.ref q.1)=j.map V.ref:=by
  rw[show(λ q:av×List Int=>V.ref q.1)=V.ref∘CD from rfl,<-ui,CJ (by rw[ak];omega)]
 have mem:∀ q∈j.zip (T.map prZ),∃ t:Nat×Nat,q.2=prZ t/\H q.1=some (.tup [vn t.1,vn t.2]):=λ q v=>by
  obtain⟨i,A,rfl⟩:=eV.mp v;rw[Af,ak]at A;refine⟨T[i]'(by omega),by simp,?_⟩;have:=O i (j[i]'(by omega)) (T[i]'(by omega)) (ae _) (ae _);simpa using this
 refine⟨j.zip (T.map prZ),by rw[f];exact h1,λ q v=>?_,λ l c C y I=>?_⟩
 ·obtain⟨t,e,n⟩:=mem q v
  rw[e];exact⟨n,by simp[prZ]⟩
 ·have back:∃ g:List (Nat×Nat),c.map (·.2)=g.map prZ/\g.Perm T:=by
   have G:(c.map (·.2)).Perm (T.map prZ):=by
    have:=y.map (λ q:av×List Int=>q.2);rwa[Ac (by rw[ak];omega)]at this
   obtain⟨m,a,b⟩:=Srt.perm_back G rfl;exact⟨m,b,a⟩
  obtain⟨g,r,N⟩:=back
  have p:g.Pairwise (λ a b=>Fc.leP a b=true):=by
   have x:(c.map (·.2)).Pairwise (λ a b=>Srt.lexLt b a=false):=km.mpr I;rw[r]at x;refine(km.mp x).imp λ{a b} D=>?_;rw[<-Fc.leP_leL,Fc.leL_iff];exact D
  have B:=Fc.sortP_is N p
  have L:c.length=g.length:=by
   have:=congrArg jd r;simpa using this
  refine⟨c.map (·.1),by rw[ui];exact kA,by rw[<-B,ak,L],λ i b t f o=>?_⟩;rw[<-B]at o;have A:=(ao.mp o).1;have d:i<c.length:=by omega
  rw[bg,ae d]at f;have f:c[i].1=b:=bq f
  have u:c[i].2=prZ t:=by
   have:=congrArg (λ l=>l[i]?) r;rw[bg,bg,o,ae d]at this;exact bq this
  obtain⟨M,Q,n⟩:=mem c[i] (y.mem_iff.mp (ie d))
  have J:M=t:=by
   rw[Q]at u;unfold prZ at u;injection u with z1 z2
   injection z2 with z2 _
   exact ux (by omega) (by omega)
  rw[<-f,kM (kO n C),n,J]
inductive kFC(vs:List V)(H:Hp)(Q:VK)(Y:XK):Prop
 | mk:∀(t:av)(W:Rows),(vs=[.ref t])->(WebAt H t W)->(Nb W)->(W.length<=42)->(∀(s:av)(H':Hp),Same H H'->H s=none->PairsAt H' s (Fc.stepsS W)->Q (.ref s) H')->kFC vs H Q Y
def kCY(W:Rows)(i:Nat)(hi:i<W.length):kN (W.take (i+1))=kN (W.take i)++(W[i].map λ q=>(i,q)):=by
 unfold kN;rw[de,de,kq (by omega),kq (by omega),BR,oz]
 congr 1
 ·rw[EJ,EJ]
  congr 1
  refine qk λ p hp=>?_;have:=jr.mp hp;simp only[aj];rw[ow (by omega),ow (by omega)]
 ·rw[xg]
  simp only[aj];rw[ow (by omega),ae hi]
  rfl
def Nb.take_len{W:Rows}(S:Nb W)(h:W.length<=42)(i:Nat):(kN (W.take i)).length<=1764:=by
 have a:=bL S h
 have:(kN (W.take i)).length<=(kN W).length:=by
  rw[yM,yM]
  conv=>rhs;rw[<-gk i W]
  rw[du,EV];omega
 omega
def fG(B:Fx):Hs "steps_of" ["web"] 1 (kFC):=by
 refine qM B.X B.d2 kAK λ f a3 A a1 s0 H vs Q E nN hr h=>?_;obtain⟨t,W,rfl,hW,S,a2,k⟩:=h;refine⟨_,(kJ (kU (kR zS rfl (B.z B.y7) pd (p1 (sK (Nc:=["p","row","q"]) (js:=[none,none,none]) rfl rfl (kGB false rfl (B.z B.y4) (p1 (pv 0))) (CS.of rfl rfl) rfl (λ C g c fp d=>(show PG _ _ (nX K 2 _) from jF rfl (kQ (pgc 0) (kQ (pgc 1) qR)))) (λ C g c fp d=>(show PI _ _ _ (kVD K _) from(bB (pv 1)))) (λ C g c fp d=>(pgc 2)) (λ C g c fp d D L=>(qT (jP (qU (p2 (pv 0) (pv 2))))))))))),?_⟩
 try dsimp only[qW]
 obtain⟨ts,h1,y,h3⟩:=id hW;refine⟨_,rfl,t,rfl,⟨_,SqT.of h1⟩,λ D nD=>?_⟩
 refine kIA (k:=false) (xs:=ts.map V.ref) (λ i p u=>∃(N O m:Option V),p=[N,O,m]/\Same H u/\PairsAt u D (kN (W.take i)))
  ⟨none,none,none,rfl,kC nD _,⟨[],kA,rfl,λ i b t e=>by simp at e⟩⟩ ?_ ?_ ?_
 ·rintro i p u _ ⟨N,O,m,rfl,s,_⟩
  exact SqT.of (s _ _ h1)
 ·rintro i x T p u hx nT ⟨N,O,m,rfl,s,M⟩
  rw[bg]at hx;obtain⟨a,ea,rfl⟩:=cq.mp hx;have hi:i<W.length:=by rw[<-y];exact(ao.mp ea).1
  have G:=h3 i a _ ea (ae hi);have rl:=S.len (ae hi);have gT:=kC nT (.tup [.int i,.ref a]);refine⟨T,_,rfl,SqT.of kA,rfl,_,_,rfl,_,_,rfl,rfl,?_⟩;have g3:=s.trans gT;have Z:=M.kept gT;generalize upd u T (.tup [.int i,.ref a])=H3 at *;refine⟨_,rfl,a,rfl,⟨_,SqT.of (g3 _ _ G)⟩,?_⟩;refine zH (xs:=W[i].map vn) (λ j p r=>∃(m:Option V),p=[some (vn i),some (.ref a),m]/\Same H r/\PairsAt r D (kN (W.take i)++((W[i].take j).map λ q=>(i,q)))) ⟨m,rfl,g3,by simpa using Z⟩ ?_ ?_ ?_
  ·rintro j p r _ ⟨m,rfl,I,_⟩
   exact SqT.of (I _ _ G)
  ·rintro j v p r hv ⟨m,rfl,I,n⟩
   rw[bg]at hv;obtain⟨q,J,rfl⟩:=cq.mp hv;have hj:=(ao.mp J).1;refine⟨_,rfl,_,rfl,yS2,λ b nb=>?_⟩;have gb:=kC nb (.tup [vn i,vn q]);have hb:=kA (H:=r) (a:=b) (o:=.tup [vn i,vn q]);have a0:=n.kept gb;have g5:=I.trans gb;refine(λ(z:upd r b (.tup [vn i,vn q]) b=some (.tup [vn i,vn q]))=>?_) hb;generalize upd r b (.tup [vn i,vn q])=H5 at *;obtain⟨ss,c1,c2,c3⟩:=id a0;have l1:=Nb.take_len S a2 i
   have l2:ss.length<=1764+42:=by
    rw[c2,bu,ak,de];omega
   refine⟨_,c1,(by rw[ak];exact xJ (by omega)),?_⟩;have A1:=PairsAt.app (H':=H5) c1 c2 c3 (t:=(i,q)) z;refine⟨_,rfl,qI nD g5,?_⟩;have tk:(W[i].take (j+1)).map (λ q=>(i,q))=(W[i].take j).map (λ q=>(i,q))++[(i,q)]:=by rw[iq,J,du];rfl
   rw[tk,<-bp];exact A1
  ·rintro p r ⟨m,rfl,I,n⟩
   rw[ak,iJ]at n;exact⟨_,_,_,rfl,I,by rw[kCY W i hi];exact n⟩
 ·rintro p u ⟨N,O,m,rfl,s,M⟩
  rw[ak,y,iJ]at M;obtain⟨ps,e1,e2,e3⟩:=kDA M;refine⟨D,ps,rfl,.inl (SqL.of e1),e2,λ l Y U pm sr=>?_⟩;exact k l _ (s.trans (kC U _)) (s.free U) (e3 l Y U pm sr)
end
section
def RowsT(H:Hp)(s:av)(T:List (List Nat)):Prop:=∃ a:List av,H s=some (.lst (a.map V.ref))/\a.length=T.length/\∀(i:Nat)(b:av)(t:List Nat),a[i]?=some b->T[i]?=some t->H b=some (.tup (t.map vn))
def RowsT.app{H:Hp}{s b:av}{a:List av}{T:List (List Nat)}{t:List Nat}(h1:H s=some (.lst (a.map V.ref)))(j:a.length=T.length)(m:∀(i:Nat)(b:av)(t:List Nat),a[i]?=some b->T[i]?=some t->H b=some (.tup (t.map vn)))(l:H b=some (.tup (t.map vn))) :
  RowsT (upd H s (.lst (a.map V.ref++[.ref b]))) s (T++[t]):=by
 refine⟨a++[b],by rw[du];exact kA,by simp[j],λ i c u d f=>?_⟩;have h:c≠s->upd H s (.lst (a.map V.ref++[.ref b])) c=H c:=λ z=>kM z;rcases iV i a.length with g | g
 ·rw[bb g]at d
  rw[bb (by omega)]at f;have:=m i c u d f;rw[h (wR this h1 (by simp))];exact this
 ·obtain rfl:i=a.length:=by
   have:=(ao.mp d).1;simp at this;omega
  rw[dq]at d;rw[j,dq]at f;cases d
  cases f
  rw[h (wR l h1 (by simp))];exact l
def kIK{H:Hp}{s:av}{T:List (List Nat)}(h:RowsT H s T)(r:∀ t∈T,t≠[]):∃ ps:List (av×List Int),H s=some (.lst (ps.map λ q=>V.ref q.1))/\kQU H ps /\
  ∀(l:av)(c:List (av×List Int)),H l=none->c.Perm ps->c.Pairwise (λ a b=>Srt.lexLt b.2 a.2=false)->RowsT (upd H l (.lst (c.map λ q=>V.ref q.1))) l (Fc.sortL T):=by
 obtain⟨j,h1,X,S⟩:=h
 have f:(j.zip (T.map Fc.zl)).map (λ q=>V.ref q.1)=j.map V.ref:=by
  rw[show(λ q:av×List Int=>V.ref q.1)=V.ref∘CD from rfl,<-ui,CJ (by rw[ak];omega)]
 have L:∀ t:List Nat,(Fc.zl t).map V.int=t.map vn:=λ t=>by unfold Fc.zl;rw[ui];rfl
 have mem:∀ q∈j.zip (T.map Fc.zl),∃ t:List Nat,t∈T/\q.2=Fc.zl t/\H q.1=some (.tup (t.map vn)):=λ q v=>by
  obtain⟨i,A,rfl⟩:=eV.mp v;rw[Af,ak]at A;refine⟨T[i]'(by omega),ie _,by simp,?_⟩;have:=S i (j[i]'(by omega)) (T[i]'(by omega)) (ae _) (ae _);simpa using this
 refine⟨j.zip (T.map Fc.zl),by rw[f];exact h1,λ q v=>?_,λ l c D y J=>?_⟩
 ·obtain⟨t,m,e,n⟩:=mem q v
  rw[e,L];refine⟨n,λ z=>r t m ?_⟩;unfold Fc.zl at z;exact DJ.mp z
 ·have back:∃ g:List (List Nat),c.map (·.2)=g.map Fc.zl/\g.Perm T:=by
   have I:(c.map (·.2)).Perm (T.map Fc.zl):=by
    have:=y.map (λ q:av×List Int=>q.2);rwa[Ac (by rw[ak];omega)]at this
   obtain⟨m,a,b⟩:=Srt.perm_back I rfl;exact⟨m,b,a⟩
  obtain⟨g,u,Q⟩:=back
  have p:g.Pairwise (λ a b=>Fc.leL a b=true):=by
   have x:(c.map (·.2)).Pairwise (λ a b=>Srt.lexLt b a=false):=km.mpr J;rw[u]at x;refine(km.mp x).imp λ{a b} G=>?_;rw[Fc.leL_iff];exact G
  have C:=Fc.sortL_is Q p
  have M:c.length=g.length:=by
   have:=congrArg jd u;simpa using this
  refine⟨c.map (·.1),by rw[ui];exact kA,by rw[<-C,ak,M],λ i b t f o=>?_⟩;rw[<-C]at o;have A:=(ao.mp o).1;have d:i<c.length:=by omega
  rw[bg,ae d]at f;have f:c[i].1=b:=bq f
  have B:c[i].2=Fc.zl t:=by
   have:=congrArg (λ l=>l[i]?) u;rw[bg,bg,o,ae d]at this;exact bq this
  obtain⟨O,m,U,n⟩:=mem c[i] (y.mem_iff.mp (ie d))
  have N:O=t:=by
   rw[U]at B;exact Fc.zl_inj B
  rw[<-f,kM (kO n D),n,N]
inductive kLF(vs:List V)(H:Hp)(Q:VK)(Y:XK):Prop
 | mk:∀(t:av)(W:Rows),(vs=[.ref t])->(WebAt H t W)->(Nb W)->(W.length<=42)->(∀(s:av)(H':Hp),Same H H'->H s=none->PairsAt H' s (Fc.tiesS W)->Q (.ref s) H')->kLF vs H Q Y
def gO{W:Rows}(S:Nb W)(h:W.length<=42):(Fc.stepsS W).length<=1764:=by
 have:=bL S h;rw[show(Fc.stepsS W).length=(kN W).length from(Fc.sortP_perm _).length_eq];exact this
def kPS(B:Fx):Hs "ties" ["web"] 2 (kLF):=by
 refine qM B.X B.d3 kPC λ f a0 A J s0 H vs Q E nN hr h=>?_;obtain⟨t,W,rfl,hW,S,p,k⟩:=h;refine⟨_,(kJ (kU (yC (Nc:=["p","q"]) (js:=[none,none]) rfl rfl (xU (pf (fG B) hr (p1 (pv 0)))) (CS.of rfl rfl) rfl (λ C n l fp m=>(show PG _ _ (nX K 2 _) from jF rfl (kQ (pgc 0) (kQ (pgc 1) qR)))) (λ C n l fp m D L=>(zK (kZ kMP (pv 0) (pv 1) (qO _)) (jP (qU (p2 (pv 0) (pv 1))))))))),?_⟩
 try dsimp only[qW]
 have l1:=gO S p;refine⟨_,rfl,t,W,rfl,hW,S,p,λ s H1 M ns pr=>?_⟩;obtain⟨ss,h1,U,h3⟩:=id pr;refine⟨s,rfl,⟨_,SqL.of h1⟩,λ D I=>?_⟩
 refine jJ (xs:=ss.map V.ref) (λ i v g=>∃(r u:Option V),v=[r,u]/\Same H1 g/\PairsAt g D (((Fc.stepsS W).take i).filter λ t=>decide (t.1<t.2)))
  ⟨none,none,rfl,kC I _,⟨[],kA,rfl,λ i b t e=>by simp at e⟩⟩ ?_ ?_ ?_
 ·rintro i v g _ ⟨r,u,rfl,j,_⟩
  exact SqL.of (j _ _ h1)
 ·rintro i x v g hx ⟨r,u,rfl,j,d⟩
  rw[bg]at hx;obtain⟨b,Y,rfl⟩:=cq.mp hx;have hi:i<(Fc.stepsS W).length:=by rw[<-U];exact(ao.mp Y).1
  have T:=ae hi;have hb:=h3 i b _ Y T;have tk:(Fc.stepsS W).take (i+1)=(Fc.stepsS W).take i++[(Fc.stepsS W)[i]]:=by rw[iq,T];rfl
  generalize(Fc.stepsS W)[i]=t at *;refine⟨b,_,rfl,SqT.of (j _ _ hb),rfl,_,_,rfl,_,_,rfl,rfl,?_⟩;refine⟨_,rfl,_,rfl,_,_,rfl,rfl,_,rfl,?_⟩;rw[tk];refine kJM (λ z=>?_) (λ z=>?_)
  ·have z:=of_decide_eq_true z
   refine⟨_,rfl,_,rfl,yS2,λ c nc=>?_⟩;have Z:=kC nc (.tup [vn t.1,vn t.2]);have hc:=kA (H:=g) (a:=c) (o:=.tup [vn t.1,vn t.2]);have G:=d.kept Z;have g3:=j.trans Z;refine(λ(y:upd g c (.tup [vn t.1,vn t.2]) c=some (.tup [vn t.1,vn t.2]))=>?_) hc;generalize upd g c (.tup [vn t.1,vn t.2])=H3 at *;obtain⟨cs,N,O,c3⟩:=id G
   have lc:cs.length<=1764:=by
    rw[O];have:=ni (λ t:Nat×Nat=>decide (t.1<t.2)) ((Fc.stepsS W).take i);rw[de]at this;omega
   refine⟨_,N,(by rw[ak];exact xJ (by omega)),?_⟩;refine⟨_,_,rfl,qI I g3,?_⟩;rw[tz,ve,if_pos (by exact decide_eq_true (by omega))];exact PairsAt.app (H':=H3) N O c3 y
  ·have z:¬ (t.1:Int)<(t.2:Int):=λ q=>z (decide_eq_true q)
   refine⟨_,_,rfl,j,?_⟩;rw[tz,ve,if_neg (by intro q;have:=of_decide_eq_true q;omega)];simpa using d
 ·rintro v g ⟨r,u,rfl,j,d⟩
  rw[ak,U,iJ]at d;exact k D g (M.trans j) (M.free I) d
end
section
def pk(t:Nat×Nat):List Key:=[gw (t.1:Int),gw (t.2:Int)]
def kSN{a b:Nat×Nat}(h:pk a=pk b):a=b:=by
 unfold pk at h;injection h with h1 h2
 injection h2 with h2 _
 have:=zy h1;have:=zy h2;exact ux (by omega) (by omega)
def SeenAt(H:Hp)(d:av)(X:List (Nat×Nat)):Prop:=∃ a:List (List Key×V),H d=some (.dT a)/\(∀ t:Nat×Nat,(jO a (pk t)).isSome=decide (t∈X))/\a.length<=X.length/\∀ y∈a,∃ t∈X,y.1=pk t
def SeenAt.kept{H H':Hp}{d:av}{X:List (Nat×Nat)}(h:SeenAt H d X)(g:Same H H'):SeenAt H' d X:=by
 obtain⟨c,a,b⟩:=h;exact⟨c,g _ _ a,b⟩
def kAJ{H:Hp}{d:av}:SeenAt (upd H d (.dT [])) d []:=⟨[],kA,λ t=>by simp[jO],be _,λ y a=>nomatch a⟩
def kBP{kvs:List (List Key×V)}{k:List Key}{v:V}{y:List Key×V}(h:y∈xB kvs k v):y.1=k\/∃ z∈kvs,z.1=y.1:=by
 unfold xB at h
 split at h
 ·obtain⟨z,a,rfl⟩:=iR.mp h
  split
  ·exact .inr ⟨z,a,rfl⟩
  ·exact .inr ⟨z,a,rfl⟩
 ·rcases cf.mp h with z | z
  ·exact .inr ⟨y,z,rfl⟩
  ·exact .inl (by rw[bz.mp z])
def kIO{kvs:List (List Key×V)}{X:List (Nat×Nat)}{t:Nat×Nat}{v:V}(h1:∀ t:Nat×Nat,(jO kvs (pk t)).isSome=decide (t∈X))(g:kvs.length<=X.length)(f:∀ y∈kvs,∃ t∈X,y.1=pk t) :
  (∀ u:Nat×Nat,(jO (xB kvs (pk t) v) (pk u)).isSome=decide (u∈X++[t]))/\(xB kvs (pk t) v).length<=(X++[t]).length/\∀ y∈xB kvs (pk t) v,∃ u∈X++[t],y.1=pk u:=by
 refine⟨λ u=>?_,?_,λ y c=>?_⟩
 ·rw[gN]
  by_cases e:pk u=pk t
  ·rw[if_pos e,kSN e]
   simp
  ·rw[if_neg e,h1 u]
   have:u≠t:=λ z=>e (by rw[z]);simp[this]
 ·have:=xW kvs (pk t) v
  rw[bu,fk];omega
 ·rcases kBP c with e | ⟨z,a,e⟩
  ·exact⟨t,by simp,e⟩
  ·obtain⟨u,b,d⟩:=f z a
   exact⟨u,dc _ b,by rw[<-e,d]⟩
theorem pV:∀(more kvs:List (List Key×V))(k:List Key),(jO (yH kvs more) k).isSome=((jO kvs k).isSome || (jO more k).isSome)
 | [],kvs,k=>by simp[yH,jO]
 | m::more,kvs,k=>by
  have:=pV more (xB kvs m.1 m.2) k;unfold yH at this ⊢;rw[vk,this,gN];by_cases e:m.1=k
  ·rw[if_pos e.symm,jK e]
   simp
  ·rw[if_neg (λ z=>e z.symm),jL e]
theorem pW:∀(more kvs:List (List Key×V)),(yH kvs more).length<=kvs.length+more.length
 | [],kvs=>be _
 | m::more,kvs=>by
  have:=pW more (xB kvs m.1 m.2);have:=xW kvs m.1 m.2;unfold yH at *;rw[vk,iQ];omega
theorem mW:∀(more kvs:List (List Key×V))(y:List Key×V),y∈yH kvs more->(∃ z∈kvs,z.1=y.1)\/∃ z∈more,z.1=y.1
 | [],kvs,y,h=>.inl ⟨y,h,rfl⟩
 | m::more,kvs,y,h=>by
  have h:y∈yH (xB kvs m.1 m.2) more:=h;rcases mW more _ y h with⟨z,a,e⟩ | ⟨z,a,e⟩
  ·rcases kBP a with c | ⟨d,b,c⟩
   ·exact .inr ⟨m,eW ..,by rw[<-e,c]⟩
   ·exact .inl ⟨d,b,by rw[c,e]⟩
  ·exact .inr ⟨z,dh _ a,e⟩
theorem SeenAt.upd{H:Hp}{d:av}{X Y:List (Nat×Nat)}{kvs more:List (List Key×V)}(h1:∀ t:Nat×Nat,(jO kvs (pk t)).isSome=decide (t∈X))(l:kvs.length<=X.length)(i:∀ y∈kvs,∃ t∈X,y.1=pk t)
  (f:∀ t:Nat×Nat,(jO more (pk t)).isSome=decide (t∈Y)) (j:more.length<=Y.length) (h:∀ y∈more,∃ t∈Y,y.1=pk t):SeenAt (L2.upd H d (.dT (yH kvs more))) d (X++Y):=by
 refine⟨_,kA,λ t=>?_,?_,λ y g=>?_⟩
 ·rw[pV,h1,f,iL,Cj,decide_eq_true_iff,decide_eq_true_iff,decide_eq_true_iff,cf]
 ·have:=pW more kvs
  rw[bu];omega
 ·rcases mW more kvs y g with⟨z,a,e⟩ | ⟨z,a,e⟩
  ·obtain⟨u,b,c⟩:=i z a
   exact⟨u,dc _ b,by rw[<-e,c]⟩
  ·obtain⟨u,b,c⟩:=h z a
   exact⟨u,cm _ b,by rw[<-e,c]⟩
def oH{W:Rows}{p q k:Nat}(T:Turns W p q k):Fc.per W (p,q)=k:=Fc.per_is T.pos T.back T.first
def kIC{W:Rows}{p q k:Nat}(T:Turns W p q k):orb W p q k=Fc.rnd W (p,q):=by
 unfold orb Fc.rnd;rw[oH T]
end
section
inductive kFL(vs:List V)(H:Hp)(Q:VK)(Y:XK):Prop
 | mk:∀(t:av)(W:Rows),(vs=[.ref t])->(WebAt H t W)->(Nb W)->(W.length<=42)->(∀(s:av)(H':Hp),Same H H'->H s=none->RowsT H' s (Fc.facesS W)->Q (.ref s) H')->kFL vs H Q Y
def kSF{W:Rows}(S:Nb W){t:Nat×Nat}(h:t∈kN W):(Fc.rnd W t).map (·.1)≠[]:=λ z=>by
 have:=Fc.rnd_self S h;rw[DJ.mp z]at this;cases this
def kNV{W:Rows}(S:Nb W){T:List (Nat×Nat)}(a:∀ t∈T,t∈kN W):∀ f∈(Fc.fgo W T).1,f≠[]:=λ f b=>by
 obtain⟨R,g,c,_⟩:=(Fc.fgo_ok S T a).reps;rw[c]at b;obtain⟨r,d,rfl⟩:=iR.mp b;exact kSF S (a r (g r d))
def aV{W:Rows}:∀ t∈Fc.stepsS W,t∈kN W:=λ t h=>(Fc.sortP_perm _).mem_iff.mp h
def kOZ{W:Rows}(S:Nb W)(h:W.length<=42){t:Nat×Nat}(a:t∈kN W):t.1<42/\t.2<42:=by
 have:=S.e (mem_steps.mp (show(t.1,t.2)∈kN W from a));omega
def kBJ(B:Fx):Hs "faces" ["web"] 3 (kFL):=by
 refine qM B.X B.d6 kLR λ f bc A b2 s0 H vs Q E nN hr h=>?_;obtain⟨t,W,rfl,hW,S,J,k⟩:=h
 refine⟨_,(kH (pst 1 nN (jD kW))
   (kH (pst 2 nN kML)
   (kH (nV (xU (pf (fG B) hr (p1 (pv 0)))) (pgn 3 nN) (kJ (xL (kSK (kIY (wV hr) (pv 3) (pv 2))) (kH (pst 4 nN (pf (uQ B) hr (p2 (pv 0) (pv 3))))
   (kH (qK (kBA PySem.F.plainAttrs_dict Bu PySem.F.type_dict_update (kPV (wV hr)) (pv 2) (p1 (kPP (Nc:=["one"]) (js:=[none]) rfl rfl (xU (pv 4)) (CS.of rfl rfl) rfl (λ C U N fp O=>(pgc 0)) (λ C U N fp O D L=>(qT (gD (wV hr) (pv 0) aP)))))))
   (kJ (qK (jQ jo jq xE (pv 1) (p1 (jM qY rfl (B.z B.y6) je (p1 (yC (Nc:=["p","q"]) (js:=[none,none]) rfl rfl (xU (pv 4)) (CS.of rfl rfl) rfl (λ C U N fp O=>(show PG _ _ (nX K 2 _) from jF rfl (kQ (pgc 0) (kQ (pgc 1) qR)))) (λ C U N fp O D L=>(qT (jP (pv 0))))))))))))) qQ)))
   (kJ (kU (kR zS rfl (B.z B.y7) pd (p1 (pv 1)))))))),?_⟩
 try dsimp only[qW]
 have l1:=gO S J;have l0:=bL S J;refine⟨yS0,λ l nl=>?_⟩;have gl:=kC nl (.lst []);have hl:=kA (H:=H) (a:=l) (o:=.lst []);refine λ d nd=>?_;have gd:=kC nd (.dT []);have hd:=kAJ (H:=upd H l (.lst [])) (d:=d);have ac:l≠d:=λ z=>by rw[<-z,hl]at nd;cases nd
 have Z:=gd _ _ hl;have g1:=gl.trans gd;have aq:H d=none:=gl.free nd;refine(λ(a4:SeenAt (upd (upd H l (.lst [])) d (.dT [])) d [])=>?_) hd;generalize upd (upd H l (.lst [])) d (.dT [])=H1 at *;refine⟨_,rfl,t,W,rfl,hW.kept g1,S,J,λ s H2 g2 ns pr=>?_⟩;obtain⟨ss,h1,h2,h3⟩:=id pr;have ah:=g1.trans g2;have aw:s≠l:=λ z=>by rw[z,Z]at ns;cases ns
 have b4:s≠d:=λ z=>by obtain⟨g,a,_⟩:=a4;rw[z,a]at ns;cases ns
 refine⟨s,rfl,⟨_,SqL.of h1⟩,?_⟩
 refine kNS (xs:=ss.map V.ref) (λ i G Y=>∃(x3 x4:Option V),G=[some (.ref t),some (.ref l),some (.ref d),x3,x4]/\(∀ b o,b≠l->b≠d->H2 b=some o->Y b=some o)/\RowsT Y l (Fc.fgo W ((Fc.stepsS W).take i)).1/\SeenAt Y d (Fc.fgo W ((Fc.stepsS W).take i)).2)
  ⟨none,none,rfl,(λ b o _ _ e=>e),⟨[],g2 _ _ Z,rfl,λ i b t e=>by simp at e⟩,a4.kept g2⟩ ?_ ?_ ?_
 ·rintro i G Y _ ⟨x3,x4,rfl,f3,_⟩
  exact SqL.of (f3 _ _ aw b4 h1)
 ·rintro i x G Y hx ⟨x3,x4,rfl,f3,rt,sn⟩
  rw[bg]at hx;obtain⟨b,eb,rfl⟩:=cq.mp hx;have hi:i<(Fc.stepsS W).length:=by rw[<-h2];exact(ao.mp eb).1
  have et:=ae hi;have hb:=h3 i b _ eb et;have tk:(Fc.stepsS W).take (i+1)=(Fc.stepsS W).take i++[(Fc.stepsS W)[i]]:=by rw[iq,et];rfl
  have mt:=aV _ (ie hi);have fi:=Fc.fgo_ok S ((Fc.stepsS W).take i) λ t h=>aV t (Ao h);have lX:=fi.len;rw[tk,Fc.fgo_snoc]
  have lF:(Fc.fgo W ((Fc.stepsS W).take i)).1.length<=1764:=by
   have:∀ T:List (Nat×Nat),(Fc.fgo W T).1.length<=T.length:=λ T=>by
    have:∀ n,n<=T.length->(Fc.fgo W (T.take n)).1.length<=n:=λ n=>by
     induction n with
     | zero=>intro _;rw[BG];exact be _
     | succ n ih =>
      intro hn;rw[show T.take (n+1)=T.take n++[T[n]] by rw[iq,ae (by omega)];rfl,Fc.fgo_snoc];have:=ih (by omega);unfold Fc.fstep
      split
      ·omega
      ·rw[bu]
       show _+1<=_;omega
    have:=this T.length (be _);rwa[iJ]at this
   have:=this ((Fc.stepsS W).take i);rw[de]at this;omega
  generalize(Fc.stepsS W)[i]=u at *;generalize Fc.fgo W ((Fc.stepsS W).take i)=st at *
  have b1:b≠l:=λ z=>by
   have a:=g2 _ _ Z;rw[z,a]at hb;cases hb
  have b7:b≠d:=λ z=>by
   obtain⟨g,a,_⟩:=a4.kept g2;rw[z,a]at hb;cases hb
  have ab:=f3 _ _ b1 b7 hb;obtain⟨g,k1,k2,k3,k4⟩:=id sn;refine⟨_,rfl,_,rfl,d,_,rfl,DGet.t (k:=pk u) k1 ab,_,rfl,?_⟩;rw[k2 u];unfold Fc.fstep;by_cases c:u∈st.2
  ·rw[decide_eq_true c,if_pos c]
   exact jY ⟨_,_,rfl,f3,rt,sn⟩
  rw[decide_eq_false c,if_neg c];obtain⟨r,p⟩:=u;have hE:Tri.E W r p:=mem_steps.mp mt
  have a5:WebAt Y t W:=by
   obtain⟨ts,q1,q2,q3⟩:=hW.kept ah;have ok:∀(b:av)(xs:List V),H2 b=some (.tup xs)->Y b=some (.tup xs):=λ b xs e=>f3 b _ (λ z=>by rw[z,g2 _ _ Z]at e;cases e) (λ z=>by obtain⟨g,a,_⟩:=a4.kept g2;rw[z,a]at e;cases e) e;exact⟨ts,ok _ _ q1,q2,λ j a row e1 e2=>ok _ _ (q3 j a row e1 e2)⟩
  refine zT ⟨_,rfl,_,rfl,t,b,W,r,p,rfl,a5,S,J,ab,hE,λ q m H4 g4 T am=>?_⟩;rw[kIC T]at am;have b6:=T.few;have lm:=oH T;obtain⟨qs,q1,q2,q3⟩:=id am
  have lq:(Fc.rnd W (r,p)).length=m:=by rw[Fc.rnd_len,lm]
  refine⟨_,rfl,.inr (.inr (.inl ⟨rfl,.inr ⟨_,g4 _ _ k1⟩⟩)),_,rfl,q,rfl,⟨_,SqL.of q1⟩,λ D nD=>?_⟩;refine jJ (xs:=qs.map V.ref) (λ j G I=>∃(x0:Option V),G=[x0]/\Same H4 I/\SeenAt I D ((Fc.rnd W (r,p)).take j)) ⟨none,rfl,kC nD _,kAJ⟩ ?_ ?_ ?_
  ·rintro j G I _ ⟨x0,rfl,g5,_⟩
   exact SqL.of (g5 _ _ q1)
  ·rintro j v G I hv ⟨x0,rfl,g5,sD⟩
   rw[bg]at hv;obtain⟨c',ec,rfl⟩:=cq.mp hv;have hj:j<(Fc.rnd W (r,p)).length:=by rw[<-q2];exact(ao.mp ec).1
   have ej:=ae hj;have hc:=g5 _ _ (q3 j c' _ ec ej);have a6:(Fc.rnd W (r,p)).take (j+1)=(Fc.rnd W (r,p)).take j++[(Fc.rnd W (r,p))[j]]:=by rw[iq,ej];rfl
   rw[a6];generalize(Fc.rnd W (r,p))[j]=y at *;obtain⟨M,d1,d2,d3,d4⟩:=sD;have ld:M.length<=1764:=by rw[de]at d3;omega
   refine⟨_,rfl,_,DPut.t (k:=pk y) d1 hc (xJ (by omega)),?_⟩;obtain⟨a1,a2,a3⟩:=kIO (t:=y) (v:=.bl true) d2 d3 d4;exact⟨_,rfl,qI nD g5,⟨_,kA,a1,a2,a3⟩⟩
  ·rintro G I ⟨x0,rfl,g5,sD⟩
   rw[ak,q2,iJ]at sD;obtain⟨M,d1,d2,d3,d4⟩:=sD;have af:=g4.trans g5;have a8:=af _ _ k1;have b8:d≠D:=λ z=>by rw[<-z,g4 _ _ k1]at nD;cases nD
   refine⟨d,D,g,M,rfl,rfl,b8,a8,d1,(λ y hy=>?_),?_,?_⟩
   ·obtain⟨v,hv,e⟩:=d4 y hy
    have:=kOZ S J (Fc.rnd_sub S mt hv);exact⟨v.1,v.2,e,this.1,this.2⟩
   ·have:g.length+M.length<=20000:=by omega
    exact fv (xJ this)
   have ax:=SeenAt.upd (H:=I) (d:=d) k2 k3 k4 d2 d3 d4;have f6:∀ b o,b≠d->Y b=some o->upd I d (.dT (yH g M)) b=some o:=λ b o nb e=>by rw[kM nb];exact af _ _ e
   have ag:upd I d (.dT (yH g M)) q=some (.lst (qs.map V.ref)):=by
    rw[kM (wR (g5 _ _ q1) a8 (by simp))];exact g5 _ _ q1
   have b0:∀(i:Nat)(b:av)(t:Nat×Nat),qs[i]?=some b->(Fc.rnd W (r,p))[i]?=some t->upd I d (.dT (yH g M)) b=some (.tup [vn t.1,vn t.2]):=λ i b t e1 e2=>by
    have:=g5 _ _ (q3 i b t e1 e2);rw[kM (wR this a8 (by simp))];exact this
   obtain⟨ls,r1,r2,r3⟩:=id rt;have an:upd I d (.dT (yH g M)) l=some (.lst (ls.map V.ref)):=f6 l _ ac r1
   have as:∀(i:Nat)(b:av)(t:List Nat),ls[i]?=some b->st.1[i]?=some t->upd I d (.dT (yH g M)) b=some (.tup (t.map vn)):=λ i b t e1 e2=>by
    have:=r3 i b t e1 e2;exact f6 b _ (wR this k1 (by simp)) this
   have ap:∀ b o,b≠l->b≠d->H2 b=some o->upd I d (.dT (yH g M)) b=some o:=λ b o n1 n2 e=>f6 b o n2 (f3 b o n1 n2 e)
   generalize upd I d (.dT (yH g M))=H6 at *
   refine⟨_,rfl,.inl ⟨rfl,_,SqL.of an⟩,_,rfl,q,rfl,⟨_,SqL.of ag⟩,λ D2 aa=>?_⟩;refine jJ (xs:=qs.map V.ref) (λ j G H7=>∃(x0 x1:Option V),G=[x0,x1]/\Same H6 H7/\H7 D2=some (.lst ((((Fc.rnd W (r,p)).take j).map (·.1)).map vn))) ⟨none,none,rfl,kC aa _,kA⟩ ?_ ?_ ?_
   ·rintro j G H7 _ ⟨x0,x1,rfl,g7,_⟩
    exact SqL.of (g7 _ _ ag)
   ·rintro j v G H7 hv ⟨x0,x1,rfl,g7,a0⟩
    rw[bg]at hv;obtain⟨c',ec,rfl⟩:=cq.mp hv;have hj:j<(Fc.rnd W (r,p)).length:=by rw[<-q2];exact(ao.mp ec).1
    have ej:=ae hj;have hc:=g7 _ _ (b0 j c' _ ec ej);have a6:(Fc.rnd W (r,p)).take (j+1)=(Fc.rnd W (r,p)).take j++[(Fc.rnd W (r,p))[j]]:=by rw[iq,ej];rfl
    rw[a6];generalize(Fc.rnd W (r,p))[j]=y at *;refine⟨c',_,rfl,SqT.of hc,rfl,_,_,rfl,_,_,rfl,rfl,?_⟩;refine⟨_,rfl,_,a0,(by rw[ak,ak,de];exact xJ (by omega)),?_⟩;refine⟨_,_,rfl,qI aa g7,?_⟩;rw[du,du];exact kA
   ·rintro G H7 ⟨x0,x1,rfl,g7,a0⟩
    rw[ak,q2,iJ]at a0;refine⟨D2,_,rfl,.inl ⟨SqL.of a0,λ f nf=>?_⟩⟩;have gf:=kC nf (.tup (((Fc.rnd W (r,p)).map (·.1)).map vn));have g8:=g7.trans gf;have hf:=kA (H:=H7) (a:=f) (o:=.tup (((Fc.rnd W (r,p)).map (·.1)).map vn));generalize ba:upd H7 f (.tup (((Fc.rnd W (r,p)).map (·.1)).map vn))=H8 at *;have al:=g8 _ _ an;have b9:∀(i:Nat)(b:av)(t:List Nat),ls[i]?=some b->st.1[i]?=some t->H8 b=some (.tup (t.map vn)):=λ i b t e1 e2=>g8 _ _ (as i b t e1 e2);refine⟨l,_,_,rfl,rfl,al,(by rw[ak,r2];exact xJ (by omega)),?_⟩;refine⟨_,_,rfl,(λ b o n1 n2 e=>by rw[kM n1];exact g8 _ _ (ap b o n1 n2 e)),RowsT.app al r2 b9 hf,?_⟩;obtain⟨b5,z1,z2⟩:=ax.kept g8;exact⟨b5,by rw[kM ac.symm];exact z1,z2⟩
 ·rintro G Y ⟨x3,x4,rfl,f3,rt,sn⟩
  rw[ak,h2,iJ]at rt;obtain⟨ps,e1,e2,e3⟩:=kIK rt (kNV S aV);have a9:Same H Y:=λ b o e=>f3 b o (kO e nl) (kO e aq) (ah b o e);refine⟨_,rfl,l,ps,rfl,.inl (SqL.of e1),e2,λ l' b3 a7 pm sr=>?_⟩;exact k l' _ (a9.trans (kC a7 _)) (a9.free a7) (e3 l' b3 a7 pm sr)
inductive kLK(vs:List V)(H:Hp)(Q:VK)(Y:XK):Prop
 | mk:∀(t:av)(W:Rows),(vs=[.ref t])->(WebAt H t W)->(Nb W)->(W.length<=42)->(∀(H':Hp),Same H H'->Q (.bl (decide (W.length+(Fc.facesS W).length=(Fc.tiesS W).length+2))) H')->kLK vs H Q Y
def kDX(B:Fx):Hs "is_flat" ["web"] 4 (kLK):=by
 refine qM B.X B.d7 kDH λ f x A c G H D Q E J i h=>?_;obtain⟨t,W,rfl,d,S,a,k⟩:=h;refine⟨_,(kJ (kU (zW kRH (kX jG (kR kP rfl (B.z B.y0) fc (p1 (pv 0))) (kR kP rfl (B.z B.y0) fc (p1 (pf (kBJ B) i (p1 (pv 0)))))) (kX jG (kR kP rfl (B.z B.y0) fc (p1 (pf (kPS B) i (p1 (pv 0))))) kI) (qO _)))),?_⟩
 try dsimp only[qW]
 obtain⟨p,h1,b,L⟩:=id d;refine⟨_,rfl,t,_,rfl,.inr (SqT.of h1),_,rfl,t,W,rfl,d,S,a,λ s y g I r=>?_⟩;obtain⟨q,j,l,_⟩:=r;refine⟨s,_,rfl,.inl (SqL.of j),_,_,rfl,rfl,_,rfl,t,W,rfl,d.kept g,S,a,λ u v n C m=>?_⟩;obtain⟨o,p1,p2,_⟩:=m;refine⟨u,_,rfl,.inl (SqL.of p1),_,_,rfl,rfl,rfl,?_⟩
 have e:decide (V.int (((p.map V.ref).length:Int)+((q.map V.ref).length:Int))=V.int (((o.map V.ref).length:Int)+2))=decide (W.length+(Fc.facesS W).length=(Fc.tiesS W).length+2):=by
  rw[iL,decide_eq_true_iff,decide_eq_true_iff,ak,ak,ak,b,l,p2];constructor
  ·intro z
   have:=V.int.inj z;omega
  ·intro z
   congr 1
   omega
 rw[e];exact k v (g.trans n)
end
section
inductive kAE(vs:List V)(H:Hp)(Q:VK)(Y:XK):Prop
 | mk:∀(n:Nat),(vs=[vn n])->(Q (.bl true) H)->kAE vs H Q Y
def kBF(B:Fx):Hs "is_whole" ["thing"] 1 (kAE):=by
 refine qM B.X B.d0 kAP λ f b A a i H d Q E c g h=>?_;obtain⟨n,rfl,q⟩:=h;refine⟨_,(kJ (kU (mE (kR Own.call_isi rfl (B.z B.y8) xk (p2 (pv 0) (sL (v:=.ty "int") rfl (B.z B.y10) Cr rfl))) (kDQ (kSP (kR Own.call_isi rfl (B.z B.y8) xk (p2 (pv 0) (sL (v:=.ty "bool") rfl (B.z B.y9) GD rfl)))))))),?_⟩
 try dsimp only[qW]
 exact⟨_,rfl,_,_,_,_,rfl,.int _,rfl,_,rfl,zT ⟨_,rfl,_,_,_,_,rfl,.int _,rfl,_,rfl,q⟩⟩
inductive kLN(vs:List V)(H:Hp)(Q:VK)(Y:XK):Prop
 | mk:∀(a:av)(ns:List Nat),(vs=[.ref a,vn ns.length])->(H a=some (.tup (ns.map vn)))->(ns.length<=1000)->(∀ H',Same H H'->Q (.bl true) H')->kLN vs H Q Y
def bR(B:Fx):Hs "are_whole" ["thing","many"] 2 (kLN):=by
 refine qM B.X B.d1 rV λ f I A q N H M Q E O s h=>?_;obtain⟨a,m,rfl,e,l,k⟩:=h;refine⟨_,(kJ (kU (mE (kR Own.call_isi rfl (B.z B.y8) xk (p2 (pv 0) (sL (v:=.ty "tuple") rfl (B.z B.y6) je rfl))) (mE (zW kRH (kR kP rfl (B.z B.y0) fc (p1 (pv 0))) (pv 1) (qO _)) (kDQ (kR (rA rfl) rfl (B.z B.y11) Cs (p1 (yC (Nc:=["one"]) (js:=[none]) rfl rfl (bB (pv 0)) (CS.of rfl rfl) rfl (λ C i c G d=>(pgc 0)) (λ C i c G d D L=>(qT (jP (pf (kBF B) s (p1 (pv 0)))))))))))))),?_⟩
 try dsimp only[qW]
 refine⟨_,rfl,_,_,_,_,rfl,.tup e,rfl,_,rfl,zT ⟨_,rfl,a,_,rfl,.inr (SqT.of e),_,rfl,rfl,_,rfl,?_⟩⟩;rw[decide_eq_true (show V.int (((m.map vn).length:Nat):Int)=vn m.length by rw[ak];rfl)];refine zT ⟨_,rfl,a,rfl,⟨_,SqT.of e⟩,λ D r=>?_⟩;refine zH (xs:=m.map vn) (λ n o b=>∃(u:Option V),o=[u]/\b D=some (.lst ((gy n true).map V.bl))/\Same H b) ⟨none,rfl,kA,kC r _⟩ ?_ ?_ ?_
 ·rintro n o b _ ⟨u,rfl,j,g⟩
  exact SqT.of (g _ _ e)
 ·rintro n v o b p ⟨u,rfl,j,g⟩
  have y:=(ao.mp p).1;rw[ak]at y;rw[bg]at p;obtain⟨x,_,rfl⟩:=cq.mp p;refine⟨_,rfl,x,rfl,_,j,(by rw[ak,xt];exact kS (by omega)),?_⟩;exact⟨_,rfl,(by rw[List.replicate_succ',du];exact kA),qI r g⟩
 ·rintro o b ⟨u,rfl,j,g⟩
  refine⟨D,_,rfl,SqL.of j,?_⟩
  have:(gy (m.map vn).length true).all id=true:=by
   rw[wo];intro x J;rw[List.eq_of_mem_replicate J]
   rfl
  rw[this];exact k b g
structure Tr(W:Rows):Prop where
 nb:Nb W
 le:W.length<=42
 three:∀ t∈kN W,(nxt W (nxt W t)).2=t.1
 cnt:(kN W).length+12=6*W.length
def Tr.flat{W:Rows}(T:Tr W):W.length+(Fc.facesS W).length=(Fc.tiesS W).length+2:=((Fc.three_cornered T.nb).mpr ⟨T.three,T.cnt⟩).1
def Tr.faces{W:Rows}(T:Tr W):∀ f∈Fc.facesS W,f.length=3:=((Fc.three_cornered T.nb).mpr ⟨T.three,T.cnt⟩).2
def Tr.turns{W:Rows}(T:Tr W){p q k:Nat}(a:Tri.E W p q)(Y:Turns W p q k):orb W p q k=[(p,q),(q,(nxt W (p,q)).2),((nxt W (p,q)).2,p)]:=by
 have l:(p,q)∈kN W:=mem_steps.mpr a;have d:p≠q:=λ z=>(T.nb.e a).2.2 z.symm;have c:=T.three _ l;have i:=T.three _ (mem_steps.mpr (kGP T.nb a 1):((nxt W (p,q)).1,(nxt W (p,q)).2)∈kN W);have m:nxt W (p,q)=(q,(nxt W (p,q)).2):=rfl;have f:nxt W (nxt W (p,q))=((nxt W (p,q)).2,p):=ux rfl c;have j:nxt W (nxt W (nxt W (p,q)))=(p,q):=ux c i
 have g:k=3:=by
  rcases ya k 3 with h | h | h
  ·exfalso
   have b:=Y.back;have:=Y.pos;have:k=1\/k=2:=by omega
   rcases this with rfl | rfl
   ·have b:nxt W (p,q)=(p,q):=b
    have:=congrArg CD b;exact d this.symm
   ·have b:nxt W (nxt W (p,q))=(p,q):=b
    rw[f]at b;exact d (congrArg tm b)
  ·exact h
  ·exact absurd j (Y.first 3 (by decide) h)
 subst g;show[(p,q),nxt W (p,q),nxt W (nxt W (p,q))]=_;rw[f]
 rfl
def bC(T:List (Nat×Nat)):Cu:=.list (T.map λ t=>prD t.1 t.2)
def kIZ(T:List (Nat×Nat)):lj (T.map λ t=>prD t.1 t.2)=true/\ph (T.map λ t=>prD t.1 t.2)<=1:=by
 induction T with
 | nil=>exact⟨rfl,by decide⟩
 | cons t T ih =>
  have h1:mh (prD t.1 t.2)=true:=by simp[prD,mh,lj]
  have a:ql (prD t.1 t.2)<=1:=by simp[prD,ql,ph]
  simp only[gh,lj,ph,h1,ih.1];have:=ih.2;refine⟨rfl,?_⟩;omega
def pG(T:List (Nat×Nat)):kj (bC T)=true:=by
 obtain⟨h1,a⟩:=kIZ T;unfold bC kj;simp only[mh,ql,h1]
 first | (simp;omega) | (rw[iK];exact⟨rfl,decide_eq_true (by omega)⟩) | simp_all
def PairsAt.dt{H:Hp}{s:av}{T:List (Nat×Nat)}(h:PairsAt H s T):Dt K H (bC T) (.ref s):=by
 obtain⟨c,h1,b,a⟩:=h;unfold bC Dt;exact⟨s,_,rfl,SqL.of h1,kCE b a⟩
def kDR:∀(T U:List (Nat×Nat)),ja (bC T) (bC U)=decide (T=U):=by
 have b:∀(T U:List (Nat×Nat)),iW (T.map λ t=>prD t.1 t.2) (U.map λ t=>prD t.1 t.2)=decide (T=U):=λ T=>by
  induction T with
  | nil=>intro U;cases U<;>simp[iW]
  | cons t T ih =>
   intro U
   cases U with
   | nil=>simp[iW]
   | cons u U =>
    rw[gh,gh,iW,kGA,ih U,iL,iK,decide_eq_true_iff,decide_eq_true_iff,decide_eq_true_iff];constructor
    ·rintro⟨⟨h1,a⟩,rfl⟩
     rw[show t=u from ux h1 a]
    ·intro h
     injection h with h1 a
     exact⟨⟨congrArg _ h1,congrArg _ h1⟩,a⟩
 intro T U;unfold bC;rw[ja];exact b T U
inductive kLO(vs:List V)(H:Hp)(Q:VK)(Y:XK):Prop
 | mk:∀(w:av)(W:Rows)(a c b:Nat),(vs=[.ref w,vn a,vn c,vn b])->(WebAt H w W)->(Tr W)->(Tri.E W a c)->(∀ H',Same H H'->Q (.bl (decide ((nxt W (a,c)).2=b))) H')->kLO vs H Q Y
def bS(B:Fx):Hs "are_round" ["web","p","q","r"] 3 (kLO):=by
 refine qM B.X B.d10 rW λ f a0 A v s0 H vs Q E nN C h=>?_;obtain⟨w,W,a,c,b,rfl,hW,T,J,k⟩:=h;refine⟨_,(kJ (kU (zW (kDT C.units) (pf (uQ B) C (p2 (pv 0) (qU (p2 (pv 1) (pv 2))))) (jD (kE (qU (p2 (pv 1) (pv 2))) (kE (qU (p2 (pv 2) (pv 3))) (kE (qU (p2 (pv 3) (pv 1))) kW)))) (qO _)))),?_⟩
 try dsimp only[qW]
 refine⟨_,rfl,_,rfl,_,rfl,yS2,λ z nz=>?_⟩;have D:=kC nz (.tup [vn a,vn c]);have U:=kA (H:=H) (a:=z) (o:=.tup [vn a,vn c]);refine⟨w,z,W,a,c,rfl,hW.kept D,T.nb,T.le,U,J,λ s m n N Y I=>?_⟩;rw[T.turns J Y]at I;have x:=D.trans N;refine⟨_,rfl,_,rfl,yS2,λ g n1=>⟨_,rfl,_,rfl,yS2,λ j n2=>⟨_,rfl,_,rfl,yS2,λ l S=>⟨yS3,λ u Z=>?_⟩⟩⟩⟩;have k1:=kC n1 (.tup [vn a,vn c]);have L:=kC n2 (.tup [vn c,vn b]);have y:=kC S (.tup [vn b,vn a]);have q:=kC Z (.lst [.ref g,.ref j,.ref l]);have M:=q _ _ (y _ _ (L _ _ (kA (H:=n) (a:=g) (o:=.tup [vn a,vn c]))));have O:=q _ _ (y _ _ (kA (H:=upd n g (.tup [vn a,vn c])) (a:=j) (o:=.tup [vn c,vn b])));have q3:=q _ _ (kA (H:=upd (upd n g (.tup [vn a,vn c])) j (.tup [vn c,vn b])) (a:=l) (o:=.tup [vn b,vn a]));have q4:=kA (H:=upd (upd (upd n g (.tup [vn a,vn c])) j (.tup [vn c,vn b])) l (.tup [vn b,vn a])) (a:=u) (o:=.lst [.ref g,.ref j,.ref l]);have G:=k1.trans (L.trans (y.trans q))
 have pu:PairsAt (upd (upd (upd (upd n g (.tup [vn a,vn c])) j (.tup [vn c,vn b])) l (.tup [vn b,vn a])) u (.lst [.ref g,.ref j,.ref l])) u [(a,c),(c,b),(b,a)] :=
  ⟨[g,j,l],q4,rfl,λ i d t p r=>by
   match i with
   | 0=>cases p;cases r;exact M
   | 1=>cases p;cases r;exact O
   | 2=>cases p;cases r;exact q3
   | i+3=>simp at p⟩
 refine⟨_,_,(I.kept G).dt,pu.dt,pG _,pG _,?_⟩;rw[if_neg (by decide),kDR]
 have e:decide ([(a,c),(c,(nxt W (a,c)).2),((nxt W (a,c)).2,a)]=[(a,c),(c,b),(b,a)])=decide ((nxt W (a,c)).2=b):=by
  rw[iL,decide_eq_true_iff,decide_eq_true_iff];constructor
  ·intro h
   injection h with _ h
   injection h with h _
   exact congrArg tm h
  ·intro h
   rw[h]
 rw[e];exact k _ (x.trans G)
inductive gP(vs:List V)(H:Hp)(Q:VK)(Y:XK):Prop
 | mk:∀(t:av)(W:Rows),(vs=[.ref t])->(WebAt H t W)->(Tr W)->(∀ H',Same H H'->Q .non H')->gP vs H Q Y
def fV(B:Fx):Hs "must_be_flat" ["web"] 5 (gP):=by
 refine qM B.X B.d8 fS λ f i A a m H j Q E l g h=>?_;obtain⟨t,W,rfl,d,T,k⟩:=h;refine⟨_,(kJ (xL (bA (aZ (pf (kDX B) g (p1 (pv 0))))) (kJ fZ) qQ)),?_⟩
 try dsimp only[qW]
 refine⟨_,rfl,t,W,rfl,d,T.nb,T.le,λ c b=>⟨_,rfl,?_⟩⟩;rw[decide_eq_true T.flat];exact jY (k c b)
inductive kAF(vs:List V)(H:Hp)(Q:VK)(Y:XK):Prop
 | mk:∀(t:av)(W:Rows),(vs=[.ref t])->(WebAt H t W)->(Tr W)->(∀ H',Same H H'->Q .non H')->kAF vs H Q Y
def bD(B:Fx):Hs "uncornered_face" ["web"] 4 (kAF):=by
 refine qM B.X B.d9 aW λ f S A n s0 H vs Q E nN y h=>?_;obtain⟨t,W,rfl,Z,T,k⟩:=h
 refine⟨_,(kH (bO (i:=1) (Nc:=["face"]) (js:=[none]) rfl rfl nN rfl (yw rfl) (xU (pf (kBJ B) y (p1 (pv 0)))) (CS.of rfl rfl) rfl (λ C j d I g=>(pgc 0)) (λ C j d I g D L=>(zK (kZ mF (kR (show yY _ _ (yQ K) from kP) rfl (B.z B.y0) fc (p1 (pv 0))) kI (qO _)) (jP (pv 0)))))
   (kJ (kU (kAZ (kMG (pv 1) (λ _=>rfl)) (pix kY (pv 1) kI) wJ)))),?_⟩
 try dsimp only[qW]
 refine⟨_,rfl,t,W,rfl,Z,T.nb,T.le,λ s v u ns U=>?_⟩;obtain⟨O,h1,N,h3⟩:=id U;refine⟨s,rfl,⟨_,SqL.of h1⟩,λ D M=>?_⟩
 refine jJ (xs:=O.map V.ref) (λ i l c=>∃(m:Option V),l=[m]/\Same v c/\c D=some (.lst []))
  ⟨none,rfl,kC M _,kA⟩ ?_ ?_ ?_
 ·rintro i l c _ ⟨m,rfl,a,_⟩
  exact SqL.of (a _ _ h1)
 ·rintro i x l c r ⟨m,rfl,a,o⟩
  rw[bg]at r;obtain⟨b,p,rfl⟩:=cq.mp r;have q:i<(Fc.facesS W).length:=by rw[<-N];exact(ao.mp p).1
  have J:=ae q;have Y:=h3 i b _ p J;have G:=T.faces _ (ie q);refine⟨_,rfl,b,_,rfl,.inr (SqT.of (a _ _ Y)),rfl,_,rfl,?_⟩;rw[ak,G];exact jY ⟨_,rfl,a,o⟩
 ·rintro l c ⟨m,rfl,a,o⟩
  exact⟨_,rfl,false,.inl ⟨_,SqL.of o,rfl⟩,k c (u.trans a)⟩
inductive kFN(vs:List V)(H:Hp)(Q:VK)(Y:XK):Prop
 | mk:∀(w z:av)(W:Rows)(a b c:Nat),(vs=[.ref w,.ref z])->(WebAt H w W)->(Tr W)->(H z=some (.tup [vn a,vn b,vn c]))->(Tri.E W a c)->((nxt W (a,c)).2=b)->(∀ H',Same H H'->Q (.bl true) H')->kFN vs H Q Y
def kDY(B:Fx):Hs "is_base" ["web","thing"] 4 (kFN):=by
 refine qM B.X B.d11 kDI λ f C A i O H M Q E o p h=>?_;obtain⟨w,z,W,a,b,c,rfl,G,T,r,j,v,k⟩:=h
 refine⟨_,(kH (xL (bA (aZ (pf (bR B) p (p2 (pv 1) kI)))) (kJ (kU aP)) qQ)
   (kH (yB (pv 1) (jF (n:=3) rfl (kQ (pgn 2 o) (kQ (pgn 3 o) (kQ (pgn 4 o) qR)))))
   (kJ (kU (mE (kMM kUU kMP kI (pv 2) (kR kP rfl (B.z B.y0) fc (p1 (pv 0)))) (mE (zW zG (pv 4) (pix qC (pv 0) (pv 2)) rfl) (kDQ (pf (bS B) p (kE (pv 0) (kE (pv 2) (kE (pv 4) (kE (pv 3) kW)))))))))))),?_⟩
 try dsimp only[qW]
 refine⟨_,rfl,z,[a,b,c],rfl,r,(by show 3<=1000;decide),λ L d=>⟨_,rfl,jY ?_⟩⟩;have l:=d _ _ r;have q:=G.kept d;obtain⟨y,h1,g,J⟩:=q.at;obtain⟨row,I,m⟩:=id j;obtain⟨u,D,s⟩:=J a row I;have N:=(T.nb.e j).1;refine⟨_,rfl,z,_,rfl,SqT.of l,rfl,_,_,rfl,_,_,rfl,_,_,rfl,rfl,?_⟩;refine⟨_,rfl,_,_,rfl,rfl,_,rfl,?_⟩;rw[decide_eq_true (show(0:Int)<=(a:Int) by omega)];refine zT ⟨_,rfl,w,_,rfl,.inr (SqT.of h1),_,_,rfl,rfl,_,rfl,?_⟩;rw[decide_eq_true (show(a:Int)<(((y.map V.ref).length:Nat):Int) by rw[ak,g];omega)];refine zT ⟨_,rfl,_,rfl,_,rfl,w,_,_,_,rfl,rfl,SqT.of h1,D,u,_,rfl,.inr (SqT.of s),rfl,yT _,_,rfl,?_⟩;rw[wD,decide_eq_true m];refine zT ⟨_,rfl,_,rfl,_,rfl,_,rfl,w,W,a,c,b,rfl,q,T,j,λ S x=>?_⟩;rw[decide_eq_true v];exact k _ (d.trans x)
inductive gQ(vs:List V)(H:Hp)(Q:VK)(Y:XK):Prop
 | mk:∀(w z:av)(W:Rows)(a b c:Nat),(vs=[.ref w,.ref z])->(WebAt H w W)->(Tr W)->(H z=some (.tup [vn a,vn b,vn c]))->(Tri.E W a c)->((nxt W (a,c)).2=b)->(∀ H',Same H H'->Q .non H')->gQ vs H Q Y
def zX(B:Fx):Hs "must_have_base" ["web","base"] 6 (gQ):=by
 refine qM B.X B.d12 bM λ f q A j y H v Q E r g h=>?_;obtain⟨w,z,W,a,b,c,rfl,l,T,n,p,o,k⟩:=h
 refine⟨_,(kH (qK (pf (fV B) g (p1 (pv 0))))
   (kH (pst 2 r (pf (bD B) g (p1 (pv 0))))
   (kH (xL (kZ kGD (pv 2) wJ (qO _)) (kJ fZ) qQ)
   (kJ (xL (bA (aZ (pf (kDY B) g (p2 (pv 0) (pv 1))))) (kJ fZ) qQ))))),?_⟩
 try dsimp only[qW]
 refine⟨_,rfl,w,W,rfl,l,T,λ u d=>?_⟩;refine⟨_,rfl,w,W,rfl,l.kept d,T,λ x i=>?_⟩;refine⟨_,rfl,rfl,_,rfl,jY ?_⟩;refine⟨_,rfl,_,rfl,w,z,W,a,b,c,rfl,(l.kept d).kept i,T,i _ _ (d _ _ n),p,o,λ s m=>⟨_,rfl,jY ?_⟩⟩;exact k s (d.trans (i.trans m))
end
section
def kHZ{r o:Bool}{K:az}{a b:av}{xs ys:List V}{g:TG}{bd:TB}{l:St->Hp->Prop}{c:St}{H:Hp}(Pv:Nat->St->Hp->Prop)(j:ys.length<xs.length)(h0:Pv 0 c H)
  (B:∀ i c H,i<=ys.length->Pv i c H->SqX K r H a xs/\SqX K o H b ys)
  (C:∀ i x y T c H,xs[i]?=some x->ys[i]?=some y->H T=none->Pv i c H->g (.ref T) c (upd H T (.tup [x,y])) λ σ2 H2=>bd (Pv (i+1)) σ2 H2) (G:∀ c H,Pv ys.length c H->l c H):uG (kTY r o K a b) g bd l c H:=by
 refine⟨λ i m c H=>m=ys.length-i/\i<=ys.length/\Pv i c H,⟨ys.length,by simp,iG _,h0⟩,?_⟩;rintro i m c H ⟨rfl,h,p⟩;obtain⟨d,f⟩:=B i c H h p;rcases iV i ys.length with n | n
 ·refine .inr ⟨⟨xs,ys,xs[i]'(by omega),ys[i],d,f,by simp[show i<xs.length by omega],by simp[n]⟩,Pv (i+1),λ v J q=>⟨ys.length-(i+1),by omega,rfl,by omega,q⟩,λ x J A=>?_⟩
  obtain⟨T,I,L,u,rfl,D,s,rfl⟩:=A;exact C i I L T c H (D xs d) (s ys f) u p
 ·obtain rfl:i=ys.length:=by omega
  exact .inl ⟨⟨xs,ys,xs[ys.length]'(by omega),d,f,by simp[j],rfl⟩,G c H p⟩
def wC(a:List Nat):Cu:=.list (a.map λ n:Nat=>iu (n:Int))
def rK(a:List Nat):Cu:=.tuple (a.map λ n:Nat=>iu (n:Int))
def pO(T:List Nat):lj (T.map λ n:Nat=>iu (n:Int))=true/\ph (T.map λ n:Nat=>iu (n:Int))<=1:=by
 induction T with
 | nil=>exact⟨rfl,by decide⟩
 | cons t T ih =>
  simp only[gh,lj,ph,mh,ql,ih.1];have:=ih.2;refine⟨rfl,?_⟩;omega
def bY(T:List Nat):kj (wC T)=true:=by
 obtain⟨h1,a⟩:=pO T;unfold wC kj;simp only[mh,ql,h1]
 first | (simp;omega) | (rw[iK];exact⟨rfl,decide_eq_true (by omega)⟩) | simp_all
def kEY(T:List Nat):kj (rK T)=true:=by
 obtain⟨h1,a⟩:=pO T;unfold rK kj;simp only[mh,ql,h1]
 first | (simp;omega) | (rw[iK];exact⟨rfl,decide_eq_true (by omega)⟩) | simp_all
def kJI(T:List Nat):ja (wC T) (wC T)=true:=by
 unfold wC;rw[ja];exact kNE T
def gL{H:Hp}{s:av}{T:List Nat}(h:H s=some (.lst (T.map vn))):Dt K H (wC T) (.ref s):=by
 unfold wC Dt;exact⟨s,_,rfl,SqL.of h,kHD T⟩
def kOA{H:Hp}{s:av}{T:List Nat}(h:H s=some (.tup (T.map vn))):Dt K H (rK T) (.ref s):=by
 unfold rK Dt;exact⟨s,_,rfl,SqT.of h,kHD T⟩
def rM{ms:List Nat}{n:Nat}(h:ms.Perm (cw n)){c:List Int}(p:c.Perm (ms.map ci))(s:c.Pairwise (·<=·)):c=(cw n).map ci:=by
 have p2:c.Perm ((cw n).map ci):=p.trans (h.map ci)
 have f:((cw n).map ci).Pairwise (·<=·):=by
  rw[km];refine AR.imp λ{a b} h=>?_;show(a:Int)<=b;omega
 exact p2.eq_of_pairwise (λ a b _ _ h1 d=>Int.le_antisymm h1 d) s f
def kED(T U:List Nat):ja (wC T) (wC U)=decide (T=U):=by
 have b:∀(T U:List Nat),iW (T.map λ n:Nat=>iu (n:Int)) (U.map λ n:Nat=>iu (n:Int))=decide (T=U):=λ T=>by
  induction T with
  | nil=>intro U;cases U<;>simp[iW]
  | cons t T ih =>
   intro U
   cases U with
   | nil=>simp[iW]
   | cons u U =>
    rw[gh,gh,iW,ih U,iL,iK,decide_eq_true_iff,decide_eq_true_iff]
    have e:ja (iu (t:Int)) (iu (u:Int))=true↔t=u:=by
     simp only[ja,beq_iff_eq];omega
    rw[e];constructor
    ·rintro⟨h1,a⟩
     rw[h1,a]
    ·intro h
     injection h with h1 a
     exact⟨h1,a⟩
 unfold wC;rw[ja];exact b T U
def kII(T U:List Nat):ja (rK T) (rK U)=decide (T=U):=by
 have b:∀(T U:List Nat),iW (T.map λ n:Nat=>iu (n:Int)) (U.map λ n:Nat=>iu (n:Int))=decide (T=U):=λ T=>by
  induction T with
  | nil=>intro U;cases U<;>simp[iW]
  | cons t T ih =>
   intro U
   cases U with
   | nil=>simp[iW]
   | cons u U =>
    rw[gh,gh,iW,ih U,iL,iK,decide_eq_true_iff,decide_eq_true_iff]
    have e:ja (iu (t:Int)) (iu (u:Int))=true↔t=u:=by
     simp only[ja,beq_iff_eq];omega
    rw[e];constructor
    ·rintro⟨h1,a⟩
     rw[h1,a]
    ·intro h
     injection h with h1 a
     exact⟨h1,a⟩
 unfold rK;rw[ja];exact b T U
inductive oR(vs:List V)(H:Hp)(Q:VK)(Y:XK):Prop
 | mk:∀(w z o:av)(W:Rows)(a b c:Nat)(ms:List Nat),(vs=[.ref w,.ref z,.ref o])->(WebAt H w W)->(W.length<=42)->(H z=some (.tup [vn a,vn b,vn c]))->(H o=some (.tup (ms.map vn)))->(ms.Perm (cw W.length))->(3<=W.length)->(∀ H',Same H H'->Q (.bl (decide (ms[0]?=some a/\ms[1]?=some b/\ms.getLast?=some c))) H')->oR vs H Q Y
def kBH(B:Fx):Hs "has_ends" ["web","base","thing"] 3 (oR):=by
 refine qM B.X B.d13 kAR λ f a2 A C s0 H vs Q E I r h=>?_;obtain⟨w,z,o,W,a,b,c,d,rfl,hW,a0,hz,L,hp,l3,k⟩:=h
 refine⟨_,(kH (xL (PW.pt (kMF (bA (aZ (pf (bR B) r (p2 (pv 2) (kR kP rfl (B.z B.y0) fc (p1 (pv 0))))))) (kDL (kZ (cZ r.units) (kR kEP rfl (B.z B.y7) pd (p1 (pv 2))) (kPN rfl rfl (B.z B.y12) rfl (B.z B.y3) (p1 (kR kP rfl (B.z B.y0) fc (p1 (pv 0))))) (qO _))))) (kJ (kU aP)) qQ)
   (kH (yB (pv 1) (jF (n:=3) rfl (kQ (pgn 3 I) (kQ (pgn 4 I) (kQ (pgn 5 I) qR)))))
   (kJ (kU (zW (kDT r.units) (qU (kE (pix qC (pv 2) kI) (kE (pix qC (pv 2) kI) (kE (pix qC (pv 2) (bP vF kI)) kW)))) (qU (kE (pv 3) (kE (pv 4) (kE (pv 5) kW)))) (qO _)))))),?_⟩
 try dsimp only[qW]
 have G:d.length=W.length:=by rw[hp.length_eq,iH]
 obtain⟨ts,h1,i,h3⟩:=id hW;refine⟨_,rfl,_,rfl,w,_,rfl,.inr (SqT.of h1),o,d,(by rw[ak,i,G];rfl),L,(by omega),λ q p=>⟨_,rfl,jY ?_⟩⟩;refine⟨_,rfl,o,d.map ci,rfl,.inr (SqT.of (by rw[p _ _ L,xI])),λ l a1 Y pm sr=>?_⟩;rw[rM hp pm sr];have S:=kC Y (.lst (((cw W.length).map ci).map V.int));have hl:=kA (H:=q) (a:=l) (o:=.lst (((cw W.length).map ci).map V.int));refine⟨_,rfl,w,_,rfl,.inr (SqT.of (S _ _ (p _ _ h1))),W.length,(by rw[ak,i]),(by omega),λ M n2=>?_⟩;rw[if_neg dw];have O:=kC n2 (.lst (aQ W.length));have u:=kA (H:=upd q l (.lst (((cw W.length).map ci).map V.int))) (a:=M) (o:=.lst (aQ W.length));have D:=p.trans (S.trans O);refine⟨wC (cw W.length),wC (cw W.length),gL (by rw[xI];exact O _ _ hl),gL u,bY _,bY _,_,rfl,?_⟩;rw[kJI];refine jY ?_;have s:=D _ _ hz;have g:=D _ _ L;generalize upd (upd q l (.lst (((cw W.length).map ci).map V.int))) M (.lst (aQ W.length))=H2 at *;refine⟨_,rfl,z,_,rfl,SqT.of s,rfl,_,_,rfl,_,_,rfl,_,_,rfl,rfl,?_⟩;obtain⟨x,T⟩ : ∃ x,d[0]?=some x:=⟨_,ae (by omega)⟩;obtain⟨y,N⟩ : ∃ y,d[1]?=some y:=⟨_,ae (by omega)⟩;have J:d≠[]:=λ z=>by rw[z]at G;simp at G;omega
 obtain⟨v,m⟩ : ∃ v,d.getLast?=some v:=⟨_,fj J⟩;have e0:atI (d.map vn) 0=some (vn x):=qS (j:=0) (by rw[bg,T];rfl);have e1:atI (d.map vn) 1=some (vn y):=qS (j:=1) (by rw[bg,N];rfl)
 have Z:atI (d.map vn) (-1)=some (vn v):=by
  have em:d=d.dropLast++[v]:=by
   have m:=m;rw[fj J]at m;rw[<-bq m];exact(eN J).symm
  rw[em,du];exact yI _ _
 refine⟨_,rfl,o,_,_,_,rfl,rfl,SqT.of g,e0,_,rfl,o,_,_,_,rfl,rfl,SqT.of g,e1,_,rfl,_,rfl,o,_,_,_,rfl,rfl,SqT.of g,Z,yS3,λ u1 m1=>?_⟩;have j1:=kC m1 (.tup [vn x,vn y,vn v]);refine⟨_,rfl,_,rfl,_,rfl,yS3,λ u2 m2=>?_⟩;have U:=kC m2 (.tup [vn a,vn b,vn c]);refine⟨rK [x,y,v],rK [a,b,c],kOA (U _ _ kA),kOA kA,kEY _,kEY _,?_⟩;rw[if_neg (by decide),kII]
 have ee:decide ([x,y,v]=[a,b,c])=decide (d[0]?=some a/\d[1]?=some b/\d.getLast?=some c):=by
  rw[iL,decide_eq_true_iff,decide_eq_true_iff,T,N,m];simp
 rw[ee];exact k _ (D.trans (j1.trans U))
theorem kCO{l r:List Nat}{x y:Nat}(h:Adj l x y):Adj (l++r) x y:=by
 match l,h with
 | a::b::l,h =>
  rcases h with z | z
  ·exact .inl z
  ·exact .inr (kCO (l:=b::l) z)
def kKF{l r:List Nat}{x y:Nat}(h:Adj r x y):Adj (l++r) x y:=by
 induction l with
 | nil=>exact h
 | cons a l ih =>
  cases e:l++r with
  | nil=>rw[e]at ih;exact absurd ih id
  | cons b s =>
   rw[ji,e];rw[e]at ih;exact EF ih
def kQR(xs:List V)(b c:Nat)(h:b<=xs.length):xS xs (some (b:Int)) (some (c:Int))=(xs.drop b).take (c-b):=by
 unfold xS;rw[HT.sIx_nat,HT.sIx_nat,kq h,List.take_eq_take_iff,iP];omega
inductive oN(vs:List V)(H:Hp)(Q:VK)(Y:XK):Prop
 | mk:∀(w tp ah:av)(W:Rows)(top ahead:List Nat)(pl:Nat),(vs=[.ref w,.ref tp,.ref ah,vn pl])->(WebAt H w W)->(Tr W)->(H tp=some (.lst (top.map vn)))->(H ah=some (.tup (ahead.map vn)))->(top.length<=42)->(ahead.length<=42)->(pl<W.length)->(top.Nodup)->((∀ x y,Adj top x y->Tri.E W x y))->((stF W top ahead pl=none->∀ H',Same H H'->Q .non H'))->(∀(st:List Nat),stF W top ahead pl=some st->∀(s:av)(H':Hp),Same H H'->H s=none->H' s=some (.lst (st.map vn))->Q (.ref s) H')->oN vs H Q Y
def dB(B:Fx):Hs "stretch_under" ["web","top","ahead","place"] 4 (oN):=by
 refine qM B.X B.d14 cV λ f b4 A ap s0 H vs Q E nN hr h=>?_;obtain⟨w,tp,ah,W,top,g,m,rfl,hW,T,as,ab,l1,l2,lp,b3,hA,S,k⟩:=h
 refine⟨_,(kH (pst 4 nN (yC (Nc:=["q","web","place"]) (js:=[none,some 0,some 3]) rfl rfl (bB (pv 2)) (CS.of rfl rfl) rfl (λ C u n fp s=>(pgc 0)) (λ C u n fp s D L=>(zK (kZ (show OpR _ _ (rIn K false) from zG) (pv 0) (pix (show IxR _ (kAW K) from qC) (pv 1) (pv 2)) rfl) (jP (pv 0))))))
   (kH (bO (i:=5) (Nc:=["q","below"]) (js:=[none,some 4]) rfl rfl nN rfl (yw rfl) (xU (pv 1)) (CS.of rfl rfl) rfl (λ C u n fp s=>(pgc 0)) (λ C u n fp s D L=>(zK (kZ (show OpR _ _ (rIn K false) from zG) (pv 0) (pv 1) rfl) (jP (pv 0)))))
   (kH (xL (PW.pt (kMF (kZ kMP (kR kP rfl (B.z B.y0) fc (p1 (pv 5))) kI (qO _)) (kDL (kZ mF (kR kP rfl (B.z B.y0) fc (p1 (pv 5))) (kR kP rfl (B.z B.y0) fc (p1 (pv 4))) (qO _))))) (kJ (kU wJ)) qQ)
   (kH (pst 6 nN (jQ md me zM (pv 1) (p1 (pix kY (pv 5) kI))))
   (kH (xL (kZ (cZ hr.units) (qD yO (pv 1) (qF (pv 6)) (qF (kX jG (pv 6) (kR kP rfl (B.z B.y0) fc (p1 (pv 5)))))) (pv 5) (qO _)) (kJ (kU wJ)) qQ)
   (kH (xL (bA (aZ (kR (rA rfl) rfl (B.z B.y11) Cs (p1 (yC (Nc:=["x","y","web","place"]) (js:=[none,none,some 0,some 3]) rfl rfl (kPM true true rfl (B.z B.y13) (p2 (pv 5) (qD yO (pv 5) (qF kI) jA))) (CS.of rfl rfl) rfl (λ C u n fp s=>(show PG _ _ (nX K 2 _) from jF rfl (kQ (zV (i:=0) (show Ba (α:=Str) ["x","y","web","place"] by decide +kernel) rfl (yw rfl)) (kQ (zV (i:=1) (show Ba (α:=Str) ["x","y","web","place"] by decide +kernel) rfl (yw rfl)) qR)))) (λ C u n fp s D L=>(qT (jP (pf (bS B) hr (kE (pv 2) (kE (pv 0) (kE (pv 1) (kE (pv 3) kW))))))))))))) (kJ (kU wJ)) qQ)
   (kJ (kU (pv 5))))))))),?_⟩
 try dsimp only[qW]
 have a9:W.getD m []=W[m]:=by rw[aj,ae lp];rfl
 unfold stF at S k;dsimp only at S k;rw[a9]at S k;obtain⟨ts,h1,b2,h3⟩:=hW.at;obtain⟨b',e1,e2⟩:=h3 m W[m] (ae lp);refine⟨_,rfl,ah,rfl,⟨_,SqT.of ab⟩,λ D nD=>?_⟩
 refine zH (xs:=g.map vn) (λ i G H2=>∃(I:Option V),G=[I,some (.ref w),some (vn m)]/\Same H H2/\H2 D=some (.lst (((g.take i).filter λ q=>decide (q∈W[m])).map vn)))
  ⟨none,rfl,kC nD _,kA⟩ ?_ ?_ ?_
 ·rintro i G H2 _ ⟨I,rfl,U,_⟩
  exact SqT.of (U _ _ ab)
 ·rintro i x G H2 hx ⟨I,rfl,U,hD⟩
  rw[bg]at hx;obtain⟨q,a4,rfl⟩:=cq.mp hx;have tk:g.take (i+1)=g.take i++[q]:=by rw[iq,a4];rfl
  refine⟨_,rfl,_,rfl,_,rfl,w,_,_,_,rfl,rfl,SqT.of (U _ _ h1),e1,b',_,rfl,.inr (SqT.of (U _ _ e2)),rfl,yT _,_,rfl,?_⟩;rw[wD,tk,tz];have lf:=ni (λ q=>decide (q∈W[m])) (g.take i);rw[de]at lf;refine kJM (λ c=>?_) (λ c=>?_)
  ·refine⟨_,rfl,_,hD,(by rw[ak];exact kS (by omega)),?_⟩
   refine⟨_,rfl,qI nD U,?_⟩;rw[wj (p:=λ q=>decide (q∈W[m])) (show decide (q∈W[m])=true from c),du];exact kA
  ·rw[wk (p:=λ q=>decide (q∈W[m])) (show ¬ decide (q∈W[m])=true from c),Bb,iU]
   exact⟨_,rfl,U,hD⟩
 rintro G H2 ⟨I,rfl,U,hD⟩;rw[ak,iJ]at hD;have O:=U _ _ as;have lb:=ni (λ q=>decide (q∈W[m])) g;generalize g.filter (λ q=>decide (q∈W[m]))=v at *;refine⟨_,rfl,tp,rfl,⟨_,SqL.of O⟩,λ D2 a3=>?_⟩
 refine jJ (xs:=top.map vn) (λ i G H3=>∃(I:Option V),G=[I,some (.ref D)]/\Same H2 H3/\H3 D2=some (.lst (((top.take i).filter λ q=>decide (q∈v)).map vn)))
  ⟨none,rfl,kC a3 _,kA⟩ ?_ ?_ ?_
 ·rintro i G H3 _ ⟨I,rfl,Y,_⟩
  exact SqL.of (Y _ _ O)
 ·rintro i x G H3 hx ⟨I,rfl,Y,l⟩
  rw[bg]at hx;obtain⟨q,a4,rfl⟩:=cq.mp hx;have tk:top.take (i+1)=top.take i++[q]:=by rw[iq,a4];rfl
  refine⟨_,rfl,_,rfl,D,_,rfl,.inl (SqL.of (Y _ _ hD)),rfl,yT _,_,rfl,?_⟩;rw[wD,tk,tz];have lf:=ni (λ q=>decide (q∈v)) (top.take i);rw[de]at lf;refine kJM (λ c=>?_) (λ c=>?_)
  ·refine⟨_,rfl,_,l,(by rw[ak];exact kS (by omega)),?_⟩
   refine⟨_,rfl,qI a3 Y,?_⟩;rw[wj (p:=λ q=>decide (q∈v)) (show decide (q∈v)=true from c),du];exact kA
  ·rw[wk (p:=λ q=>decide (q∈v)) (show ¬ decide (q∈v)=true from c),Bb,iU]
   exact⟨_,rfl,Y,l⟩
 rintro G H3 ⟨I,rfl,Y,l⟩;rw[ak,iJ]at l;have b1:=ni (λ q=>decide (q∈v)) top;have a8:∀ q∈top.filter (λ q=>decide (q∈v)),q∈top:=λ q hq=>(iX.mp hq).1;generalize top.filter (λ q=>decide (q∈v))=st at *;have M:=U.trans Y;have ax:=Y _ _ hD;have N:=Y _ _ O;have W3:=hW.kept M;have lst:((st.map vn).length:Int)=st.length:=by rw[ak]
 have b0:((v.map vn).length:Int)=v.length:=by rw[ak]
 have ls:st.length<=42:=by omega
 refine⟨_,rfl,D2,_,rfl,.inl (SqL.of l),_,_,rfl,rfl,_,rfl,?_⟩;rw[lst];by_cases c1:st.length<2
 ·rw[decide_eq_true (show((st.length:Int)<2) by omega)]
  exact zT (S (by rw[if_pos (.inl c1)]) _ M)
 rw[decide_eq_false (show ¬ ((st.length:Int)<2) by omega)];refine jY ⟨_,rfl,D2,_,rfl,.inl (SqL.of l),_,rfl,D,_,rfl,.inl (SqL.of ax),rfl,_,rfl,?_⟩;rw[lst,b0];by_cases c2:st.length=v.length
 case neg =>
  rw[decide_eq_false (show ¬ (V.int (st.length:Int)=V.int (v.length:Int)) from λ z=>c2 (by have:=V.int.inj z;omega))];exact zT (S (by rw[if_pos (.inr c2)]) _ M)
 rw[c2,decide_eq_true (rfl:V.int ((v.length:Nat):Int)=V.int ((v.length:Nat):Int))];refine jY ?_;rw[if_neg (by omega)]at S k
 obtain⟨d,rest,a5⟩ : ∃ a r,st=a::r:=by
  match st,c1 with
  | a::r,_=>exact⟨a,r,rfl⟩
  | [],c1=>exact absurd (show([]:List Nat).length<2 by decide) c1
 have aw:st.headD 0=d:=by rw[a5];rfl
 have a7:atI (st.map vn) 0=some (vn d):=by rw[a5];exact qS (j:=0) rfl
 have m0:d∈top:=a8 d (by rw[a5];exact eW ..);have il:=gj m0;refine⟨_,rfl,.inl ⟨rfl,_,SqL.of N⟩,_,rfl,D2,_,_,_,rfl,rfl,SqL.of l,a7,tp,top.map ci,d,top.idxOf d,rfl,rfl,(by rw[N,xI]),qN m0,?_⟩;refine⟨_,rfl,_,rfl,_,rfl,_,rfl,_,rfl,D2,_,rfl,.inl (SqL.of l),_,_,rfl,rfl,_,rfl,tp,_,rfl,SqL.of N,λ p np=>?_⟩;rw[aw]at S k
 have af:xS (top.map vn) (some ((top.idxOf d:Nat):Int)) (some (((top.idxOf d:Nat):Int)+(((st.map vn).length:Nat):Int)))=((top.drop (top.idxOf d)).take st.length).map vn:=by
  rw[lst,show(((top.idxOf d:Nat):Int)+(st.length:Int))=((top.idxOf d+st.length:Nat):Int) by omega,kQR _ _ _ (by rw[ak];omega),xj,zj,show top.idxOf d+st.length-top.idxOf d=st.length by omega]
 rw[af];have gp:=kC np (.lst (((top.drop (top.idxOf d)).take st.length).map vn));have hp:=kA (H:=H3) (a:=p) (o:=.lst (((top.drop (top.idxOf d)).take st.length).map vn));refine⟨_,rfl,wC ((top.drop (top.idxOf d)).take st.length),wC st,gL hp,gL (gp _ _ l),bY _,bY _,_,rfl,?_⟩;rw[kED];by_cases c3:(top.drop (top.idxOf d)).take st.length=st
 case neg =>
  rw[decide_eq_false c3];exact zT (S (by rw[if_pos c3]) _ (M.trans gp))
 rw[decide_eq_true c3];rw[if_neg (λ z=>z c3)]at S k;refine jY ?_;have a2:=gp _ _ l;have W4:=W3.kept gp;have am:=M.trans gp;have al:H D2=none:=U.free a3;generalize upd H3 p (.lst (((top.drop (top.idxOf d)).take st.length).map vn))=H4 at *
 have hE:∀ t∈st.zip st.tail,Tri.E W t.1 t.2:=λ t ht=>by
  obtain⟨x,y⟩:=t;have ad:=bJ ht
  have et:top=top.take (top.idxOf d)++(st++(top.drop (top.idxOf d)).drop st.length):=by
   have e2:top.drop (top.idxOf d)=st++(top.drop (top.idxOf d)).drop st.length:=by
    conv=>lhs;rw[<-gk st.length (top.drop (top.idxOf d)),c3]
   rw[<-e2,gk]
  refine hA x y ?_;rw[et];have a1:Adj (st++(top.drop (top.idxOf d)).drop st.length) x y:=kCO ad;exact kKF a1
 have tl:(st.map vn).tail=st.tail.map vn:=by rw[List.map_tail]
 have c1:xS (st.map vn) (some 1) none=st.tail.map vn:=by
  rw[show(1:Int)=((1:Nat):Int) from rfl,yU _ (by rw[ak];omega),List.drop_one,tl]
 refine⟨_,rfl,_,rfl,_,rfl,D2,_,rfl,SqL.of a2,λ D3 aq=>?_⟩;rw[c1];have g5:=kC aq (.lst (st.tail.map vn));have a0:=kA (H:=H4) (a:=D3) (o:=.lst (st.tail.map vn));have J:=g5 _ _ a2;have W5:=W4.kept g5;have ag:=am.trans g5;generalize upd H4 D3 (.lst (st.tail.map vn))=H5 at *;refine⟨D2,D3,rfl,⟨_,SqL.of J⟩,⟨_,SqL.of a0⟩,λ D4 ac=>?_⟩
 refine kHZ (xs:=st.map vn) (ys:=st.tail.map vn) (λ i G H6=>∃(I x1:Option V),G=[I,x1,some (.ref w),some (vn m)]/\Same H5 H6/\H6 D4=some (.lst ((((st.zip st.tail).take i).map λ t=>decide ((nxt W t).2=m)).map V.bl))) (by rw[ak,ak,List.length_tail];omega)
  ⟨none,none,rfl,kC ac _,kA⟩ ?_ ?_ ?_
 ·rintro i G H6 _ ⟨I,x1,rfl,Z,_⟩
  exact⟨SqL.of (Z _ _ J),SqL.of (Z _ _ a0)⟩
 ·rintro i x y T' G H6 hx hy nT ⟨I,x1,rfl,Z,a6⟩
  rw[bg]at hx hy;obtain⟨a,ea,rfl⟩:=cq.mp hx;obtain⟨b,eb,rfl⟩:=cq.mp hy
  have mz:(a,b)∈st.zip st.tail:=by
   refine di (i:=i) ?_;rw[nj];exact⟨ea,eb⟩
  have li:=(ao.mp ea).1;have gT:=kC nT (.tup [vn a,vn b]);have hT:=kA (H:=H6) (a:=T') (o:=.tup [vn a,vn b]);have W7:=(W5.kept Z).kept gT;have g7:=Z.trans gT;have aa:=gT _ _ a6;generalize upd H6 T' (.tup [vn a,vn b])=H7 at *;refine⟨T',_,rfl,SqT.of hT,rfl,_,_,rfl,_,_,rfl,rfl,?_⟩;refine⟨_,rfl,_,rfl,_,rfl,_,rfl,w,W,a,b,m,rfl,W7,T,hE _ mz,λ H8 g8=>?_⟩
  have an:(st.zip st.tail).take (i+1)=(st.zip st.tail).take i++[(a,b)]:=by
   have:(st.zip st.tail)[i]?=some (a,b):=by rw[nj];exact⟨ea,eb⟩
   rw[iq,this]
   rfl
  refine⟨_,g8 _ _ aa,(by rw[ak,ak,de];exact kS (by omega)),?_⟩;refine⟨_,_,rfl,qI ac (g7.trans g8),?_⟩;rw[an,du,du];exact kA
 ·rintro G H6 ⟨I,x1,rfl,Z,a6⟩
  refine⟨D4,_,rfl,SqL.of a6,?_⟩
  have ez:(st.zip st.tail).take (st.tail.map vn).length=st.zip st.tail:=by
   refine ky ?_;rw[Af,ak];omega
  rw[ez]
  have ea:((st.zip st.tail).map λ t=>decide ((nxt W t).2=m)).all id=(st.zip st.tail).all λ t=>decide ((nxt W t).2=m):=by
   rw[GC]
   rfl
  rw[ea]
  cases cb:(st.zip st.tail).all λ t=>decide ((nxt W t).2=m) with
  | false=>exact⟨_,rfl,zT (S (by rw[cb];rfl) _ (ag.trans Z))⟩
  | true =>
   refine⟨_,rfl,jY ⟨_,rfl,?_⟩⟩;exact k st (by rw[cb];rfl) D2 H6 (ag.trans Z) al (Z _ _ J)
end
section
structure LsAt(H:Hp)(t:av)(ta:List av)(Os:List (List Nat)):Prop where
 top:H t=some (.lst (ta.map V.ref))
 len:ta.length=Os.length
 row:∀(i:Nat)(a:av)(Z:List Nat),ta[i]?=some a->Os[i]?=some Z->H a=some (.lst (Z.map vn))
def LsAt.but{H H':Hp}{t:av}{c:List av}{Os:List (List Nat)}(x:LsAt H t c Os)(g:∀ b o,b=t\/b∈c->H b=some o->H' b=some o):LsAt H' t c Os :=
 ⟨g _ _ (.inl rfl) x.top,x.len,λ i a Z d f=>g _ _ (.inr (di d)) (x.row i a Z d f)⟩
def LsAt.kept{H H':Hp}{t:av}{a:List av}{Os:List (List Nat)}(x:LsAt H t a Os)(g:Same H H'):LsAt H' t a Os:=x.but λ b o _=>g b o
def LsAt.app{H:Hp}{t a:av}{c:List av}{Os:List (List Nat)}{Z:List Nat}(x:LsAt H t c Os)(h:H a=some (.lst (Z.map vn)))(j:t∉c)(m:a≠t):LsAt (upd H t (.lst (c.map V.ref++[.ref a]))) t (c++[a]) (Os++[Z]):=by
 refine⟨by rw[du];exact kA,by simp[x.len],λ i b Y d f=>?_⟩
 have l:b≠t:=λ z=>by
  have:=di d;rw[z]at this;rcases cf.mp this with q | q
  ·exact j q
  ·exact m (bz.mp q).symm
 rw[kM l];rcases iV i c.length with g | g
 ·rw[bb g]at d
  rw[bb (by have:=x.len;omega)]at f;exact x.row i b Y d f
 ·obtain rfl:i=c.length:=by
   have:=(ao.mp d).1;simp at this;omega
  rw[dq]at d;rw[x.len,dq]at f;cases d
  cases f
  exact h
inductive kFF(vs:List V)(H:Hp)(Q:VK)(Y:XK):Prop
 | mk:∀(tp sp:av)(top st:List Nat)(pl:Nat),(vs=[.ref tp,.ref sp,vn pl])->(H tp=some (.lst (top.map vn)))->(H sp=some (.lst (st.map vn)))->(st≠[])->((∀ x∈st,x∈top))->(top.length<=42)->(∀(s:av)(H':Hp),Same H H'->H s=none->H' s=some (.lst ((poF top st pl).map vn))->Q (.ref s) H')->kFF vs H Q Y
def kBC(B:Fx):Hs "put_over" ["top","stretch","place"] 1 (kFF):=by
 refine qM B.X B.d15 kAL λ f a0 A s s0 H vs Q E O hr h=>?_;obtain⟨l,M,top,st,o,rfl,c,d,v,sub,U,k⟩:=h
 refine⟨_,(kH (pst 3 O (jQ md me zM (pv 0) (p1 (pix kY (pv 1) kI))))
   (kH (pst 4 O (jQ md me zM (pv 0) (p1 (pix kY (pv 1) (bP vF kI)))))
   (kJ (kU (kX dA (kX dA (qD yO (pv 0) jA (qF (kX jG (pv 3) kI))) (jD (p1 (pv 2)))) (qD yO (pv 0) (qF (pv 4)) jA)))))),?_⟩
 try dsimp only[qW]
 obtain⟨a,r,x⟩ : ∃ a r,st=a::r:=by
  match st,v with
  | a::r,_=>exact⟨a,r,rfl⟩
 obtain⟨D,b,u⟩ : ∃ D b,st=D++[b]:=⟨st.dropLast,st.getLast v,(eN v).symm⟩;have n:st.headD 0=a:=by rw[x];rfl
 have q:st.getLastD 0=b:=by rw[u,kh,jj];rfl
 have N:a∈top:=sub a (by rw[x];exact eW ..);have C:b∈top:=sub b (by rw[u];simp);have g:atI (st.map vn) 0=some (vn a):=by rw[x];exact qS (j:=0) rfl
 have i:atI (st.map vn) (-1)=some (vn b):=by rw[u,du];exact yI _ _
 have ia:=gj N;have ib:=gj C;refine⟨_,rfl,.inl ⟨rfl,_,SqL.of c⟩,_,rfl,M,_,_,_,rfl,rfl,SqL.of d,g,l,top.map ci,a,top.idxOf a,rfl,rfl,(by rw[c,xI]),qN N,?_⟩;refine⟨_,rfl,.inl ⟨rfl,_,SqL.of c⟩,_,rfl,_,rfl,M,_,_,_,rfl,rfl,SqL.of d,i,l,top.map ci,b,top.idxOf b,rfl,rfl,(by rw[c,xI]),qN C,?_⟩
 have T:xS (top.map vn) none (some (((top.idxOf a:Nat):Int)+1))=(top.take (top.idxOf a+1)).map vn:=by
  rw[show(((top.idxOf a:Nat):Int)+1)=((top.idxOf a+1:Nat):Int) by omega,vO _ (by rw[ak];omega),<-xj]
 have c2:xS (top.map vn) (some ((top.idxOf b:Nat):Int)) none=(top.drop (top.idxOf b)).map vn:=by
  rw[yU _ (by rw[ak];omega),<-zj]
 refine⟨_,rfl,_,rfl,_,_,rfl,rfl,_,rfl,l,_,rfl,SqL.of c,λ p1 m1=>?_⟩;rw[T];have L:=kC m1 (.lst ((top.take (top.idxOf a+1)).map vn));refine⟨_,rfl,yS1,λ p2 Z=>?_⟩;have p:=kC Z (.lst [vn o]);refine⟨p1,p2,_,_,rfl,rfl,p _ _ kA,kA,(by simp only[ak,bu,iQ,yh,de];exact fv (kS (by omega))),λ Y m3=>?_⟩;have y:=kC m3 (.lst ((top.take (top.idxOf a+1)).map vn++[vn o]));have m:=y _ _ (p _ _ (L _ _ c));refine⟨_,rfl,_,rfl,_,rfl,l,_,rfl,SqL.of m,λ p4 m4=>?_⟩;rw[c2];have G:=kC m4 (.lst ((top.drop (top.idxOf b)).map vn));refine⟨Y,p4,_,_,rfl,rfl,G _ _ kA,kA,(by simp only[ak,bu,iQ,yh,de,iP];exact fv (kS (by omega))),λ p5 I=>?_⟩;have S:=kC I (.lst ((top.take (top.idxOf a+1)).map vn++[vn o]++(top.drop (top.idxOf b)).map vn));have J:=L.trans (p.trans (y.trans G));refine k p5 _ (J.trans S) (J.free I) ?_;rw[kA];unfold poF;rw[n,q];simp
def LsAt.tail{H:Hp}{t:av}{b:List av}{Os:List (List Nat)}{Z:List Nat}(x:LsAt H t b (Os++[Z])):∃ ta' a,b=ta'++[a]/\H a=some (.lst (Z.map vn)):=by
 have l:=x.len;rw[bu,fk]at l;have c:b≠[]:=λ z=>by rw[z]at l;cases l
 refine⟨b.dropLast,b.getLast c,(eN c).symm,x.row Os.length _ Z ?_ ?_⟩
 ·rw[show Os.length=b.length-1 by omega,<-og,fj c]
 ·rw[dq]
structure Gw(H:Hp)(w z o:av)(W:Rows)(ms:List Nat)(a b c:Nat):Prop where
 web:WebAt H w W
 tr:Tr W
 base:H z=some (.tup [vn a,vn b,vn c])
 ord:H o=some (.tup (ms.map vn))
 perm:ms.Perm (cw W.length)
 three:3<=W.length
 ab:Tri.E W a b
theorem Gw.kept{H H':Hp}{w z o:av}{W:Rows}{ms:List Nat}{a b c:Nat}(h:Gw H w z o W ms a b c)(g:Same H H'):Gw H' w z o W ms a b c :=
 {h with web:=h.web.kept g,base:=g _ _ h.base,ord:=g _ _ h.ord}
inductive kFI(vs:List V)(H:Hp)(Q:VK)(Y:XK):Prop
 | mk:∀(w z o:av)(W:Rows)(ms:List Nat)(a b c:Nat),(vs=[.ref w,.ref z,.ref o])->(Gw H w z o W ms a b c)->((jX W a b c ms=none->∀ H',Same H H'->Q .non H'))->(∀(Fs Ts:List (List Nat)),jX W a b c ms=some (Fs,Ts)->∀(t f g:av)(fa ga:List av)(H':Hp),Same H H'->H' t=some (.tup [.ref f,.ref g])->LsAt H' f fa Fs->LsAt H' g ga Ts->Q (.ref t) H')->kFI vs H Q Y
def kGG(B:Fx):Hs "laid" ["web","base","thing"] 5 (kFI):=by
 refine qM B.X B.d16 kPD λ f c3 A b6 s0 H vs Q E nN hr h=>?_;obtain⟨w,z,o,W,d,a,b,c,rfl,G,kn,k⟩:=h
 refine⟨_,(kH (xL (bA (aZ (pf (kBH B) hr (kE (pv 0) (kE (pv 1) (kE (pv 2) kW)))))) (kJ (kU wJ)) qQ)
   (kH (pst 3 nN (jD kW))
   (kH (pst 4 nN (jD (p1 (jM cM rfl (B.z B.y12) Ca (p1 (qD sl_tup (pv 2) jA (qF kI)))))))
   (kH (nV (kIW rfl (B.z B.y3) (p2 kI (kR kP rfl (B.z B.y0) fc (p1 (pv 2))))) (pgn 5 nN) (kH (pst 6 nN (pf (dB B) hr (kE (pv 0) (kE (pix kY (pv 4) (bP vF kI)) (kE (qD sl_tup (pv 2) jA (qF (pv 5))) (kE (pix qC (pv 2) (pv 5)) kW))))))
   (kH (xL (kZ kMQ (pv 6) wJ (qO _)) (kJ (kU wJ)) qQ)
   (kH (qK (jQ jo jq xE (pv 3) (p1 (pv 6))))
   (kJ (qK (jQ jo jq xE (pv 4) (p1 (pf (kBC B) hr (kE (pix kY (pv 4) (bP vF kI)) (kE (pv 6) (kE (pix qC (pv 2) (pv 5)) kW))))))))))))
   (kJ (kU (qU (p2 (pv 3) (pv 4))))))))),?_⟩
 try dsimp only[qW]
 have lm:d.length=W.length:=by rw[G.perm.length_eq,iH]
 have b8:d.Nodup:=G.perm.nodup_iff.mpr tw;have c1:=G.tr.le;have l3:=G.three;refine⟨_,rfl,_,rfl,_,rfl,w,z,o,W,a,b,c,d,rfl,G.web,G.tr.le,G.base,G.ord,G.perm,G.three,λ H1 g1=>⟨_,rfl,?_⟩⟩;by_cases l:d[0]?=some a/\d[1]?=some b/\d.getLast?=some c
 case neg =>
  rw[decide_eq_false l];exact zT (kn (by unfold jX;rw[if_neg l]) _ g1)
 rw[decide_eq_true l];refine jY ?_;have el:jX W a b c d=goF W d (d.length-2):=by unfold jX;rw[if_pos l]
 rw[el]at kn k;have G1:=G.kept g1;refine⟨yS0,λ f nf=>?_⟩;have gf:=kC nf (.lst []);have hf:=kA (H:=H1) (a:=f) (o:=.lst []);have G2:=G1.kept gf;have g2:=g1.trans gf;have ba:H f=none:=g1.free nf;generalize upd H1 f (.lst [])=H2 at *;refine⟨_,rfl,_,rfl,o,_,rfl,SqT.of G2.ord,?_,λ p1 n1=>?_⟩
 ·rintro⟨_,z⟩
  rw[show(2:Int)=((2:Nat):Int) from rfl,kLV (by rw[ak];omega),ak]at z;omega
 have c2:xS (d.map vn) none (some 2)=(d.take 2).map vn:=by rw[show(2:Int)=((2:Nat):Int) from rfl,vO _ (by rw[ak];omega),<-xj]
 rw[c2];have h1:=kA (H:=H2) (a:=p1) (o:=.tup ((d.take 2).map vn));have I:=kC n1 (.tup ((d.take 2).map vn));refine⟨p1,_,rfl,.inr (SqT.of h1),λ D m1=>⟨yS1,λ g ng=>?_⟩⟩;have gq:=kC m1 (.lst ((d.take 2).map vn));have gg:=kC ng (.lst [.ref D]);have hq:=gg _ _ (kA (H:=upd H2 p1 (.tup ((d.take 2).map vn))) (a:=D) (o:=.lst ((d.take 2).map vn)));have hg:=kA (H:=upd (upd H2 p1 (.tup ((d.take 2).map vn))) D (.lst ((d.take 2).map vn))) (a:=g) (o:=.lst [.ref D]);have a0:=I.trans (gq.trans gg);have nq:H2 D=none:=I.free m1;have am:H2 g=none:=(I.trans gq).free ng;have b5:=a0 _ _ hf;have G3:=G2.kept a0;have g3:=g2.trans a0;have bi:H g=none:=g2.free am;have fg:f≠g:=kO hf am;have qf:D≠f:=(kO hf nq).symm
 have qg:D≠g:=λ z=>by
  rw[<-z]at ng;rw[kA]at ng;cases ng
 generalize upd (upd (upd H2 p1 (.tup ((d.take 2).map vn))) D (.lst ((d.take 2).map vn))) g (.lst [.ref D])=H3 at *
 have t2:d.take 2=[a,b]:=by
  obtain⟨q0,bn,_⟩:=l
  match d,q0,bn with
  | x::y::d,e1,e2 =>
   have e1:x=a:=by simpa using e1
   have e2:y=b:=by simpa using e2
   rw[e1,e2]
   rfl
 have a4:Top W (d.take 2) (d.take 2):=by
  rw[t2];refine⟨?_,λ x J=>J,λ x y ad=>?_⟩
  ·have:=(G.tr.nb.e G.ab).2.2
   simp[this.symm]
  ·rcases ad with⟨rfl,rfl⟩ | z
   ·exact G.ab
   ·exact absurd z id
 refine⟨_,rfl,o,_,rfl,.inr (SqT.of G3.ord),2,_,rfl,⟨by omega,by omega,(by rw[ak];omega),(by rw[ak];omega)⟩,?_⟩
 refine yJ (lo:=2) (n:=((((d.map vn).length:Nat):Int)-2).toNat) (λ i σ M=>∃(x5 x6:Option V)(C L:List av)(fs m:List (List Nat)),σ=[some (.ref w),some (.ref z),some (.ref o),some (.ref f),some (.ref g),x5,x6]/\Same H M/\goF W d i=some (fs,m)/\fs.length=i/\m.length=i+1/\Top W (d.take (i+2)) (m.getLastD [])/\LsAt M f C fs/\LsAt M g L m/\(∀ x∈C,x≠f/\x≠g)/\∀ x∈L,x≠f/\x≠g)
  ⟨none,none,[],[D],[],[d.take 2],rfl,g3,rfl,rfl,rfl,a4,⟨b5,rfl,λ i b Z e=>by simp at e⟩,(by
   exact⟨hg,rfl,λ i b Z e1 e2=>by
    match i with
    | 0=>cases e1;cases e2;exact hq
    | i+1=>simp at e1⟩),(λ x J=>by cases J),(λ x J=>by rw[bz.mp J];exact⟨qf,qg⟩)⟩ ?_ ?_
 ·rintro i σ M hi ⟨x5,x6,C,L,fs,m,rfl,g4,go,Y,r,tp,lf,lg,af,ag⟩
  rw[ak]at hi;have hi:i+2<W.length:=by omega
  have G4:=G.kept g4;have al:m≠[]:=λ z=>by rw[z]at r;cases r
  have bo:m=m.dropLast++[m.getLastD []]:=by
   rw[kh,fj al];exact(eN al).symm
  obtain⟨bv,gl,a5,b0⟩:=LsAt.tail (by rw[<-bo];exact lg);have N:M g=some (.lst (bv.map V.ref++[.ref gl])):=by rw[lg.top,a5,du];rfl
  have bl:d.getD (i+2) 0∉d.take (i+2):=by
   rw[aj,ae (by omega)];intro h;obtain⟨j,hj,e⟩:=eV.mp h;rw[de]at hj;rw[AM]at e;have:=(AA b8).mp e;omega
  have b7:d.take (i+1+2)=d.take (i+2)++[d.getD (i+2) 0]:=by
   rw[show i+1+2=i+2+1 by omega,iq,aj,ae (show i+2<d.length by omega)]
   rfl
  have O:(m.getLastD []).length<=42:=by
   have:=tp.len;rw[de]at this;omega
  have b1:d.getD (i+2) 0<W.length:=by
   rw[aj,ae (by omega)];exact jr.mp (G.perm.mem_iff.mp (ie _))
  have a2:(2+(i:Int))=((i+2:Nat):Int):=by omega
  have cA:xS (d.map vn) none (some (2+(i:Int)))=(d.take (i+2)).map vn:=by rw[a2,vO _ (by rw[ak];omega),<-xj]
  have ah:atI (d.map vn) (2+(i:Int))=some (vn (d.getD (i+2) 0)):=by
   rw[a2];refine qS ?_;rw[bg,aj,ae (by omega)]
   rfl
  refine⟨_,rfl,_,rfl,_,rfl,g,_,_,_,rfl,rfl,SqL.of N,yI _ _,_,rfl,_,rfl,_,rfl,o,_,rfl,SqT.of G4.ord,?_,λ p np=>?_⟩
  ·rintro⟨_,z⟩
   rw[a2,kLV (by rw[ak];omega),ak]at z;omega
  rw[cA];have I:=kC np (.tup ((d.take (i+2)).map vn));have hp:=kA (H:=M) (a:=p) (o:=.tup ((d.take (i+2)).map vn));have G5:=G4.kept I;have S:=I _ _ b0;have aq:=lf.kept I;have ac:=lg.kept I;have a1:=I _ _ N;have g5:=g4.trans I;generalize upd M p (.tup ((d.take (i+2)).map vn))=H5 at *;refine⟨_,rfl,_,rfl,o,_,_,_,rfl,rfl,SqT.of G5.ord,ah,w,gl,p,W,m.getLastD [],d.take (i+2),d.getD (i+2) 0,rfl,G5.web,G.tr,S,hp,O,(by rw[de];omega),b1,tp.nd,tp.path,(λ no H6 U=>?_),λ st a9 s H6 U ns hs=>?_⟩
  ·refine⟨_,rfl,rfl,_,rfl,zT (kn ?_ _ (g5.trans U))⟩
   have:=wW (uX go no) (d.length-2-(i+1));rwa[show i+1+(d.length-2-(i+1))=d.length-2 by omega]at this
  obtain⟨bw,sub,ne,_⟩:=tp.step G.tr.nb.sym bl a9;have aw:=vK go a9;have bt:=g5.trans U;have a3:=aq.kept U;have b4:=ac.kept U;have sf:s≠f:=(kO aq.top ns).symm;have sg:s≠g:=(kO ac.top ns).symm;have b2:C.length=i:=by rw[lf.len,Y]
  have b3:L.length=i+1:=by rw[lg.len,r]
  refine⟨_,rfl,rfl,_,rfl,jY ?_⟩;refine⟨_,rfl,.inl ⟨rfl,_,SqL.of a3.top⟩,_,rfl,f,_,_,rfl,rfl,a3.top,(by rw[ak,b2];exact kS (by omega)),?_⟩;have as:=a3.app hs (λ z=>(af f z).1 rfl) sf;have other:∀ b u,b≠f->H6 b=some u->upd H6 f (.lst (C.map V.ref++[.ref s])) b=some u:=λ b u n e=>by rw[kM n];exact e
  have a8:LsAt (upd H6 f (.lst (C.map V.ref++[.ref s]))) g L m:=b4.but λ b u T e=>other b u (by
   rcases T with rfl | T
   ·exact fg.symm
   ·exact(ag b T).1) e
  have bm:=other s _ sf hs;have a6:Same H (upd H6 f (.lst (C.map V.ref++[.ref s]))):=qI ba bt;have b9:gl≠f:=(ag gl (by rw[a5];simp)).1;have aa:=other gl _ b9 (U _ _ S);have v:=other g _ fg.symm (U _ _ a1);generalize upd H6 f (.lst (C.map V.ref++[.ref s]))=H7 at *;have G7:=G.kept a6;refine⟨_,rfl,.inl ⟨rfl,_,SqL.of v⟩,_,rfl,_,rfl,g,_,_,_,rfl,rfl,SqL.of v,yI _ _,_,rfl,_,rfl,_,rfl,o,_,_,_,rfl,rfl,SqT.of G7.ord,ah,gl,s,m.getLastD [],st,d.getD (i+2) 0,rfl,aa,bm,ne,sub,O,λ s' H8 g8 ap bc=>?_⟩;have ax:=as.kept g8;have a7:=a8.kept g8;have bx:s'≠f:=(kO as.top ap).symm;have an:s'≠g:=(kO a8.top ap).symm;refine⟨g,_,_,rfl,rfl,a7.top,(by rw[ak,b3];exact kS (by omega)),?_⟩;have br:=a7.app bc (λ z=>(ag g z).2 rfl) an;refine⟨_,_,C++[s],L++[s'],_,_,rfl,qI bi (a6.trans g8),aw,(by simp[Y]),(by simp[r]),(by rw[jT,b7];exact bw),ax.but λ b u T e=>?_,br,λ x J=>?_,λ x J=>?_⟩
  ·have:b≠g:=by
    rcases T with rfl | T
    ·exact fg
    ·rcases cf.mp T with q | q
     ·exact(af b q).2
     ·rw[bz.mp q];exact sg
   rw[kM this];exact e
  ·rcases cf.mp J with q | q
   ·exact af x q
   ·rw[bz.mp q];exact⟨sf,sg⟩
  ·rcases cf.mp J with q | q
   ·exact ag x q
   ·rw[bz.mp q];exact⟨bx,an⟩
 ·rintro σ M ⟨x5,x6,C,L,fs,m,rfl,g4,go,Y,r,tp,lf,lg,af,ag⟩
  have en:((((d.map vn).length:Nat):Int)-2).toNat=d.length-2:=by rw[ak];omega
  rw[en]at go;refine⟨_,rfl,_,rfl,yS2,λ t nt=>?_⟩;have gt:=kC nt (.tup [.ref f,.ref g]);exact k fs m go t f g C L _ (g4.trans gt) kA (lf.kept gt) (lg.kept gt)
end
section
inductive kFJ(vs:List V)(H:Hp)(Q:VK)(Y:XK):Prop
 | mk:∀(w z o:av)(W:Rows)(ms:List Nat)(a b c:Nat)(Fs Ts:List (List Nat)),(vs=[.ref w,.ref z,.ref o])->(Gw H w z o W ms a b c)->((Tri.E W a c/\(nxt W (a,c)).2=b))->(jX W a b c ms=some (Fs,Ts))->(∀(t f g:av)(fa ga:List av)(H':Hp),Same H H'->H' t=some (.tup [.ref f,.ref g])->LsAt H' f fa Fs->LsAt H' g ga Ts->Q (.ref t) H')->kFJ vs H Q Y
def vW(B:Fx):Hs "must_be_laid" ["web","base","order"] 7 (kFJ):=by
 refine qM B.X B.d17 fR λ f D A j S H O Q E L n h=>?_;obtain⟨w,z,o,W,s,a,b,c,x,v,rfl,G,d,p,k⟩:=h
 refine⟨_,(kH (qK (pf (zX B) n (p2 (pv 0) (pv 1))))
   (kH (pst 3 L (pf (kGG B) n (kE (pv 0) (kE (pv 1) (kE (pv 2) kW)))))
   (kH (xL (kZ kMQ (pv 3) wJ (qO _)) (kJ fZ) qQ)
   (kJ (kU (pv 3)))))),?_⟩
 try dsimp only[qW]
 refine⟨_,rfl,_,rfl,w,z,W,a,b,c,rfl,G.web,G.tr,G.base,d.1,d.2,λ N m=>?_⟩;refine⟨_,rfl,_,rfl,_,rfl,w,z,o,W,s,a,b,c,rfl,G.kept m,(λ q=>by rw[p]at q;cases q),λ l i e t f g J C I u r y M=>?_⟩;rw[p]at e;obtain⟨rfl,rfl⟩ : x=l/\v=i:=by injection e with e;injection e with e1 e2;exact⟨e1,e2⟩
 refine⟨_,rfl,rfl,_,rfl,jY ?_⟩;exact⟨_,rfl,k t f g J C I (m.trans u) r y M⟩
end
section
def SpK(S:List (Nat×Int×Int))(ts:List av):List (Key×V):=(S.zip ts).map λ q=>(gw (q.1.1:Int),V.ref q.2)
structure SpAt(H:Hp)(d:av)(S:List (Nat×Int×Int))(ts:List av):Prop where
 len:ts.length=S.length
 row:∀(i:Nat)(t:av)(s:Nat×Int×Int),ts[i]?=some t->S[i]?=some s->H t=some (.tup [.int s.2.1,.int s.2.2])
def kVT(H:Hp)(d:av)(U:Nat->Option (List Nat)):Prop:=∃ a,H d=some (.dK a)/\∀ p l,U p=some l->∃ b,jO a (gw (p:Int))=some (.ref b)/\H b=some (.lst (l.map vn))
theorem rL{c:Nat}:∀{l:List Nat},(∀ x∈l,x<=c)->l.sum<=c*l.length
 | [],_=>iG _
 | x::l,h=>by
  have h1:=h x (eW ..);have b:=rL (l:=l) λ y a=>h y (dh _ a);rw[Ah,iQ,Nat.mul_add];omega
inductive kFH(vs:List V)(H:Hp)(Q:VK)(Y:XK):Prop
 | mk:∀(d h q:av)(S:List (Nat×Int×Int))(ts:List av)(U:Nat->Option (List Nat))(ps:List Nat)(by':Int),(vs=[.ref d,.ref h,.ref q,.int by'])->(H d=some (.dK (SpK S ts)))->(SpAt H d S ts)->(kVT H h U)->(H q=some (.lst (ps.map vn)))->((∀ p∈ps,(U p).isSome))->(ps.length<=42)->((∀ p l,U p=some l->l.length<=42))->(S.length<=42)->((S.map (·.1)).Nodup)->(∀(d':av)(ts':List av)(H':Hp),(∀ b o,b≠d->H b=some o->H' b=some o)->(∃ o,H' d=some (.frz o (.dK (SpK S ts))))->H d'=none->H' d'=some (.dK (SpK (mvS S (ps.flatMap λ p=>(U p).getD []) by') ts'))->SpAt H' d' (mvS S (ps.flatMap λ p=>(U p).getD []) by') ts'->Q (.ref d') H')->kFH vs H Q Y
def uR(B:Fx):Hs "moved_right" ["spots","hung","places","by"] 1 (kFH):=by
 refine qM B.X B.d19 hJ λ f b0 A al s0 H vs Q E nN hr h=>?_;obtain⟨d,h,q,S,O,U,ps,m,rfl,hd,sp,hu,hq,g,aw,ul,ax,nd,k⟩:=h
 refine⟨_,(kH (pst 4 nN (sK (Nc:=["p","q","hung"]) (js:=[none,none,some 1]) rfl rfl (xU (pv 2)) (CS.of rfl rfl) rfl (λ C I n fp r=>(pgc 0)) (λ C I n fp r=>(show PI _ _ _ (kNL K _) from(xU (bQ (wV hr) (pv 2) (pv 0) (λ _ _=>rfl))))) (λ C I n fp r=>(pgc 1)) (λ C I n fp r D L=>(qT (jP (pv 1))))))
   (kJ (kU (kGC (Nc:=["p","x","y","gone","by"]) (js:=[none,none,none,some 4,some 3]) rfl rfl (kAY (pv 0)) (CS.of rfl rfl) rfl (λ C I n fp r=>(show PG _ _ (nX K 2 _) from jF rfl (kQ (zV (i:=0) (show Ba (α:=Str) ["p","x","y","gone","by"] by decide +kernel) rfl (yw rfl)) (kQ (show PG _ _ (nX K 2 _) from jF rfl (kQ (zV (i:=1) (show Ba (α:=Str) ["p","x","y","gone","by"] by decide +kernel) rfl (yw rfl)) (kQ (zV (i:=2) (show Ba (α:=Str) ["p","x","y","gone","by"] by decide +kernel) rfl (yw rfl)) qR))) qR)))) (λ C I n fp r D L=>(qT (gD (wV hr) (pv 0) (kAZ (kZ (show OpR _ _ (rIn K false) from zG) (pv 0) (pv 3) rfl) (qU (p2 (kX jG (pv 1) (pv 4)) (pv 2))) (qU (p2 (pv 1) (pv 2))))))))))),?_⟩
 try dsimp only[qW]
 obtain⟨hk,h1,h2⟩:=id hu;refine⟨_,rfl,q,rfl,⟨_,SqL.of hq⟩,λ D nD=>?_⟩;refine jJ (xs:=ps.map vn) (λ i N Y=>∃(x0 M:Option V),N=[x0,M,some (.ref h)]/\Same H Y/\Y D=some (.lst (((ps.take i).flatMap λ p=>(U p).getD []).map vn))) ⟨none,none,rfl,kC nD _,kA⟩ ?_ ?_ ?_
 ·rintro i N Y _ ⟨x0,M,rfl,g2,_⟩
  exact SqL.of (g2 _ _ hq)
 ·rintro i v N Y hv ⟨x0,M,rfl,g2,hD⟩
  rw[bg]at hv;obtain⟨p,ep,rfl⟩:=cq.mp hv;obtain⟨l,el⟩:=yy.mp (g p (di ep));obtain⟨b,vb,hb⟩:=h2 p l el;have hi:=(ao.mp ep).1
  have pl:((ps.take i).flatMap λ p=>(U p).getD []).length<=42*i:=by
   rw[vw];refine ju (rL (c:=42) λ x hx=>?_) (by rw[ak,de];exact DK 42 (Nat.min_le_left _ _));obtain⟨y,_,rfl⟩:=iR.mp hx
   cases e:U y with
   | none=>simp
   | some l'=>exact ul y l' e
  have ll:=ul p l el
  have dg:DGet Y h (vn p) (some (.ref b)):=by
   have:=DGet.k (k:=gw (p:Int)) (g2 _ _ h1);rw[vb]at this;exact this
  refine⟨_,rfl,_,rfl,h,_,rfl,dg,b,rfl,⟨_,SqL.of (g2 _ _ hb)⟩,?_⟩
  have tk:((ps.take (i+1)).flatMap λ p=>(U p).getD [])=((ps.take i).flatMap λ p=>(U p).getD [])++l:=by
   rw[iq,ep,rh,oz,xg,el]
   rfl
  rw[tk];generalize((ps.take i).flatMap λ p=>(U p).getD [])=G0 at *;refine jJ (xs:=l.map vn) (λ j N H3=>∃(M:Option V),N=[some (vn p),M,some (.ref h)]/\Same H H3/\H3 D=some (.lst ((G0++l.take j).map vn))) ⟨_,rfl,g2,by rw[BG,iU];exact hD⟩ ?_ ?_ ?_
  ·rintro j N H3 _ ⟨M,rfl,g3,_⟩
   exact SqL.of (g3 _ _ hb)
  ·rintro j v N H3 hv ⟨M,rfl,g3,a5⟩
   rw[bg]at hv;obtain⟨y,ey,rfl⟩:=cq.mp hv;have hj:=(ao.mp ey).1;refine⟨_,rfl,_,a5,(by rw[ak,bu,de];exact xJ (by omega)),?_⟩;refine⟨_,rfl,qI nD g3,?_⟩;rw[iq,ey,rh,<-bp,du (l₂:=[y])];exact kA
  ·rintro N H3 ⟨M,rfl,g3,a5⟩
   rw[ak,iJ]at a5;exact⟨_,_,rfl,g3,a5⟩
 rintro N Y ⟨x0,M,rfl,g2,hD⟩;rw[ak,iJ]at hD;generalize(ps.flatMap λ p=>(U p).getD [])=G at *;have ab:=g2 _ _ hd;have Dd:D≠d:=λ z=>by rw[z,ab]at hD;cases hD
 refine⟨_,rfl,d,_,rfl,.inl ⟨ab,λ o=>?_⟩⟩;have ah:upd Y d (.frz o (.dK (SpK S O))) D=some (.lst (G.map vn)):=by rw[kM Dd];exact hD
 have f2:∀ b u,b≠d->H b=some u->upd Y d (.frz o (.dK (SpK S O))) b=some u:=λ b u nb e=>by rw[kM nb];exact g2 _ _ e
 have fz:=kA (H:=Y) (a:=d) (o:=.frz o (.dK (SpK S O)))
 have free:∀ b,upd Y d (.frz o (.dK (SpK S O))) b=none->H b=none:=λ b hb=>by
  cases e:H b with
  | none=>rfl
  | some u =>
   by_cases z:b=d
   ·rw[z,fz]at hb
    cases hb
   ·rw[f2 b u z e]at hb
    cases hb
 generalize upd Y d (.frz o (.dK (SpK S O)))=H3 at *;refine λ J a6=>?_;have lS:=sp.len;have lK:(SpK S O).length=S.length:=by unfold SpK;rw[ak,Af];omega
 refine gM (kvs:=SpK S O) (λ i N Z=>∃(x0 M x2:Option V)(g:List av),N=[x0,M,x2,some (.ref D),some (.int m)]/\Same H3 Z/\Z J=some (.dK (SpK (mvS (S.take i) G m) g))/\SpAt Z J (mvS (S.take i) G m) g) ⟨none,none,none,[],rfl,kC a6 _,kA,⟨rfl,λ i t s e=>by simp at e⟩⟩ ?_ ?_ ?_
 ·rintro i N Z _ ⟨x0,M,x2,g,rfl,g4,_⟩
  exact g4 _ _ fz
 ·rintro i kv T N Z a3 nT ⟨x0,M,x2,g,rfl,g4,hE,se⟩
  obtain⟨i1,i2,i3⟩ : ∃(i1:i<S.length)(i2:i<O.length),kv=(gw (S[i].1:Int),V.ref O[i]):=by
   have hi:=(ao.mp a3).1;rw[lK]at hi;refine⟨hi,by omega,?_⟩;unfold SpK at a3;rw[bg,nj (z:=(S[i],O[i]'(by omega))) |>.mpr ⟨ae _,ae _⟩]at a3;exact(bq a3).symm
  subst i3;have eS:=ae i1;have a7:=sp.row i _ _ (ae i2) eS;have td:O[i]≠d:=λ z=>by rw[z,hd]at a7;cases a7
  have ap:=g4 _ _ (f2 _ _ td a7)
  have a8:∀ kv∈SpK (mvS (S.take i) G m) g,kv.1≠gw (S[i].1:Int):=λ kv hk z=>by
   obtain⟨⟨a1,a2⟩,hz,rfl⟩:=iR.mp hk;have hm:=(zk hz).1;obtain⟨s',aq,e'⟩:=iR.mp hm;have e1:a1.1=s'.1:=by rw[<-e'];split<;>rfl
   have z':(gw (a1.1:Int):Key)=gw (S[i].1:Int):=z
   have e2:s'.1=S[i].1:=by
    have:=zy z';rw[<-e1];exact Int.ofNat.inj this
   obtain⟨j,hj,rfl⟩:=eV.mp aq
   have ag:j<i:=by
    have:=hj;rw[de]at this;omega
   rw[AM]at e2;have:=qh.mp nd j i (by rw[ak];omega) (by rw[ak];exact i1) ag;rw[yq,yq]at this;exact this e2
  have a0:mvS (S.take (i+1)) G m=mvS (S.take i) G m++[if S[i].1∈G then(S[i].1,S[i].2.1+m,S[i].2.2) else S[i]]:=by
   unfold mvS;rw[iq,eS,rh,du]
   rfl
  have lm:(mvS (S.take i) G m).length=i:=by unfold mvS;rw[ak,de];omega
  generalize S[i]=sv at *;obtain⟨p,x,y⟩:=sv;generalize O[i]=t at *;have gT:=kC nT (.tup [kV (gw (p:Int)),V.ref t]);have hT:=kA (H:=Z) (a:=T) (o:=.tup [kV (gw (p:Int)),V.ref t]);have am:=gT _ _ ap;have af:=gT _ _ hE;have g5:=g4.trans gT;have a4:SpAt (upd Z T (.tup [kV (gw (p:Int)),V.ref t])) J (mvS (S.take i) G m) g:=⟨se.len,λ j t' s' e1 e2=>gT _ _ (se.row j t' s' e1 e2)⟩;refine⟨T,_,rfl,SqT.of hT,rfl,_,_,rfl,_,_,rfl,t,_,rfl,SqT.of am,rfl,_,_,rfl,_,_,rfl,rfl,?_⟩;generalize upd Z T (.tup [kV (gw (p:Int)),V.ref t])=H5 at *;have an:=g5 _ _ ah;have d2:∀ b u,b≠J->∀ z,H5 b=some u->upd H5 J z b=some u:=λ b u nb z e=>by rw[kM nb];exact e
  have put:∀(q:av)(H6:Hp)(s':Nat×Int×Int),Same H5 H6->s'.1=p->H6 q=some (.tup [.int s'.2.1,.int s'.2.2])->mvS (S.take (i+1)) G m=mvS (S.take i) G m++[s'] ->
    DPut H6 J (kV (gw (p:Int))) (.ref q) (upd H6 J (.dK (xB (SpK (mvS (S.take i) G m) g) (gw (p:Int)) (.ref q))))/\Same H3 (upd H6 J (.dK (xB (SpK (mvS (S.take i) G m) g) (gw (p:Int)) (.ref q)))) /\
    upd H6 J (.dK (xB (SpK (mvS (S.take i) G m) g) (gw (p:Int)) (.ref q))) J=some (.dK (SpK (mvS (S.take (i+1)) G m) (g++[q])))/\SpAt (upd H6 J (.dK (xB (SpK (mvS (S.take i) G m) g) (gw (p:Int)) (.ref q)))) J (mvS (S.take (i+1)) G m) (g++[q]):=by
   intro q H6 s' g6 e1 ac ek;have aa:=g6 _ _ af;have lu:g.length=i:=by rw[a4.len,lm]
   have lz:(SpK (mvS (S.take i) G m) g).length=i:=by unfold SpK;rw[ak,Af,lm,lu];omega
   have a9:jO (SpK (mvS (S.take i) G m) g) (gw (p:Int))=none:=by
    unfold jO;rw[Cb,BY];intro kv hk;have:=a8 kv hk;simpa using this
   have ke:SpK (mvS (S.take (i+1)) G m) (g++[q])=xB (SpK (mvS (S.take i) G m) g) (gw (p:Int)) (.ref q):=by
    rw[kAX _ a9,ek];unfold SpK;rw[EX (by rw[lm,lu]),du,<-e1]
    rfl
   refine⟨DPut.k (k:=gw (p:Int)) aa (by rw[lz];exact kS (by omega)),qI a6 (g5.trans g6),by rw[kA,ke],⟨by rw[ek,bu,bu,a4.len];rfl,λ j t' as e2 e3=>?_⟩⟩
   have st:∀(b:av)(xs:List V),H6 b=some (.tup xs)->upd H6 J (.dK (xB (SpK (mvS (S.take i) G m) g) (gw (p:Int)) (.ref q))) b=some (.tup xs):=λ b xs e=>by
    rw[kM λ z=>by rw[z,aa]at e;cases e];exact e
   rw[ek]at e3;by_cases hj:j<g.length
   ·rw[bb hj]at e2
    rw[bb (by rw[lm];omega)]at e3;exact st _ _ (g6 _ _ (a4.row j t' as e2 e3))
   ·have ej:j=g.length:=by
     have:=(ao.mp e2).1;rw[bu,fk]at this;omega
    rw[ej,dq]at e2;rw[ej,a4.len,dq]at e3;cases e2
    cases e3
    exact st _ _ ac
  refine⟨rfl,_,rfl,_,rfl,_,rfl,D,_,rfl,.inl (SqL.of an),rfl,yT _,_,rfl,?_⟩;rw[show kV (gw (p:Int))=vn p from rfl,wD];by_cases c:p∈G
  ·rw[decide_eq_true c]
   rw[if_pos c]at a0;refine zT ⟨_,rfl,_,rfl,_,_,rfl,rfl,_,rfl,yS2,λ q nq=>?_⟩;obtain⟨p1,p2,p3,p4⟩:=put q _ (p,x+m,y) (kC nq _) rfl kA a0;exact⟨_,p1,_,_,_,_,rfl,p2,p3,p4⟩
  ·rw[decide_eq_false c]
   rw[if_neg c]at a0;refine jY ⟨_,rfl,_,rfl,yS2,λ q nq=>?_⟩;obtain⟨p1,p2,p3,p4⟩:=put q _ (p,x,y) (kC nq _) rfl kA a0;exact⟨_,p1,_,_,_,_,rfl,p2,p3,p4⟩
 ·rintro N Z ⟨x0,M,x2,g,rfl,g4,hE,se⟩
  rw[lK,iJ]at hE se;exact k J g Z (λ b u nb e=>g4 _ _ (f2 b u nb e)) ⟨o,g4 _ _ fz⟩ (free J a6) hE se
end
section
def SpAt.get{H:Hp}{d:av}{p:Nat}:∀{S:List (Nat×Int×Int)}{ts:List av},SpAt H d S ts->p∈S.map (·.1)->∃ t,jO (SpK S ts) (gw (p:Int))=some (.ref t)/\H t=some (.tup [.int (atS S p).1,.int (atS S p).2]):=by
 intro S
 induction S with
 | nil=>intro ts _ h;cases h
 | cons s S ih =>
  intro ts a h
  match ts,a with
  | [],a=>exact absurd a.len (by simp)
  | t::ts,a =>
   have f:SpK (s::S) (t::ts)=(gw (s.1:Int),V.ref t)::SpK S ts:=rfl;by_cases c:s.1=p
   ·refine⟨t,?_,?_⟩
    ·rw[f]
     exact jK (by show(gw (s.1:Int):Key)=_;rw[c])
    ·have b:atS (s::S) p=s.2:=by
      unfold atS;rw[Cc (by simpa using c)]
      rfl
     rw[b];exact a.row 0 t s rfl rfl
   ·have m:p∈S.map (·.1):=by
     rcases eK.mp h with q | q
     ·exact absurd q.symm c
     ·exact q
    obtain⟨g,h1,j⟩:=ih (ts:=ts) ⟨by have:=a.len;simpa using this,λ i t s l n=>a.row (i+1) t s (by simpa using l) (by simpa using n)⟩ m;refine⟨g,?_,?_⟩
    ·rw[f,jL (by
      show ¬ (gw (s.1:Int):Key)=gw (p:Int);intro q;have:=zy q;exact c (by omega))]
     exact h1
    ·have b:atS (s::S) p=atS S p:=by
      unfold atS;rw[Cd (by simpa using c)]
     rw[b];exact j
inductive kLH(vs:List V)(H:Hp)(Q:VK)(Y:XK):Prop
 | mk:∀(a b:av)(l r:Int×Int),(vs=[.ref a,.ref b])->(H a=some (.tup [.int l.1,.int l.2]))->(H b=some (.tup [.int r.1,.int r.2]))->(∀(t:av)(H':Hp),Same H H'->H t=none->H' t=some (.tup [.int (ovr l r).1,.int (ovr l r).2])->Q (.ref t) H')->kLH vs H Q Y
def sN(B:Fx):Hs "spot_over" ["left","right"] 1 (kLH):=by
 refine qM B.X B.d20 rO λ f m A d q H o Q E c p h=>?_;obtain⟨a,b,l,r,rfl,i,j,k⟩:=h
 refine⟨_,(kH (yB (pv 0) (jF (n:=2) rfl (kQ (pgn 2 c) (kQ (pgn 3 c) qR))))
   (kH (yB (pv 1) (jF (n:=2) rfl (kQ (pgn 4 c) (kQ (pgn 5 c) qR))))
   (kH (pst 6 c (kX kGF (kX zL (kX jG (kX zL (pv 4) (pv 2)) (pv 5)) (pv 3)) kI))
   (kJ (kU (qU (p2 (kX jG (pv 2) (pv 6)) (kX jG (pv 3) (pv 6))))))))),?_⟩
 try dsimp only[qW]
 refine⟨_,rfl,a,_,rfl,SqT.of i,rfl,_,_,rfl,_,_,rfl,rfl,?_⟩;refine⟨_,rfl,b,_,rfl,SqT.of j,rfl,_,_,rfl,_,_,rfl,rfl,?_⟩;refine⟨_,rfl,_,rfl,_,_,rfl,rfl,_,rfl,_,_,rfl,rfl,_,rfl,_,_,rfl,rfl,_,_,rfl,rfl,⟨by decide,by decide⟩,?_⟩;refine⟨_,rfl,_,rfl,_,_,rfl,rfl,_,rfl,_,rfl,_,_,rfl,rfl,yS2,λ t g=>?_⟩;exact k t _ (kC g _) g kA
end
section
def RdS(H:Hp)(d:av)(S:List (Nat×Int×Int)):Prop:=∃ a,Rd H d (.dK (SpK S a))/\SpAt H d S a
def SpAt.to{H H':Hp}{d d':av}{S:List (Nat×Int×Int)}{ts:List av}(x:SpAt H d S ts)(g:∀ b xs,H b=some (.tup xs)->H' b=some (.tup xs)):SpAt H' d' S ts:=⟨x.len,λ i t s c a=>g _ _ (x.row i t s c a)⟩
def RdS.but{H H':Hp}{d x:av}{S:List (Nat×Int×Int)}(r:RdS H d S)(g:∀ b o,b≠x->H b=some o->H' b=some o)(nx:d≠x)(f:∀ xs,H x≠some (.tup xs)):RdS H' d S:=by
 obtain⟨c,a,h⟩:=r;refine⟨c,?_,h.to λ b xs e=>g _ _ (λ z=>f xs (z ▸ e)) e⟩;rcases a with e | ⟨o,e⟩
 ·exact .inl (g _ _ nx e)
 ·exact .inr ⟨o,g _ _ nx e⟩
def RdS.kept{H H':Hp}{d:av}{S:List (Nat×Int×Int)}(r:RdS H d S)(g:Same H H'):RdS H' d S:=by
 obtain⟨c,a,f⟩:=r;refine⟨c,?_,f.to λ b h e=>g _ _ e⟩;rcases a with e | ⟨o,e⟩
 ·exact .inl (g _ _ e)
 ·exact .inr ⟨o,g _ _ e⟩
theorem RdS.frz{H H':Hp}{d x:av}{S:List (Nat×Int×Int)}{kvs:List (Key×V)}(r:RdS H d S)(a:H x=some (.dK kvs))(g:∀ b o,b≠x->H b=some o->H' b=some o)(f:∃ o,H' x=some (.frz o (.dK kvs))):RdS H' d S:=by
 by_cases c:d=x
 ·subst c
  obtain⟨h,j,m⟩:=r
  have l:kvs=SpK S h:=by
   rcases j with e | ⟨o,e⟩
   ·rw[a]at e
    injection e with e
    injection e
   ·rw[a]at e
    cases e
  obtain⟨o,f⟩:=f;refine⟨h,.inr ⟨o,by rw[f,l]⟩,m.to λ b i e=>g _ _ (λ z=>by rw[z,a]at e;cases e) e⟩
 ·exact r.but g c λ i e=>by rw[a]at e;cases e
def SpAt.put{H:Hp}{D q:av}{S:List (Nat×Int×Int)}{ts:List av}{p:Nat}{x y:Int}(m:H D=some (.dK (SpK S ts)))(sp:SpAt H D S ts)(r:p∉S.map (·.1))(l:S.length<=42)(A:H q=some (.tup [.int x,.int y])) :
  DPut H D (vn p) (.ref q) (upd H D (.dK (SpK (S++[(p,x,y)]) (ts++[q]))))/\SpAt (upd H D (.dK (SpK (S++[(p,x,y)]) (ts++[q])))) D (S++[(p,x,y)]) (ts++[q]):=by
 have v:(SpK S ts).length=S.length:=by unfold SpK;rw[ak,Af,sp.len];omega
 have a:jO (SpK S ts) (gw (p:Int))=none:=by
  unfold jO;rw[Cb,BY];intro I u;obtain⟨⟨f,G⟩,o,rfl⟩:=iR.mp u;have n:=(zk o).1;have B:f.1≠p:=λ z=>r (z ▸ iR.mpr ⟨f,n,rfl⟩);have:(gw (f.1:Int):Key)≠gw (p:Int):=λ z=>B (by have:=zy z;omega);simpa using this
 have C:SpK (S++[(p,x,y)]) (ts++[q])=xB (SpK S ts) (gw (p:Int)) (.ref q):=by
  rw[kAX _ a];unfold SpK;rw[EX sp.len.symm,du]
  rfl
 refine⟨?_,⟨by rw[bu,bu,sp.len];rfl,λ j t s c d=>?_⟩⟩
 ·rw[C]
  exact DPut.k (k:=gw (p:Int)) m (by rw[v];exact kS (by omega))
 ·have st:∀(b:av)(g:List V),H b=some (.tup g)->upd H D (.dK (SpK (S++[(p,x,y)]) (ts++[q]))) b=some (.tup g):=λ b g e=>by
   rw[kM λ z=>by rw[z,m]at e;cases e];exact e
  by_cases i:j<ts.length
  ·rw[bb i]at c
   rw[bb (by rw[<-sp.len];exact i)]at d;exact st _ _ (sp.row j t s c d)
  ·have h:j=ts.length:=by
    have:=(ao.mp c).1;rw[bu,fk]at this;omega
   rw[h,dq]at c;rw[h,sp.len,dq]at d;cases c
   cases d
   exact st _ _ A
def kPJ(kvs:List (Key×V))(k:Key)(v:V):(xB kvs k v).length<=kvs.length+1:=by
 unfold xB
 split<;>simp
def HuN(H:Hp)(d:av)(U:Nat->Option (List Nat))(n:Nat):Prop:=∃ a,H d=some (.dK a)/\a.length<=n/\∀ p l,U p=some l->∃ b,jO a (gw (p:Int))=some (.ref b)/\H b=some (.lst (l.map vn))
def HuN.at{H:Hp}{d:av}{U:Nat->Option (List Nat)}{n:Nat}(h:HuN H d U n):kVT H d U:=by
 obtain⟨a,e,_,k⟩:=h;exact⟨a,e,k⟩
def HuN.but{H H':Hp}{h x:av}{U:Nat->Option (List Nat)}{n:Nat}(r:HuN H h U n)(g:∀ b o,b≠x->H b=some o->H' b=some o)(nx:h≠x)(d:∀ l:List Nat,H x≠some (.lst (l.map vn))):HuN H' h U n:=by
 obtain⟨a,e,le,k⟩:=r;refine⟨a,g _ _ nx e,le,λ p l q=>?_⟩;obtain⟨b,h1,c⟩:=k p l q;exact⟨b,h1,g _ _ (λ z=>d l (z ▸ c)) c⟩
def HuN.kept{H H':Hp}{h:av}{U:Nat->Option (List Nat)}{n:Nat}(r:HuN H h U n)(g:Same H H'):HuN H' h U n:=by
 obtain⟨a,e,le,k⟩:=r;refine⟨a,g _ _ e,le,λ p l q=>?_⟩;obtain⟨b,h1,c⟩:=k p l q;exact⟨b,h1,g _ _ c⟩
def HuN.put{H:Hp}{h b:av}{U U':Nat->Option (List Nat)}{n v:Nat}{l:List Nat}(r:HuN H h U n)(y:n<=42)(u:H b=some (.lst (l.map vn)))(i:∀ p l',U' p=some l'->(p=v/\l'=l)\/(p≠v/\U p=some l')):∃ H',DPut H h (vn v) (.ref b) H'/\(∀ c o,c≠h->H c=some o->H' c=some o)/\(∀ c,c≠h->H' c=H c)/\HuN H' h U' (n+1):=by
 obtain⟨a,e,le,k⟩:=r
 have st:∀(x:av)(d:List V),H x=some (.lst d)->upd H h (.dK (xB a (gw (v:Int)) (.ref b))) x=some (.lst d):=λ x d g=>by
  rw[kM λ z=>by rw[z,e]at g;cases g];exact g
 refine⟨_,DPut.k (k:=gw (v:Int)) e (kS (by omega)),λ c o f m=>by rw[kM f];exact m,λ c f=>kM f,_,kA,?_,λ p l' q=>?_⟩
 ·have:=kPJ a (gw (v:Int)) (V.ref b)
  omega
 rw[gN];by_cases c:p=v
 ·rw[if_pos (by rw[c])]
  rcases i p l' q with⟨_,rfl⟩ | q
  ·exact⟨b,rfl,st _ _ u⟩
  ·exact absurd c q.1
 ·rw[if_neg (λ q=>c (by have:=zy q;omega))]
  rcases i p l' q with⟨z,_⟩ | q
  ·exact absurd z c
  ·obtain⟨j,h1,s⟩:=k p l' q.2
   exact⟨j,h1,st _ _ s⟩
def uW(ms:List Nat)(i:Nat)(V:Nat->List Nat):Nat->Option (List Nat):=λ p=>if p∈ms.take (i+2) then some (V p) else none
def uJ{H X a:Hp}{x:av}(s:Same H X)(g:∀ b o,b≠x->X b=some o->a b=some o)(f:H x=none):Same H a:=λ b o e=>g b o (λ z=>by rw[z,f]at e;cases e) (s b o e)
def kOH{f l:Nat}{M:List Nat}:xS ((f::M++[l]).map vn) (some 1) (some (-1))=M.map vn:=by
 unfold xS
 have b:HT.sIx ((f::M++[l]).map vn).length 0 (some 1)=1:=by
  rw[show(1:Int)=((1:Nat):Int) from rfl,HT.sIx_nat];simp
 have a:HT.sIx ((f::M++[l]).map vn).length ((f::M++[l]).map vn).length (some (-1))=M.length+1:=by
  show(if(-1:Int)<0 then((-1:Int)+((((f::M++[l]).map vn).length:Nat):Int)).toNat else min (-1:Int).toNat (((f::M++[l]).map vn).length))=_;rw[if_pos (by decide)];simp only[ak,bu,iQ,yh];omega
 rw[b,a];simp
def xX{ms:List Nat}{i:Nat}{V:Nat->List Nat}{p:Nat}(h:p∈ms.take (i+2)):uW ms i V p=some (V p):=by
 unfold uW;rw[if_pos h]
def fI{ms:List Nat}{i:Nat}{V:Nat->List Nat}{M:List Nat}(h:∀ p∈M,p∈ms.take (i+2)):(M.flatMap λ p=>(uW ms i V p).getD [])=M.flatMap V:=by
 show(M.map _).flatten=(M.map _).flatten
 congr 1
 refine qk λ p hp=>?_;rw[xX (h p hp)]
 rfl
structure GOk(ms:List Nat)(Fs Ts:List (List Nat)):Prop where
 lm:ms.length=Fs.length+2
 lt:Ts.length=Fs.length+1
 le:ms.length<=42
 nd:ms.Nodup
 step:∀ i F T,Fs[i]?=some F->Ts[i]?=some T->∃ f M l,F=f::M++[l]/\F.length<=42/\(∀ x∈F,x∈T)/\(∀ x∈T,x∈ms.take (i+2))/\T.Nodup
 inv:∀ i,i<=Fs.length->GI ms Ts i (gF ms Fs Ts i).1 (gF ms Fs Ts i).2
structure GrI(H0 H:Hp)(sp hu td:av)(ds:List av)(ms:List Nat)(Fs Ts:List (List Nat))(i:Nat):Prop where
 same:Same H0 H
 fs:H0 sp=none
 fh:H0 hu=none
 ft:H0 td=none
 told:H td=some (.lst (ds.map V.ref))
 len:ds.length=i+1
 last:ds[i]?=some sp
 cur:∃ ts,H sp=some (.dK (SpK (gF ms Fs Ts i).1 ts))/\SpAt H sp (gF ms Fs Ts i).1 ts
 old:∀ j d,ds[j]?=some d->RdS H d (gF ms Fs Ts j).1
 hung:HuN H hu (uW ms i (gF ms Fs Ts i).2) (i+2)
 hn:hu∉ds
 fd:∀ d∈ds,H0 d=none
theorem GrI.kept{h H H':Hp}{sp c l:av}{m:List av}{ms:List Nat}{f a:List (List Nat)}{i:Nat}(J:GrI h H sp c l m ms f a i)(g:Same H H'):GrI h H' sp c l m ms f a i:=by
 obtain⟨n,e,o⟩:=J.cur;exact⟨J.same.trans g,J.fs,J.fh,J.ft,g _ _ J.told,J.len,J.last,⟨n,g _ _ e,o.to λ b p e=>g _ _ e⟩,λ j d e=>(J.old j d e).kept g,J.hung.kept g,J.hn,J.fd⟩
inductive kAH(vs:List V)(H:Hp)(Q:VK)(Y:XK):Prop
 | mk:∀(o f g:av)(fa ga:List av)(ms:List Nat)(Fs Ts:List (List Nat)),(vs=[.ref o,.ref f,.ref g])->(H o=some (.tup (ms.map vn)))->(LsAt H f fa Fs)->(LsAt H g ga Ts)->(GOk ms Fs Ts)->(∀(td:av)(ds:List av)(H':Hp),Same H H'->H' td=some (.lst (ds.map V.ref))->ds.length=Fs.length+1->(∀ j d,ds[j]?=some d->RdS H' d (gF ms Fs Ts j).1)->(∀ d∈ds,H d=none)->Q (.ref td) H')->kAH vs H Q Y
def fH(B:Fx):Hs "grids_by" ["order","found","tops"] 3 (kAH):=by
 refine qM B.X B.d21 kAS λ f en A e4 s0 H vs Q E nN hr h=>?_;obtain⟨o,f,g,fa,ga,m,Fs,Ts,rfl,ho,hf,hg,ok,k⟩:=h
 refine⟨_,(kH (kPK (i:=3) (Nc:=["p"]) (js:=[none]) rfl rfl nN rfl (yw rfl) (bB (qD yN (pv 0) jA (qF kI))) (CS.of rfl rfl) rfl (λ C a1 a0 fp Y=>(pgc 0)) (λ C a1 a0 fp Y D L=>(qT (gD (wV hr) (pv 0) (qU (p2 kI kI))))))
   (kH (pst 4 nN (kGC (Nc:=["p"]) (js:=[none]) rfl rfl (bB (qD yN (pv 0) jA (qF kI))) (CS.of rfl rfl) rfl (λ C a1 a0 fp Y=>(pgc 0)) (λ C a1 a0 fp Y D L=>(qT (gD (wV hr) (pv 0) (jD (p1 (pv 0))))))))
   (kH (pst 5 nN (jD (p1 (pv 3))))
   (kH (nV (kPL false true true rfl (B.z B.y13) (kE (qD yN (pv 0) (qF kI) jA) (kE (pv 1) (kE (pv 2) kW)))) (jF (n:=3) rfl (kQ (pgn 6 nN) (kQ (pgn 7 nN) (kQ (pgn 8 nN) qR)))) (kH (pst 9 nN (pix kY (pv 7) (bP vF kI)))
   (kH (pst 3 nN (pf (uR B) hr (kE (pv 3) (kE (pv 4) (kE (qD yO (pv 7) (qF kI) (qF (bP vF kI))) (kE kI kW))))))
   (kH (pst 3 nN (pf (uR B) hr (kE (pv 3) (kE (pv 4) (kE (qD yO (pv 8) (qF (jQ md me zM (pv 8) (p1 (pv 9)))) jA) (kE kI kW))))))
   (kH (kFZ (wV hr) (pv 3) (pv 6) (pf (sN B) hr (p2 (bQ (wV hr) (pv 3) (pix kY (pv 7) kI) (λ _ _=>rfl)) (bQ (wV hr) (pv 3) (pv 9) (λ _ _=>rfl)))) rfl)
   (kH (kFZ (wV hr) (pv 4) (pv 6) (kX dA (jD (p1 (pv 6))) (sK (Nc:=["p","q","hung"]) (js:=[none,none,some 4]) rfl rfl (xU (qD yO (pv 7) (qF kI) (qF (bP vF kI)))) (CS.of rfl rfl) rfl (λ C a1 a0 fp Y=>(pgc 0)) (λ C a1 a0 fp Y=>(show PI _ _ _ (kNL K _) from(xU (bQ (wV hr) (pv 2) (pv 0) (λ _ _=>rfl))))) (λ C a1 a0 fp Y=>(pgc 1)) (λ C a1 a0 fp Y D L=>(qT (jP (pv 1)))))) rfl)
   (kJ (qK (jQ jo jq xE (pv 5) (p1 (pv 3)))))))))))
   (kJ (kU (pv 5))))))),?_⟩
 try dsimp only[qW]
 have l2:2<=(m.map vn).length:=by rw[ak];have:=ok.lm;omega
 have e9:(m.take 2).length=2:=by rw[de];have:=ok.lm;omega
 have nd2:(m.take 2).Nodup:=ok.nd.sublist (wz _ _)
 have c2:xS (m.map vn) none (some 2)=(m.take 2).map vn:=by rw[show(2:Int)=((2:Nat):Int) from rfl,vO _ l2,<-xj]
 refine⟨_,rfl,2,rfl,o,_,rfl,ho,λ p1 H1 g1 am=>?_⟩;rw[c2]at am;have g1:Same H H1:=g1;refine⟨p1,rfl,⟨_,SqT.of am⟩,λ sp an=>?_⟩;refine zH (xs:=(m.take 2).map vn) (λ i O H2=>∃(x0:Option V)(ts:List av),O=[x0]/\Same H1 H2/\H2 sp=some (.dK (SpK (((m.take 2).take i).map λ p=>(p,0,0)) ts))/\SpAt H2 sp (((m.take 2).take i).map λ p=>(p,0,0)) ts) ⟨none,[],rfl,kC an _,kA,⟨rfl,λ i t s e=>by simp at e⟩⟩ ?_ ?_ ?_
 ·rintro i O H2 _ ⟨x0,ts,rfl,g2,_⟩
  exact SqT.of (g2 _ _ am)
 ·rintro i v O H2 hv ⟨x0,ts,rfl,g2,hD,se⟩
  rw[bg]at hv;obtain⟨p,ep,rfl⟩:=cq.mp hv;have hi:=(ao.mp ep).1;refine⟨_,rfl,yS2,λ t nt=>?_⟩;have gt:=kC nt (.tup [.int 0,.int 0]);have tk:(m.take 2).take (i+1)=(m.take 2).take i++[p]:=by rw[iq,ep];rfl
  have np:p∉(((m.take 2).take i).map λ p=>(p,(0:Int),(0:Int))).map (·.1):=λ z=>by
   rw[ui]at z;obtain⟨p',e7,e'⟩:=iR.mp z;have e':p'=p:=e';have:((m.take 2).take i++[p]).Nodup:=by rw[<-tk];exact nd2.sublist (wz _ _)
   exact(cu.mp this).2.2 p' e7 p (by simp) e'
  obtain⟨d1,G⟩:=SpAt.put (q:=t) (p:=p) (x:=0) (y:=0) (gt _ _ hD) (se.to (d':=sp) λ b xs e=>gt _ _ e) np (by rw[ak,de];omega) kA;refine⟨_,d1,_,ts++[t],rfl,?_,?_,?_⟩
  ·exact qI an (g2.trans gt)
  ·rw[tk,du]
   exact kA
  ·rw[tk,du]
   exact G
 rintro O H2 ⟨x0,ts,rfl,g2,hS,sS⟩;rw[ak,iJ]at hS sS;have e8:(m.take 2).map (λ p=>(p,(0:Int),(0:Int)))=(gF m Fs Ts 0).1:=rfl;rw[e8]at hS sS;have gS:=g1.trans g2;have bi:H sp=none:=g1.free an
 have cd:=gS _ _ ho
 refine⟨_,rfl,2,rfl,o,_,rfl,cd,λ p2 H3 g3 al=>?_⟩;rw[c2]at al;have g3:Same H2 H3:=g3;refine⟨p2,rfl,⟨_,SqT.of al⟩,λ hu aq=>?_⟩;refine zH (xs:=(m.take 2).map vn) (λ i O H4=>∃(x0:Option V),O=[x0]/\Same H3 H4/\HuN H4 hu (λ p=>if p∈(m.take 2).take i then some [p] else none) i) ⟨none,rfl,kC aq _,⟨_,kA,be _,λ p l z=>by have z:(if p∈(m.take 2).take 0 then some [p] else none)=some l:=z;rw[BG,if_neg (by simp)]at z;cases z⟩⟩ ?_ ?_ ?_
 ·rintro i O H4 _ ⟨x0,rfl,g4,_⟩
  exact SqT.of (g4 _ _ al)
 ·rintro i v O H4 hv ⟨x0,rfl,g4,hh⟩
  rw[bg]at hv;obtain⟨p,ep,rfl⟩:=cq.mp hv;have hi:=(ao.mp ep).1;refine⟨_,rfl,_,rfl,yS1,λ t nt=>?_⟩;have gt:=kC nt (.lst [vn p]);have tk:(m.take 2).take (i+1)=(m.take 2).take i++[p]:=by rw[iq,ep];rfl
  obtain⟨H5,d1,G,d3,d4⟩:=(hh.kept gt).put (b:=t) (v:=p) (l:=[p]) (U':=λ q=>if q∈(m.take 2).take (i+1) then some [q] else none) (by omega) kA (λ q l' e=>by
   by_cases c:q=p
   ·left
    rw[c,if_pos (by rw[tk];simp)]at e;exact⟨c,(bq e).symm⟩
   ·right
    refine⟨c,?_⟩;rw[tk]at e;simpa[c] using e)
  refine⟨H5,d1,_,rfl,λ b ob e=>?_,d4⟩;have:=gt _ _ (g4 _ _ e);exact G _ _ (λ z=>by rw[z,aq]at e;cases e) this
 rintro O H4 ⟨ek,rfl,g4,hh⟩;rw[ak,iJ,e9]at hh;have bw:=g3.trans g4;have ap:H2 hu=none:=g3.free aq;refine⟨_,rfl,yS1,λ U bn=>?_⟩;have gt:=kC bn (.lst [V.ref sp]);have aa:=bw.trans gt;have b6:=aa _ _ hS
 have b7:GrI H (upd H4 U (.lst [V.ref sp])) sp hu U [sp] m Fs Ts 0:=by
  refine⟨gS.trans aa,bi,gS.free ap,(gS.trans bw).free bn,kA,rfl,rfl,⟨ts,b6,sS.to λ b xs e=>aa _ _ e⟩,λ j d e=>?_,?_,λ z=>?_,λ d hd=>by rw[bz.mp hd];exact bi⟩
  ·cases j with
   | zero =>
    cases e
    exact⟨ts,.inl b6,sS.to λ b xs e=>aa _ _ e⟩
   | succ j=>simp at e
  ·obtain⟨db,e1,e2,e3⟩:=hh.kept gt
   exact⟨db,e1,e2,λ p l z=>e3 p l z⟩
  ·rw[bz.mp z,hS]at ap
   cases ap
 clear hh hS sS b6 ap;have gH:=b7.same;generalize upd H4 U (.lst [V.ref sp])=H6 at *;have c3:xS (m.map vn) (some 2) none=(m.drop 2).map vn:=by rw[show(2:Int)=((2:Nat):Int) from rfl,yU _ l2,<-zj]
 refine⟨_,rfl,2,rfl,o,_,rfl,gH _ _ ho,λ p3 H7 g7 ag=>?_⟩;rw[c3]at ag;have g7:Same H6 H7:=g7;have bx:=(hf.kept gH).kept g7;have b4:=(hg.kept gH).kept g7;refine⟨_,rfl,_,rfl,p3,f,g,rfl,⟨_,SqT.of ag⟩,⟨_,SqL.of bx.top⟩,⟨_,SqL.of b4.top⟩,?_⟩;have ld:((m.drop 2).map vn).length=Fs.length:=by rw[ak,iP];have:=ok.lm;omega
 refine kNR (xs:=(m.drop 2).map vn) (ys:=fa.map V.ref) (zs:=ga.map V.ref) (λ i O H8=>∃(sp hu U:av)(ds:List av)(x6 x7 x8 x9:Option V),O=[some (.ref o),some (.ref f),some (.ref g),some (.ref sp),some (.ref hu),some (.ref U),x6,x7,x8,x9]/\GrI H H8 sp hu U ds m Fs Ts i/\H8 p3=some (.tup ((m.drop 2).map vn))) (by rw[ld,ak,bx.len];exact be _) (by rw[ld,ak,b4.len,ok.lt];omega) ⟨sp,hu,U,[sp],_,_,_,_,rfl,b7.kept g7,ag⟩ ?_ ?_ ?_
 ·rintro i O H8 _ ⟨sp,hu,U,ds,x6,x7,x8,x9,rfl,J,hp⟩
  exact⟨SqT.of hp,SqL.of (J.same _ _ hf.top),SqL.of (J.same _ _ hg.top)⟩
 ·clear b7 gH aa bw g4 g3 g2 am al ag g7 bx b4 gt cd bi gS g1 an aq bn
  clear sp hu U;rintro i x y z T O H8 ex ey ez nT ⟨sp,hu,U,ds,x6,x7,x8,x9,rfl,J,hp⟩;rw[bg]at ex ey ez;obtain⟨v,ev,rfl⟩:=cq.mp ex;obtain⟨fi,ef,rfl⟩:=cq.mp ey;obtain⟨gi,eg,rfl⟩:=cq.mp ez;clear ex ey ez;have iF:i<Fs.length:=by rw[<-hf.len];exact(ao.mp ef).1
  have iT:i<Ts.length:=by rw[ok.lt];omega
  have eF:=ae iF;have eT:=ae iT;have hF:=hf.row i fi _ ef eF;have hT:=hg.row i gi _ eg eT;have ei:=ok.le;have ed:=ok.lm;rw[zw]at ev;obtain⟨f0,M,r,d0,b5,FT,TM,dz⟩:=ok.step i _ _ eF eT
  have gd:gF m Fs Ts (i+1)=gst (gF m Fs Ts i).1 (gF m Fs Ts i).2 v (f0::M++[r]) Ts[i]:=by
   show gst _ _ (m.getD (i+2) 0) (Fs.getD i []) (Ts.getD i [])=_;rw[aj,aj,aj,AI i 2,ev,eF,eT,CK,CK,CK,d0]
  have I:=ok.inv i (by omega);rw[d0]at hF FT b5;have h1:=J.old;generalize Ts[i]=Z at *;generalize hS:(gF m Fs Ts i).1=S at *;generalize hV:(gF m Fs Ts i).2=V at *;have fT:=FT f0 (by simp);have lT:=FT r (by simp);have MT:∀ p∈M,p∈m.take (i+2):=λ p hp=>TM p (FT p (by simp[hp]));have d6:atI ((f0::M++[r]).map vn) 0=some (vn f0):=qS (j:=0) rfl;have c9:atI ((f0::M++[r]).map vn) (-1)=some (vn r):=by rw[du];exact yI _ _
  have lS:S.length<=42:=by
   have:=congrArg jd I.fst;rw[ak,de]at this;omega
  have eb:Z.length<=42:=by
   have:=eY dz TM;rw[de]at this;omega
  have bm:∀ p l,uW m i V p=some l->l.length<=42:=λ p l e=>by
   unfold uW at e
   split at e
   ·rename_i hp
    cases e
    have:=I.few p hp;omega
   ·cases e
  have gA:=kC nT (.tup [vn v,.ref fi,.ref gi]);have dk:=kA (H:=H8) (a:=T) (o:=.tup [vn v,.ref fi,.ref gi]);have JA:=J.kept gA;have d7:=gA _ _ hp;refine⟨T,_,rfl,SqT.of dk,rfl,_,_,rfl,_,_,rfl,_,_,rfl,rfl,?_⟩;generalize upd H8 T (.tup [vn v,.ref fi,.ref gi])=H9 at *;clear J hp;refine⟨_,rfl,_,rfl,fi,_,_,_,rfl,rfl,SqL.of (JA.same _ _ hF),c9,?_⟩;refine⟨_,rfl,_,rfl,_,rfl,1,rfl,_,rfl,_,rfl,fi,_,rfl,SqL.of (JA.same _ _ hF),λ q1 n1=>?_⟩;rw[kOH];have gB:=kC n1 (.lst (M.map vn));have ce:=kA (H:=H9) (a:=q1) (o:=.lst (M.map vn));have JB:=JA.kept gB;have bc:=gB _ _ d7;generalize upd H9 q1 (.lst (M.map vn))=Ha at *;obtain⟨ts,a4,c5⟩:=JB.cur;rw[hS]at a4 c5;have a2:=JB.hung;rw[hV]at a2;refine⟨sp,hu,q1,S,ts,_,M,1,rfl,a4,c5,a2.at,ce,(λ p hp=>by rw[xX (MT p hp)];rfl),(by simp at b5;omega),bm,lS,(by rw[I.fst];exact ok.nd.sublist (wz _ _)),λ d1 e5 Hb kB fB nd1 bo bt=>?_⟩;rw[fI MT]at bo bt;have c6:sp∈ds:=di JB.last;have d5:hu≠sp:=λ z=>JB.hn (z ▸ c6);have sB:Same H Hb:=uJ JB.same kB JB.fs;have tB:=kB U _ (λ z=>by rw[<-z,JB.told]at a4;cases a4) JB.told;have b1:=kB p3 _ (λ z=>by rw[<-z,bc]at a4;cases a4) bc;have oB:∀ j d,ds[j]?=some d->RdS Hb d (gF m Fs Ts j).1:=λ j d e=>(JB.old j d e).frz a4 kB fB;have hB:=a2.but kB d5 (λ l e=>by rw[a4]at e;cases e);have dy:H d1=none:=JB.same.free nd1;have c8:hu≠d1:=λ z=>by obtain⟨kv,e,_⟩:=a2;rw[z,nd1]at e;cases e
  have aw:(mvS S (M.flatMap V) 1).map (·.1)=m.take (i+2):=by rw[jW,I.fst]
  have d9:(mvS S (M.flatMap V) 1).length<=42:=by rw[kGL];exact lS
  generalize e6:mvS S (M.flatMap V) 1=S1 at *;have J4:=JB.ft;have J5:=JB.fh;have Jn:=JB.hn;have Jl:=JB.len;have e0:=JB.fd
  clear JB a2 a4 c5 kB fB bc JA d7 gB gA ce n1
  have ba:=sB _ _ hT;refine⟨_,rfl,_,rfl,_,rfl,_,rfl,.inl ⟨rfl,_,SqL.of ba⟩,_,rfl,gi,Z.map ci,r,Z.idxOf r,rfl,rfl,(by rw[ba,xI]),qN lT,_,rfl,gi,_,rfl,SqL.of ba,λ q2 n2=>?_⟩
  have c4:xS (Z.map vn) (some ((Z.idxOf r:Nat):Int)) none=(Z.drop (Z.idxOf r)).map vn:=by
   rw[yU _ (by rw[ak];exact fv (gj lT)),<-zj]
  rw[c4];have gC:=kC n2 (.lst ((Z.drop (Z.idxOf r)).map vn));have da:=kA (H:=Hb) (a:=q2) (o:=.lst ((Z.drop (Z.idxOf r)).map vn));have sC:=sB.trans gC;have tC:=gC _ _ tB;have b3:=gC _ _ b1;have oC:∀ j d,ds[j]?=some d->RdS _ d (gF m Fs Ts j).1:=λ j d e=>(oB j d e).kept gC;have hC:=hB.kept gC;have N:=gC _ _ bo;have ax:=bt.to (d':=d1) λ b xs e=>gC _ _ e;generalize upd Hb q2 (.lst ((Z.drop (Z.idxOf r)).map vn))=Hc at *;clear hB oB tB b1 bo bt gC sB;have DT:∀ p∈Z.drop (Z.idxOf r),p∈m.take (i+2):=λ p hp=>TM p (An hp);refine⟨d1,hu,q2,S1,e5,_,Z.drop (Z.idxOf r),2,rfl,N,ax,hC.at,da,(λ p hp=>by rw[xX (DT p hp)];rfl),(by rw[iP];omega),bm,d9,(by rw[aw];exact ok.nd.sublist (wz _ _)),λ G c1 Hd kD fD a6 a9 a8=>?_⟩;rw[fI DT]at a9 a8;have sD:Same H Hd:=uJ sC kD dy;have tD:=kD U _ (λ z=>by rw[<-z,tC]at N;cases N) tC;have bl:=kD p3 _ (λ z=>by rw[<-z,b3]at N;cases N) b3
  have oD:∀ j d,ds[j]?=some d->RdS Hd d (gF m Fs Ts j).1/\d≠G:=λ j d e=>⟨(oC j d e).frz N kD fD,λ z=>by
   obtain⟨dj,rd,_⟩:=oC j d e;rw[z]at rd;rcases rd with q | ⟨ob,q⟩
   ·rw[a6]at q;cases q
   ·rw[a6]at q;cases q⟩
  have hD:=hC.but kD c8 (λ l e=>by rw[N]at e;cases e);have a7:hu≠G:=λ z=>by obtain⟨kv,e,_⟩:=hC;rw[z,a6]at e;cases e
  have b2:H G=none:=sC.free a6;have a5:(mvS S1 ((Z.drop (Z.idxOf r)).flatMap V) 2).map (·.1)=m.take (i+2):=by rw[jW,aw]
  have cp:(mvS S1 ((Z.drop (Z.idxOf r)).flatMap V) 2).length<=42:=by rw[kGL];exact d9
  generalize dv:mvS S1 ((Z.drop (Z.idxOf r)).flatMap V) 2=S2 at *
  clear hC oC tC b3 N ax kD fD sC da n2
  obtain⟨t1,v1,dd⟩:=a8.get (p:=f0) (by rw[a5];exact TM _ fT);obtain⟨t2,v2,ea⟩:=a8.get (p:=r) (by rw[a5];exact TM _ lT)
  have ct:DGet Hd G (vn f0) (some (.ref t1)):=by
   have:=DGet.k (k:=gw (f0:Int)) a9;rw[v1]at this;exact this
  have cc:DGet Hd G (vn r) (some (.ref t2)):=by
   have:=DGet.k (k:=gw (r:Int)) a9;rw[v2]at this;exact this
  refine⟨_,rfl,_,rfl,fi,_,_,_,rfl,rfl,SqL.of (sD _ _ hF),d6,G,_,rfl,ct,_,rfl,_,rfl,G,_,rfl,cc,t1,t2,atS S2 f0,atS S2 r,rfl,dd,ea,λ t3 He gE n3 h3=>?_⟩
  have cz:v∉m.take (i+2):=by
   have:=xD ok.nd (k:=i+2) (j:=i+2) (be _) (by omega);rw[aj,AI i 2,ev,AI 2 i]at this;exact this
  have ca:(gF m Fs Ts (i+1)).1=S2++[(v,(ovr (atS S2 f0) (atS S2 r)).1,(ovr (atS S2 f0) (atS S2 r)).2)]:=by
   rw[gd];unfold gst;have x1:(f0::M++[r]).tail.dropLast=M:=by simp
   have x2:(f0::M++[r]).getLastD 0=r:=by rw[kh,jj];rfl
   have x3:(f0::M++[r]).headD 0=f0:=rfl;rw[x1,x2,x3,e6,dv]
  have dn:(gF m Fs Ts (i+1)).2=λ p=>if p=v then v::M.flatMap V else V p:=by
   rw[gd];unfold gst;have x1:(f0::M++[r]).tail.dropLast=M:=by simp
   rw[x1]
  have sE:=sD.trans gE;have a3:=gE _ _ a9;obtain⟨p1,p2⟩:=SpAt.put (q:=t3) (p:=v) a3 (a8.to (d':=G) λ b xs e=>gE _ _ e) (by rw[a5];exact cz) cp h3;refine⟨_,rfl,_,rfl,G,_,rfl,p1,?_⟩;have kF:∀ b ob,b≠G->He b=some ob->upd He G (.dK (SpK (S2++[(v,(ovr (atS S2 f0) (atS S2 r)).1,(ovr (atS S2 f0) (atS S2 r)).2)]) (c1++[t3]))) b=some ob:=λ b ob nb e=>by rw[kM nb];exact e
  have ab:=kA (H:=He) (a:=G) (o:=.dK (SpK (S2++[(v,(ovr (atS S2 f0) (atS S2 r)).1,(ovr (atS S2 f0) (atS S2 r)).2)]) (c1++[t3])));rw[<-ca]at p2 kF ab;rw[<-ca];have sF:=uJ sE kF b2;have tF:=kF U _ (λ z=>by have:=gE _ _ tD;rw[z,a3]at this;cases this) (gE _ _ tD);have cr:=kF p3 _ (λ z=>by have:=gE _ _ bl;rw[z,a3]at this;cases this) (gE _ _ bl);have oF:∀ j d,ds[j]?=some d->RdS _ d (gF m Fs Ts j).1:=λ j d e=>((oD j d e).1.kept gE).but kF (oD j d e).2 λ xs e=>by rw[a3]at e;cases e
  have br:=(hD.kept gE).but kF a7 (λ l e=>by rw[a3]at e;cases e)
  have eh:G∉ds:=λ z=>by
   obtain⟨j,hj⟩:=AW.mp z;exact(oD j G hj).2 rfl
  generalize upd He G (.dK (SpK (gF m Fs Ts (i+1)).1 (c1++[t3])))=Hf at *
  clear oD hD bl tD a9 a8 a3 p1 kF gE sE sD ct cc h3
  refine⟨_,rfl,yS1,λ l1 m1=>?_⟩;have g1:=kC m1 (.lst [vn v]);have ch:=kA (H:=Hf) (a:=l1) (o:=.lst [vn v]);have sG:=sF.trans g1;generalize upd Hf l1 (.lst [vn v])=Hg at *;refine⟨_,rfl,1,rfl,_,rfl,_,rfl,fi,_,rfl,SqL.of (sG _ _ hF),λ q3 m3=>?_⟩;rw[kOH];have g3:=kC m3 (.lst (M.map vn));have b8:=kA (H:=Hg) (a:=q3) (o:=.lst (M.map vn));refine⟨q3,rfl,⟨_,SqL.of b8⟩,λ D nD=>?_⟩;have hh:=(br.kept g1).kept g3;have b0:=g3 _ _ ch;generalize upd Hg q3 (.lst (M.map vn))=Hh at *;obtain⟨db,d8,dm,co⟩:=id hh;have el:M.length<=42:=by simp at b5;omega
  have VL:∀ p∈M,(V p).length<=42:=λ p hp=>bm p _ (xX (MT p hp))
  have ec:(M.flatMap V).length<=42*M.length:=by
   rw[vw];refine ju (rL (c:=42) λ x hx=>?_) (by rw[ak];exact be _);obtain⟨y,hy,rfl⟩:=iR.mp hx;exact VL y hy
  refine jJ (xs:=M.map vn) (λ j O H2=>∃(x0 x1:Option L2.V),O=[x0,x1,some (.ref hu)]/\Same Hh H2/\H2 D=some (.lst (((M.take j).flatMap V).map vn))) ⟨none,none,rfl,kC nD _,kA⟩ ?_ ?_ ?_
  ·rintro j O H2 _ ⟨x0,x1,rfl,g2,_⟩
   exact SqL.of (g2 _ _ b8)
  ·rintro j u O H2 hv ⟨x0,x1,rfl,g2,hD⟩
   rw[bg]at hv;obtain⟨p,ep,rfl⟩:=cq.mp hv;have pM:=di ep;obtain⟨b,vb,hb⟩:=co p _ (xX (MT p pM));have hj:=(ao.mp ep).1
   have pl:((M.take j).flatMap V).length<=42*42:=by
    rw[vw];refine ju (rL (c:=42) λ x hx=>?_) (by rw[ak,de];exact DK 42 (by omega));obtain⟨y,hy,rfl⟩:=iR.mp hx;exact VL y (Ao hy)
   have ll:=VL p pM
   have dg:DGet H2 hu (vn p) (some (.ref b)):=by
    have:=DGet.k (k:=gw (p:Int)) (g2 _ _ d8);rw[vb]at this;exact this
   refine⟨_,rfl,_,rfl,hu,_,rfl,dg,b,rfl,⟨_,SqL.of (g2 _ _ hb)⟩,?_⟩
   have tk:(M.take (j+1)).flatMap V=(M.take j).flatMap V++V p:=by
    rw[iq,ep,rh,oz,xg]
   rw[tk];generalize(M.take j).flatMap V=G0 at *;generalize V p=l at *;refine jJ (xs:=l.map vn) (λ j O H3=>∃(x1:Option L2.V),O=[some (vn p),x1,some (.ref hu)]/\Same Hh H3/\H3 D=some (.lst ((G0++l.take j).map vn))) ⟨_,rfl,g2,by rw[BG,iU];exact hD⟩ ?_ ?_ ?_
   ·rintro j O H3 _ ⟨x1,rfl,g3,_⟩
    exact SqL.of (g3 _ _ hb)
   ·rintro j u O H3 hv ⟨x1,rfl,g3,as⟩
    rw[bg]at hv;obtain⟨y,ey,rfl⟩:=cq.mp hv;have hj:=(ao.mp ey).1;refine⟨_,rfl,_,as,(by rw[ak,bu,de];exact xJ (by omega)),?_⟩;refine⟨_,rfl,qI nD g3,?_⟩;rw[iq,ey,rh,<-bp,du (l₂:=[y])];exact kA
   ·rintro O H3 ⟨x1,rfl,g3,as⟩
    rw[ak,iJ]at as;exact⟨_,_,rfl,g3,as⟩
  rintro O H2 ⟨x0,x1,rfl,g2,hD⟩;rw[ak,iJ]at hD;refine⟨l1,D,_,_,rfl,rfl,g2 _ _ b0,hD,(by rw[ak];exact fv (xJ (by rw[fk];omega))),λ ac m2=>?_⟩;have g4:=kC m2 (.lst ([vn v]++(M.flatMap V).map vn));have gg:=g1.trans (g3.trans (g2.trans g4));have dx:upd H2 ac (.lst ([vn v]++(M.flatMap V).map vn)) ac=some (.lst ((v::M.flatMap V).map vn)):=kA;have sI:=sF.trans gg;have tI:=gg _ _ tF;have ah:=gg _ _ cr;have oI:∀ j d,ds[j]?=some d->RdS _ d (gF m Fs Ts j).1:=λ j d e=>(oF j d e).kept gg;have hI:=br.kept gg;have cl:=gg _ _ ab;have c7:=p2.to (d':=G) λ b xs e=>gg _ _ e;generalize upd H2 ac (.lst ([vn v]++(M.flatMap V).map vn))=Hi at *;clear oF br cr tF ab p2 gg g4 g3 g2 g1 hD b0 b8 hh d8 dm co ch sG sF
  obtain⟨Hj,w1,w2,w3,w4⟩:=hI.put (b:=ac) (v:=v) (l:=v::M.flatMap V) (U':=uW m (i+1) (gF m Fs Ts (i+1)).2) (by omega) dx (λ p l' e=>by
   rw[dn]at e;unfold uW at e;by_cases c:p=v
   ·left
    refine⟨c,?_⟩;rw[c]at e
    split at e
    ·have this:(if v=v then v::M.flatMap V else V v)=l':=bq e
     rw[if_pos rfl]at this;exact this.symm
    ·cases e
   ·right
    refine⟨c,?_⟩
    split at e
    ·rename_i hm
     have e:some (if p=v then v::M.flatMap V else V p)=some l':=e;rw[if_neg c]at e;rw[<-e];refine xX ?_;have tk:m.take (i+1+2)=m.take (i+2)++[v]:=by rw[iq,AI i 2,ev];rfl
     rw[tk]at hm;rcases cf.mp hm with q | q
     ·exact q
     ·exact absurd (bz.mp q) c
    ·cases e)
  refine⟨_,rfl,_,rfl,hu,_,rfl,w1,?_⟩;obtain⟨ee,af,_⟩:=hI;have sJ:=uJ sI w2 J5;have tJ:=w2 U _ (λ z=>by rw[z,af]at tI;cases tI) tI;have b9:=w2 p3 _ (λ z=>by rw[z,af]at ah;cases ah) ah;have oJ:∀ j d,ds[j]?=some d->RdS Hj d (gF m Fs Ts j).1:=λ j d e=>(oI j d e).but w2 (λ z=>Jn (z ▸ di e)) λ xs e=>by rw[af]at e;cases e
  have bv:=w2 G _ (sj a7) cl;have dp:=c7.to (d':=G) (H':=Hj) λ b xs e=>w2 _ _ (λ z=>by rw[z,af]at e;cases e) e;clear oI tI ah cl c7 w1 w2 w3 sI;refine⟨_,rfl,.inl ⟨rfl,_,SqL.of tJ⟩,_,rfl,U,_,_,rfl,rfl,tJ,(by rw[ak,Jl];exact kS (by omega)),?_⟩;have kK:∀ b ob,b≠U->Hj b=some ob->upd Hj U (.lst (ds.map L2.V.ref++[.ref G])) b=some ob:=λ b ob nb e=>by rw[kM nb];exact e
  have cb:G≠U:=λ z=>by rw[z,tJ]at bv;cases bv
  have tt:∀ xs,Hj U≠some (.tup xs):=λ xs e=>by rw[tJ]at e;cases e
  have cn:=dp.to (d':=G) (H':=upd Hj U (.lst (ds.map L2.V.ref++[.ref G]))) λ b xs e=>kK _ _ (λ z=>tt xs (z ▸ e)) e;have cs:=kK G _ cb bv;refine⟨G,hu,U,ds++[G],_,_,_,_,rfl,⟨uJ sJ kK J4,b2,J5,J4,by rw[kA,du];rfl,by rw[bu,Jl];rfl,by rw[<-Jl,dq],⟨_,cs,cn⟩,λ j d e=>?_,?_,λ z=>?_,λ d hd=>?_⟩,kK p3 _ (λ z=>by rw[z,tJ]at b9;cases b9) b9⟩
  ·rcases snoc e with⟨c,e⟩ | ⟨ej,e⟩
   ·refine(oJ j d e).but kK (λ z=>?_) tt
    obtain⟨dj,rd,_⟩:=oJ j d e;rw[z]at rd;rcases rd with q | ⟨ob,q⟩
    ·rw[tJ]at q;cases q
    ·rw[tJ]at q;cases q
   ·cases e
    rw[ej,Jl];exact⟨_,.inl cs,cn⟩
  ·refine w4.but kK (λ z=>?_) (λ l e=>?_)
   ·obtain⟨kv,e,_⟩:=w4
    rw[z,tJ]at e;cases e
   ·rw[tJ]at e
    have e:ds.map L2.V.ref=l.map vn:=by injection e with e;injection e
    match ds,l,Jl,e with
    | d::ds,[],_,e=>cases e
    | d::ds,n::l,_,e=>cases e
  ·rcases cf.mp z with q | q
   ·exact Jn q
   ·exact a7 (bz.mp q)
  ·rcases cf.mp hd with q | q
   ·exact e0 d q
   ·rw[bz.mp q];exact b2
 ·rintro O H8 ⟨sp,hu,U,ds,x6,x7,x8,x9,rfl,J,hp⟩
  rw[ld]at J;exact⟨_,rfl,k U ds H8 J.same J.told J.len J.old J.fd⟩
end
section
def dL{W:Rows}{ms:List Nat}{a b c:Nat}{D n:List (List Nat)}(T:Tr W)(h:Tri.E W a b)(v:ms.Perm (cw W.length))(Q:3<=W.length)(g:jX W a b c ms=some (D,n)):GOk ms D n:=by
 have S:=T.nb;have Y:ms.length=W.length:=by rw[v.length_eq,iH]
 have d:ms.Nodup:=v.nodup_iff.mpr tw;have J:=T.le;unfold jX at g
 split at g
 case isFalse=>cases g
 rename_i ends
 have u:ms.take 2=[a,b]:=by
  obtain⟨s,j,_⟩:=ends
  match ms,s,j with
  | x::y::r,s,j =>
   cases s
   cases j
   rfl
 obtain⟨U,lt⟩:=yG g;have h0:Top W (ms.take 2) (ms.take 2):=by rw[u];exact uB S h
 refine⟨by omega,by omega,by omega,d,λ i F H G O=>?_,λ i N=>kEI S T.three d u h (by omega) g i (by omega)⟩;have N:=(ao.mp G).1;have o:i+1<n.length:=by omega
 obtain⟨m,B,f,M,l,C,p,I,X⟩:=zN S.sym d h0 (by omega) g i F H _ G O (ae o);have A:∀ x∈F,x∈H:=λ x q=>by rw[I,<-p];simp[q]
 have nd:=m.nd;refine⟨f,M,l,p,?_,A,m.sub,nd⟩
 have L:F.Nodup:=by
  rw[I,<-p]at nd;exact(cu.mp (cu.mp nd).1).2.1
 have:=eY L λ x q=>m.sub x (A x q);rw[de]at this;omega
inductive kLI(vs:List V)(H:Hp)(Q:VK)(Y:XK):Prop
 | mk:∀(w z o:av)(W:Rows)(ms:List Nat)(a b c:Nat)(Fs Ts:List (List Nat)),(vs=[.ref w,.ref z,.ref o])->(Gw H w z o W ms a b c)->((Tri.E W a c/\(nxt W (a,c)).2=b))->(jX W a b c ms=some (Fs,Ts))->(∀(t:av)(ta:List av)(H':Hp),Same H H'->H' t=some (.tup (ta.map V.ref))->ta.length=W.length->(∀(p:Nat)(a:av),ta[p]?=some a->H' a=some (.tup [.int (atS (gF ms Fs Ts Fs.length).1 p).1,.int (atS (gF ms Fs Ts Fs.length).1 p).2]))->Q (.ref t) H')->kLI vs H Q Y
def kGH(B:Fx):Hs "grid" ["web","base","order"] 9 (kLI):=by
 refine qM B.X B.d23 kPE λ f ag A a6 s0 H vs Q E nN hr h=>?_;obtain⟨w,z,o,W,s,a,b,c,d,Y,rfl,G,aa,hl,k⟩:=h
 refine⟨_,(kH (yB (pf (vW B) hr (kE (pv 0) (kE (pv 1) (kE (pv 2) kW)))) (jF (n:=2) rfl (kQ (pgn 3 nN) (kQ (pgn 4 nN) qR))))
   (kH (pst 5 nN (pix kY (pf (fH B) hr (kE (pv 2) (kE (pv 3) (kE (pv 4) kW)))) (bP vF kI)))
   (kJ (kU (jM qY rfl (B.z B.y6) je (p1 (yC (Nc:=["p","spots"]) (js:=[none,some 5]) rfl rfl (jV rfl (B.z B.y3) (p1 (kR kP rfl (B.z B.y0) fc (p1 (pv 0))))) (CS.of rfl rfl) rfl (λ C O M fp N=>(pgc 0)) (λ C O M fp N D L=>(qT (jP (bQ (wV hr) (pv 1) (pv 0) (λ _ _=>rfl)))))))))))),?_⟩
 try dsimp only[qW]
 have ok:=dL G.tr G.ab G.perm G.three hl;have ac:=G.tr.le;refine⟨_,rfl,_,rfl,_,rfl,w,z,o,W,s,a,b,c,d,Y,rfl,G,aa,hl,λ t f g fa ga H1 g1 ht lf lg=>?_⟩;refine⟨t,_,rfl,SqT.of ht,rfl,_,_,rfl,_,_,rfl,rfl,?_⟩;refine⟨_,rfl,_,rfl,_,rfl,o,f,g,fa,ga,s,d,Y,rfl,g1 _ _ G.ord,lf,lg,ok,λ td y H2 g2 a9 len rd _=>?_⟩;have J:=g1.trans g2;obtain⟨wt,a0,l,_⟩:=id (G.web.kept J)
 obtain⟨dl,a3,r⟩ : ∃ dl a2,y=a2++[dl]:=by
  have ne:y≠[]:=λ z=>by rw[z]at len;cases len
  exact⟨y.getLast ne,y.dropLast,(eN ne).symm⟩
 have at1:atI (y.map V.ref) (-1)=some (.ref dl):=by rw[r,du];exact yI _ _
 have a7:=rd d.length dl (by
  have:a3.length=d.length:=by rw[r,bu,fk]at len;omega
  rw[r,<-this,dq])
 have I:=ok.inv d.length (be _);have af:s.length=W.length:=by rw[G.perm.length_eq,iH]
 have v:(gF s d Y d.length).1.map (·.1)=s:=by
  rw[I.fst,<-ok.lm,iJ]
 generalize(gF s d Y d.length).1=S at *;obtain⟨ts,a8,a4⟩:=a7;refine⟨_,rfl,td,_,_,_,rfl,rfl,SqL.of a9,at1,?_⟩;refine⟨_,rfl,w,_,rfl,.inr (SqT.of a0),_,rfl,(by rw[ak,l];omega),(by rw[ak,l];omega),λ D nD=>?_⟩;refine vB (lo:=0) (n:=((((wt.map V.ref).length:Nat):Int)).toNat) (λ j σ m=>∃(x0:Option V)(i:List av),σ=[x0,some (.ref dl)]/\Same H2 m/\m D=some (.lst (i.map V.ref))/\i.length=j/\∀(p:Nat)(a:av),i[p]?=some a->m a=some (.tup [.int (atS S p).1,.int (atS S p).2])) ⟨none,[],rfl,kC nD _,kA,rfl,λ p a e=>by simp at e⟩ ?_ ?_
 ·rintro j σ m hj ⟨x0,i,rfl,u,U,x,hu⟩
  have a5:j<W.length:=by rw[ak,iw,l]at hj;exact hj
  have jm:j∈S.map (·.1):=by rw[v];exact G.perm.mem_iff.mpr (jr.mpr a5)
  obtain⟨T,v',a1⟩:=(a4.to (d':=dl) (H':=m) λ b Z e=>u _ _ e).get jm
  have dg:DGet m dl (.int (0+(j:Int))) (some (.ref T)):=by
   refine .inl ⟨SpK S ts,gw (j:Int),?_,by rw[xh];rfl,v'.symm⟩;rcases a8 with e | ⟨ob,e⟩
   ·exact .inl (u _ _ e)
   ·exact .inr ⟨ob,u _ _ e⟩
  refine⟨_,rfl,_,rfl,dl,_,rfl,dg,_,U,(by rw[ak,x];exact kS (by omega)),?_⟩
  have st:∀ b Z,m b=some (.tup Z)->upd m D (.lst (i.map V.ref++[.ref T])) b=some (.tup Z):=λ b Z e=>by
   rw[kM λ z=>by rw[z,U]at e;cases e];exact e
  refine⟨_,i++[T],rfl,qI nD u,by rw[du];exact kA,by rw[bu,x];rfl,λ p a e=>?_⟩;rcases snoc e with⟨q,e⟩ | ⟨ep,e⟩
  ·exact st _ _ (hu p a e)
  ·cases e
   rw[ep,x];exact st _ _ a1
 ·rintro σ m ⟨x0,i,rfl,u,U,x,hu⟩
  refine⟨D,_,rfl,.inl ⟨SqL.of U,λ T nt=>?_⟩⟩;have gt:=kC nt (.tup (i.map V.ref));exact k T i _ (J.trans (u.trans gt)) kA (by rw[x,ak,iw,l]) λ p a e=>gt _ _ (hu p a e)
end
section
inductive kLM(vs:List V)(H:Hp)(Q:VK)(Y:XK):Prop
 | mk:∀(a r:av)(W:Rows),(vs=[.ref a,.ref r])->(PotAt H a)->(WebAt H r W)->(Good W)->(W.length<=42)->(∀(t:av)(x y z:Nat)(H':Hp),SameBut a H H'->PotAt H' a->H t=none->H' t=some (.tup [vn x,vn y,vn z])->Tri.E W x z->(nxt W (x,z)).2=y->Q (.ref t) H')->kLM vs H Q Y
def kBE(B:Fx):Hs "_law_base" ["_law_pot_here","_law_web_here"] 3 (kLM):=by
 refine qM B.X B.d34 kAO λ f O A i s0 H vs Q E L m h=>?_;obtain⟨a,r,W,rfl,s,o,G,N,k⟩:=h
 refine⟨_,(kH (yB (pf (uU B) m (p2 (pv 0) (pv 1))) (jF (n:=2) rfl (kQ (pgn 2 L) (kQ (pgn 3 L) qR))))
   (kJ (kU (qU (kE (pv 2) (kE (pf (zD B) m (kE (pv 1) (kE (pv 2) (kE (pv 3) kW)))) (kE (pv 3) kW))))))),?_⟩
 try dsimp only[qW]
 have S:=(Wb.of G).toNb;have l3:=G.three;refine⟨_,rfl,_,rfl,.inr ⟨a,r,W,rfl,s,o,by omega,by omega,λ p row e=>⟨G.ne p row e,by have:=S.len e;omega⟩,λ t p q H1 g p1 nt M d=>?_⟩⟩;refine⟨t,_,rfl,SqT.of M,rfl,_,_,rfl,_,_,rfl,rfl,?_⟩;have l:=o.pot g s;obtain⟨z,J,n2,n3,e1,e2⟩:=qP S (jR G).1 d;obtain⟨row,Y,nd,mem,pv⟩:=Fc.row_at S (S.e d).2.1;have D:p∈row:=(mem p).mpr (S.sym _ _ d)
 obtain⟨v,C⟩ : ∃ v,xH row p=some v:=by
  exact vH D
 have u:=pv p v C;rw[J]at u;obtain rfl:z=v:=congrArg tm u;obtain⟨ts,h1,h2,Z⟩:=l.at;obtain⟨b,U,e4⟩:=Z q row Y;refine⟨_,rfl,_,rfl,_,rfl,_,rfl,r,b,_,p,q,row,z,rfl,.inr ⟨h1,e4⟩,U,D,C,_,rfl,yS3,λ j c=>?_⟩;have I:=kC c (.tup [vn p,vn z,vn q]);refine k j p z q _ ?_ ?_ ?_ kA d (by rw[J])
 ·exact g.trans (SameBut.of I)
 ·exact p1.kept I
 ·cases e:H j with
  | none=>rfl
  | some ob =>
   have T:j≠a:=λ z=>by
    obtain⟨x,y,hx,_⟩:=p1;rw[z,hx]at c;cases c
   rw[g _ _ T e]at c;cases c
def kOM{l:List Nat}{j:Nat}(h:j<l.length):atI (l.map vn) (j:Int)=some (vn (l.getD j 0)):=qS (by rw[bg,aj,ae h];rfl)
def lY(f:Nat->Bool)(j:Nat):(cw (j+1)).filter f=(cw j).filter f++if f j=true then[j] else[]:=by
 rw[BR,tz]
 congr 1
 by_cases c:f j=true
 ·rw[if_pos c,wj c,Bb]
 ·rw[if_neg c,wk c,Bb]
inductive kRA(vs:List V)(H:Hp)(Q:VK)(Y:XK):Prop
 | mk:∀(r o:av)(W:Rows)(O row:List Nat)(v:Nat),(vs=[.ref r,.ref o,vn v])->(WebAt H r W)->(H o=some (.lst (O.map vn)))->(W[v]?=some row)->(row.length<=42)->(O.length<=42)->(∀(t:av)(H':Hp),Same H H'->H' t=some (.tup ((vX row O).map vn))->Q (.ref t) H')->kRA vs H Q Y
def mI(B:Fx):Hs "_law_run" ["_law_web_here","_law_ahead_here","_law_v"] 1 (kRA):=by
 refine qM B.X B.d35 kDE λ f a7 A a3 s0 H vs Q E nN hr h=>?_;obtain⟨r,o,W,O,row,v,rfl,hw,ho,er,a5,a6,k⟩:=h
 refine⟨_,(kH (pst 3 nN (pix qC (pv 0) (pv 2)))
   (kH (bO (i:=4) (Nc:=["_law_k","_law_ahead_here","_law_row"]) (js:=[none,some 1,some 3]) rfl rfl nN rfl (yw rfl) (jV rfl (B.z B.y3) (p1 (kR kP rfl (B.z B.y0) fc (p1 (pv 3))))) (CS.of rfl rfl) rfl (λ C s m fp p=>(pgc 0)) (λ C s m fp p D L=>(zK (PW.pt (mB (kZ (show OpR _ _ (rIn K false) from zG) (pix (show IxR _ (kAW K) from qC) (pv 2) (pv 0)) (pv 1) rfl) (fY (kZ (show OpR _ _ (rIn K true) from zC) (pix (show IxR _ (kAW K) from qC) (pv 2) (kX zL (pv 0) kI)) (pv 1) rfl)))) (jP (pv 0)))))
   (kH (xL (kZ mF (kR kP rfl (B.z B.y0) fc (p1 (pv 4))) kI (qO _)) (kJ (kU (qU kW))) qQ)
   (kJ (kU (jM qY rfl (B.z B.y6) je (p1 (yC (Nc:=["_law_q","_law_ahead_here"]) (js:=[none,some 1]) rfl rfl (bB (kX aF (qD yN (pv 3) (qF (pix kY (pv 4) kI)) jA) (qD yN (pv 3) jA (qF (pix kY (pv 4) kI))))) (CS.of rfl rfl) rfl (λ C s m fp p=>(pgc 0)) (λ C s m fp p D L=>(zK (kZ (show OpR _ _ (rIn K false) from zG) (pv 0) (pv 1) rfl) (jP (pv 0)))))))))))),?_⟩
 try dsimp only[qW]
 obtain⟨ts,h1,h2,h3⟩:=hw.at;obtain⟨b,e3,e4⟩:=h3 v row er;refine⟨_,rfl,_,rfl,r,_,_,_,rfl,rfl,SqT.of h1,e3,?_⟩;refine⟨_,rfl,b,_,rfl,.inr (SqT.of e4),_,rfl,(by rw[ak];omega),(by rw[ak];omega),λ D nD=>?_⟩;refine vB (lo:=0) (n:=((((row.map vn).length:Nat):Int)).toNat) (λ j y N=>∃(G:Option V),y=[G,some (.ref o),some (.ref b)]/\Same H N/\N D=some (.lst (((cw j).filter λ k=>decide (row.getD k 0∈O) && !decide ((if k=0 then row.getLastD 0 else row.getD (k-1) 0)∈O)).map vn))) ⟨none,rfl,kC nD _,kA⟩ ?_ ?_
 ·rintro j y N hj ⟨G,rfl,x,g⟩
  have I:j<row.length:=by rw[ak,iw]at hj;exact hj
  have a1:atI (row.map vn) (0+(j:Int))=some (vn (row.getD j 0)):=by rw[xh];exact kOM I
  have a2:atI (row.map vn) (0+(j:Int)-1)=some (vn (if j=0 then row.getLastD 0 else row.getD (j-1) 0)):=by
   by_cases c:j=0
   ·rw[if_pos c,c]
    have ne:row≠[]:=λ z=>by rw[z]at I;simp at I
    rw[show row.getLastD 0=row.getLast ne by rw[kh,fj ne];rfl];have e5:row.map vn=(row.dropLast).map vn++[vn (row.getLast ne)]:=by rw[<-DY (f:=vn),<-du,eN]
    rw[e5];exact yI _ _
   ·rw[if_neg c,show(0+(j:Int)-1)=((j-1:Nat):Int) by omega]
    exact kOM (by omega)
  have d:=x _ _ e4;have Y:=x _ _ ho
  have lz:(((cw j).filter λ k=>decide (row.getD k 0∈O) && !decide ((if k=0 then row.getLastD 0 else row.getD (k-1) 0)∈O)).map vn).length<sizeLine:=by
   rw[ak];have:=ni (λ k=>decide (row.getD k 0∈O) && !decide ((if k=0 then row.getLastD 0 else row.getD (k-1) 0)∈O)) (cw j);rw[iH]at this;exact kS (by omega)
  have rf:=lY (λ k=>decide (row.getD k 0∈O) && !decide ((if k=0 then row.getLastD 0 else row.getD (k-1) 0)∈O)) j;rw[rf];dsimp only at rf ⊢;clear rf;generalize(cw j).filter (λ k=>decide (row.getD k 0∈O) && !decide ((if k=0 then row.getLastD 0 else row.getD (k-1) 0)∈O))=L at *;generalize row.getD j 0=u1 at *;generalize(if j=0 then row.getLastD 0 else row.getD (j-1) 0)=u2 at *;refine⟨_,rfl,_,rfl,b,_,_,_,rfl,rfl,SqT.of d,a1,_,rfl,o,_,rfl,.inl (SqL.of Y),rfl,yT _,_,rfl,?_⟩;rw[wD];by_cases c1:u1∈O
  ·rw[decide_eq_true c1]
   refine zT ⟨_,rfl,_,rfl,_,_,rfl,rfl,b,_,_,_,rfl,rfl,SqT.of d,a2,_,rfl,o,_,rfl,.inl (SqL.of Y),rfl,yT _,_,rfl,?_⟩;rw[wD];by_cases c2:u2∈O
   ·rw[decide_eq_true c2]
    exact jY ⟨_,rfl,x,by rw[if_neg (by decide),iU];exact g⟩
   ·rw[decide_eq_false c2]
    refine zT ⟨_,rfl,_,g,lz,⟨_,rfl,qI nD x,?_⟩⟩;rw[if_pos (by decide),kA,du,xh]
    rfl
  ·rw[decide_eq_false c1]
   exact jY (jY ⟨_,rfl,x,by rw[if_neg (by simp),iU];exact g⟩)
 ·rintro y N ⟨G,rfl,x,g⟩
  rw[ak,iw]at g;have g:N D=some (.lst ((zF row O).map vn)):=g;have d:=x _ _ e4
  have rl:(zF row O).length<=row.length:=by
   have:=ni (λ k=>decide (row.getD k 0∈O) && !decide ((if k=0 then row.getLastD 0 else row.getD (k-1) 0)∈O)) (cw row.length);rw[iH]at this;exact this
  refine⟨_,rfl,D,_,rfl,.inl (SqL.of g),rfl,_,rfl,?_⟩;by_cases c:(zF row O).length=1
  case neg =>
   have e0:vX row O=[]:=by unfold vX;rw[if_pos c]
   have ez:(!decide (V.int ((((zF row O).map vn).length:Nat):Int)=V.int 1))=true:=by
    rw[decide_eq_false]
    ·rfl
    ·intro z
     injection z with z
     rw[ak]at z;omega
   show if(!decide (V.int ((((zF row O).map vn).length:Nat):Int)=V.int 1))=true then _ else _;rw[if_pos ez];refine⟨yS0,λ t nt=>k t _ (x.trans (kC nt _)) ?_⟩;rw[e0];exact kA
  obtain⟨a,ek⟩ : ∃ a,zF row O=[a]:=CZ.mp c
  have ez:(!decide (V.int ((((zF row O).map vn).length:Nat):Int)=V.int 1))=false:=by
   rw[ek]
   rfl
  show if(!decide (V.int ((((zF row O).map vn).length:Nat):Int)=V.int 1))=true then _ else _;rw[ez];refine jY ?_;have k1:a<row.length:=(mem_begs.mp (by rw[ek];exact bz.mpr rfl:a∈zF row O)).1;have e1:vX row O=(row.drop a++row.take a).filter λ q=>decide (q∈O):=by unfold vX;rw[if_neg (by rw[c];simp),ek];rfl
  rw[ek]at g;have a0:atI ([a].map vn) 0=some (vn a):=rfl;refine⟨_,rfl,_,rfl,D,_,_,_,rfl,rfl,SqL.of g,a0,_,rfl,b,_,rfl,d,λ p1 H4 g4 Z=>?_⟩;rw[yU _ (by rw[ak];omega),<-zj]at Z;have g4:Same N H4:=g4;refine⟨_,rfl,_,rfl,D,_,_,_,rfl,rfl,SqL.of (g4 _ _ g),a0,_,rfl,b,_,rfl,g4 _ _ d,λ p2 H5 g5 S=>?_⟩;rw[vO _ (by rw[ak];omega),<-xj]at S;have g5:Same H4 H5:=g5;refine⟨p1,p2,_,_,rfl,rfl,g5 _ _ Z,S,(by simp only[ak,iP,de];exact fv (kS (by omega))),λ p3 H6 g6 J=>?_⟩;have g6:Same H5 H6:=g6;rw[<-du]at J;have gg:=x.trans (g4.trans (g5.trans g6));have a4:=gg _ _ ho;rw[e1]at k;have ll:(row.drop a++row.take a).length<=42:=by rw[bu,iP,de];omega
  generalize row.drop a++row.take a=R at *;refine⟨p3,rfl,⟨_,SqT.of J⟩,λ D2 U=>?_⟩;refine zH (xs:=R.map vn) (λ j y T=>∃(G:Option V),y=[G,some (.ref o)]/\Same H6 T/\T D2=some (.lst (((R.take j).filter λ q=>decide (q∈O)).map vn))) ⟨none,rfl,kC U _,kA⟩ ?_ ?_ ?_
  ·rintro j y T _ ⟨G,rfl,M,_⟩
   exact SqT.of (M _ _ J)
  ·rintro j u y T hv ⟨G,rfl,M,l⟩
   rw[bg]at hv;obtain⟨q,eq,rfl⟩:=cq.mp hv;have hj:=(ao.mp eq).1
   have tk:(R.take (j+1)).filter (λ q=>decide (q∈O))=(R.take j).filter (λ q=>decide (q∈O))++if q∈O then[q] else[]:=by
    rw[iq,eq,rh,tz]
    congr 1
    by_cases c:q∈O
    ·rw[if_pos c,wj (by simpa using c),Bb]
    ·rw[if_neg c,wk (by simpa using c),Bb]
   rw[tk]
   have lz:(((R.take j).filter λ q=>decide (q∈O)).map vn).length<sizeLine:=by
    rw[ak];have:=ni (λ q=>decide (q∈O)) (R.take j);rw[de]at this;exact kS (by omega)
   refine⟨_,rfl,_,rfl,o,_,rfl,.inl (SqL.of (M _ _ a4)),rfl,yT _,_,rfl,?_⟩;rw[wD];by_cases c:q∈O
   ·rw[decide_eq_true c,if_pos c]
    refine zT ⟨_,rfl,_,l,lz,⟨_,rfl,qI U M,?_⟩⟩;rw[kA,du]
    rfl
   ·rw[decide_eq_false c,if_neg c,iU]
    exact jY ⟨_,rfl,M,l⟩
  ·rintro y T ⟨G,rfl,M,l⟩
   rw[ak,iJ]at l;refine⟨D2,_,rfl,.inl ⟨SqL.of l,λ t nt=>?_⟩⟩;exact k t _ (gg.trans (M.trans (kC nt _))) kA
end
section
structure RnAt(H:Hp)(r:av)(ra:List av)(Fs:List (List Nat)):Prop where
 top:H r=some (.lst (ra.map V.ref))
 len:ra.length=Fs.length
 row:∀(i:Nat)(a:av)(F:List Nat),ra[i]?=some a->Fs[i]?=some F->H a=some (.tup (F.map vn))
def RnAt.but{H H':Hp}{r x:av}{c:List av}{d:List (List Nat)}(R:RnAt H r c d)(g:∀ b o,b≠x->H b=some o->H' b=some o)(nx:r≠x)(j:∀ xs,H x≠some (.tup xs)):RnAt H' r c d :=
 ⟨g _ _ nx R.top,R.len,λ i a F h f=>g _ _ (λ z=>j _ (z ▸ R.row i a F h f)) (R.row i a F h f)⟩
def RnAt.kept{H H':Hp}{r:av}{b:List av}{c:List (List Nat)}(R:RnAt H r b c)(g:Same H H'):RnAt H' r b c:=⟨g _ _ R.top,R.len,λ i a F f d=>g _ _ (R.row i a F f d)⟩
def kLZ{H H':Hp}{r r' t:av}{f:List av}{h:List (List Nat)}{F:List Nat}(R:RnAt H r f h)(g:∀ b xs,H b=some (.tup xs)->H' b=some (.tup xs))(m:H t=some (.tup (F.map vn)))(h':H' r'=some (.lst (f.map V.ref++[.ref t]))):RnAt H' r' (f++[t]) (h++[F]):=by
 refine⟨by rw[h',du];rfl,by rw[bu,bu,R.len];rfl,λ i a j c d=>?_⟩;rcases snoc c with⟨q,c⟩ | ⟨l,c⟩
 ·rw[bb (by rw[<-R.len];exact q)]at d
  exact g _ _ (R.row i a j c d)
 ·rw[l,R.len,dq]at d
  cases c
  cases d
  exact g _ _ m
def kPF{row T:List Nat}{a:Nat}(f:Ro row T)(nd:row.Nodup)(c:T.head?=some a):row.drop (row.idxOf a)++row.take (row.idxOf a)=T:=by
 obtain⟨A,B,d,b⟩:=f
 cases B with
 | nil =>
  rw[iU]at d;rw[kb]at b;rw[d,<-b];obtain⟨I,rfl⟩:=Fc.head_split c;rw[DB];simp
 | cons x B =>
  rw[b]at c;obtain rfl:x=a:=bq c;rw[d]at nd ⊢;have g:x∉A:=λ z=>(cu.mp nd).2.2 x z x (by simp) rfl;have:(A++x::B).idxOf x=A.length:=by rw[yc,if_neg g];simp
  rw[this,b];simp
def aJ(W:Rows)(O:List Nat)(c:Nat)(v:Nat):Bool:=!decide (v∈O) && (!decide (v=c) && decide (1<(vX (W.getD v []) O).length))
def kMY{W:Rows}(S:Nb W){O:List Nat}{c v:Nat}{row:List Nat}(a:W[v]?=some row)(h:aJ W O c v=true):∃ Q,Nxt W O c v row (vX row O) Q:=by
 unfold aJ at h;have l:W.getD v []=row:=by rw[aj,a];rfl
 rw[l]at h;simp at h;obtain⟨h1,g,b⟩:=h;have nd:=S.nd _ _ a;obtain⟨Q,d,i,f,j⟩:=kDJ (A:=O) nd b;exact⟨Q,(ao.mp a).1,h1,g,a,d,i,f,b,j⟩
def kMU{W:Rows}(S:Nb W){O:List Nat}{c v:Nat}{row R Q:List Nat}(N:Nxt W O c v row R Q):aJ W O c v=true:=by
 have a:W.getD v []=row:=by rw[aj,N.er];rfl
 have two:=N.two;have:=kLY (S.nd _ _ N.er) N.ro N.hR N.hQ (λ z=>by rw[z]at two;simp at two) N.ne;unfold aJ;rw[a,decide_eq_false N.no,decide_eq_false N.nc,decide_eq_true (by omega)]
 rfl
inductive oO(vs:List V)(H:Hp)(Q:VK)(Y:XK):Prop
 | mk:∀(p r z:av)(W:Rows)(a b c:Nat),(vs=[.ref p,.ref r,.ref z])->(PotAt H p)->(WebAt H r W)->(Good W)->(W.length<=42)->(H z=some (.tup [vn a,vn b,vn c]))->(Tri.E W a c)->((nxt W (a,c)).2=b)->(∀(t o rl:av)(ra:List av)(ms:List Nat)(Fs Ts:List (List Nat))(H':Hp),SameBut p H H'->PotAt H' p->H' t=some (.tup [.ref o,.ref rl])->H' o=some (.tup (ms.map vn))->RnAt H' rl ra Fs->jX W a b c ms=some (Fs,Ts)->ms.Perm (cw W.length)->Q (.ref t) H')->oO vs H Q Y
def mJ(B:Fx):Hs "_law_ordered" ["_law_pot_here","_law_web_here","_law_base_here"] 3 (oO):=by
 refine qM B.X B.d36 hZ λ f dd A ch s0 H vs Q E nN hr h=>?_;obtain⟨p,r,z,W,a,b,c,rfl,hp,hw,G,d7,hz,ab,b6,k⟩:=h
 refine⟨_,(kH (pst 3 nN (jD (p2 (pix qC (pv 2) kI) (pix qC (pv 2) kI))))
   (kH (pst 4 nN (jD kW))
   (kH (nV (jV rfl (B.z B.y3) (p1 (kX zL (kR kP rfl (B.z B.y0) fc (p1 (pv 1))) kI))) (pgn 5 nN) (kH (bO (i:=6) (Nc:=["_law_v","_law_order","_law_base_here","_law_web_here"]) (js:=[none,some 3,some 2,some 1]) rfl rfl nN rfl (yw rfl) (jV rfl (B.z B.y3) (p1 (kR kP rfl (B.z B.y0) fc (p1 (pv 1))))) (CS.of rfl rfl) rfl (λ C bt bo fp br=>(zV (i:=0) (show Ba (α:=Str) ["_law_v","_law_order","_law_base_here","_law_web_here"] by decide +kernel) rfl (yw rfl))) (λ C bt bo fp br D L=>(zK (PW.pt (mB (kZ (show OpR _ _ (rIn K true) from zC) (pv 0) (pv 1) rfl) (mB (kZ mF (pv 0) (pix (show IxR _ (kAW K) from qC) (pv 2) kI) (qO _)) (fY (kZ kMR (kR (show yY _ _ (yQ K) from kP) rfl (B.z B.y0) fc (p1 (pf (mI B) hr (kE (pv 3) (kE (pv 1) (kE (pv 0) kW)))))) kI (qO _)))))) (jP (pv 0)))))
   (kH (pst 7 nN (pix kY (pv 6) (pf (qV B) hr (p2 (pv 0) (kR kP rfl (B.z B.y0) fc (p1 (pv 6)))))))
   (kH (qK (jQ jo jq xE (pv 4) (p1 (pf (mI B) hr (kE (pv 1) (kE (pv 3) (kE (pv 7) kW)))))))
   (kJ (qK (jQ jo jq xE (pv 3) (p1 (pv 7)))))))))
   (kH (pst 8 nN (pix qC (pv 1) (pix qC (pv 2) kI)))
   (kH (pst 9 nN (kBA zg zh zi dE (pv 8) (p1 (pix qC (pv 2) kI))))
   (kJ (kU (qU (p2 (kX aF (jM qY rfl (B.z B.y6) je (p1 (pv 3))) (qU (p1 (pix qC (pv 2) kI)))) (kX dA (pv 4) (jD (p1 (kX aF (qD yN (pv 8) (qF (pv 9)) jA) (qD yN (pv 8) jA (qF (pv 9)))))))))))))))),?_⟩
 try dsimp only[qW]
 have S:=(Wb.of G).toNb;have J:=(jR G).1;have l3:=G.three;obtain⟨g,n1,n2,n3,e1,e2⟩:=qP S J ab;rw[n1]at b6;obtain rfl:g=b:=b6;have a1:Tri.E W a g:=S.sym _ _ e2;have bc:(nxt W (g,a)).2=c:=by rw[n3]
 have ca:c≠a:=(S.e ab).2.2;have cb:c≠g:=λ q=>(S.e e1).2.2 q.symm;refine⟨_,rfl,z,_,_,_,rfl,rfl,SqT.of hz,(show atI [vn a,vn g,vn c] 0=_ from rfl),_,rfl,z,_,_,_,rfl,rfl,SqT.of hz,(show atI [vn a,vn g,vn c] 1=_ from rfl),yS2,λ s af=>?_⟩;have g1:=kC af (.lst [vn a,vn g]);have b0:=kA (H:=H) (a:=s) (o:=.lst [vn a,vn g]);refine⟨yS0,λ u ap=>?_⟩;have g2:=kC ap (.lst []);have cn:=kA (H:=upd H s (.lst [vn a,vn g])) (a:=u) (o:=.lst []);have b5:=g2 _ _ b0;have am:=g1.trans g2;have as:H u=none:=g1.free ap;have ba:s≠u:=kO b0 ap;obtain⟨px,py,a0,d9⟩:=id hp;have bi:s≠p:=(kO a0 af).symm;have b2:u≠p:=(kO a0 as).symm;have d3:=hw.kept am;have c6:=hp.kept am;generalize upd (upd H s (.lst [vn a,vn g])) u (.lst [])=H0 at *;obtain⟨wt,c9,a3,_⟩:=id d3;refine⟨_,rfl,r,_,rfl,.inr (SqT.of c9),_,_,rfl,rfl,_,rfl,(by rw[ak,a3];omega),(by rw[ak,a3];omega),?_⟩;refine yJ (n:=(((((wt.map V.ref).length:Nat):Int))-3).toNat) (λ i σ H2=>∃(x5 x6 x7 x8 x9:Option V)(O:List Nat)(Fs Ts:List (List Nat))(Z:List av),σ=[some (.ref p),some (.ref r),some (.ref z),some (.ref s),some (.ref u),x5,x6,x7,x8,x9]/\SameBut p H H2/\PotAt H2 p/\H2 s=some (.lst (O.map vn))/\RnAt H2 u Z Fs/\OI W a g c O Fs Ts/\O.length=i+2) ⟨_,_,_,_,_,[a,g],[],[[a,g]],[],rfl,SameBut.of am,c6,b5,⟨cn,rfl,λ i a F e=>by simp at e⟩,OI.start S a1 ca cb,rfl⟩ ?_ ?_
 ·rintro i σ H2 hi ⟨x5,x6,x7,x8,x9,O,Fs,Ts,Z,rfl,sb,pt,hO,RN,I,lO⟩
  have cp:O.length+1<W.length:=by
   rw[ak,a3]at hi;omega
  have a4:=hw.pot sb hp;have U:=sb z _ (λ q=>by rw[q,a0]at hz;cases hz) hz;obtain⟨b7,Y,l,_⟩:=id a4;refine⟨_,rfl,r,_,rfl,.inr (SqT.of Y),_,rfl,(by rw[ak,l];omega),(by rw[ak,l];omega),λ D nD=>?_⟩;refine vB (lo:=0) (n:=((((b7.map V.ref).length:Nat):Int)).toNat) (λ j σ H3=>∃(x0:Option V),σ=[x0,some (.ref s),some (.ref z),some (.ref r)]/\Same H2 H3/\H3 D=some (.lst (((cw j).filter (aJ W O c)).map vn))) ⟨none,rfl,kC nD _,kA⟩ ?_ ?_
  ·rintro j σ H3 hj ⟨x0,rfl,M,hD⟩
   have cd:j<W.length:=by rw[ak,iw,l]at hj;exact hj
   have T:=ae cd;have eg:W.getD j []=W[j]:=by rw[aj,T];rfl
   have a7:=S.len T
   have lz:(((cw j).filter (aJ W O c)).map vn).length<sizeLine:=by
    rw[ak];have:=ni (aJ W O c) (cw j);rw[iH]at this;exact kS (by omega)
   rw[lY];have em:aJ W O c j=(!decide (j∈O) && (!decide (j=c) && decide (1<(vX W[j] O).length))):=by unfold aJ;rw[eg]
   rw[em];generalize(cw j).filter (aJ W O c)=L at *;refine⟨_,rfl,_,rfl,s,_,rfl,.inl (SqL.of (M _ _ hO)),rfl,yT _,_,rfl,?_⟩;have e0:V.int (0+(j:Int))=vn j:=by rw[xh];rfl
   rw[e0,wD];by_cases c1:j∈O
   ·rw[decide_eq_true c1]
    exact jY (jY ⟨_,rfl,M,by rw[if_neg (by simp),iU];exact hD⟩)
   rw[decide_eq_false c1];refine zT ⟨_,rfl,_,rfl,z,_,_,_,rfl,rfl,SqT.of (M _ _ U),(show atI [vn a,vn g,vn c] 2=_ from rfl),rfl,_,rfl,?_⟩;by_cases c2:j=c
   ·have e2:(!decide (vn j=vn c))=false:=by rw[c2];simp
    rw[e2];exact jY (jY ⟨_,rfl,M,by rw[decide_eq_true c2,if_neg (by simp),iU];exact hD⟩)
   have e2:(!decide (vn j=vn c))=true:=by
    rw[decide_eq_false (λ q=>c2 (by have q:V.int (j:Int)=V.int (c:Int):=q;injection q with q;omega))]
    rfl
   rw[e2];refine zT ?_;refine⟨_,rfl,_,rfl,_,rfl,r,s,W,O,_,j,rfl,a4.kept M,M _ _ hO,T,by omega,by omega,λ t H4 g4 ht=>?_⟩;have bx:=M.trans g4;refine⟨t,_,rfl,.inr (SqT.of ht),_,_,rfl,rfl,_,rfl,?_⟩;have e3:(1:Int)<(((vX W[j] O).map vn).length:Nat)↔1<(vX W[j] O).length:=by rw[ak];omega
   by_cases c3:1<(vX W[j] O).length
   ·rw[decide_eq_true (e3.mpr c3)]
    refine zT ⟨_,rfl,_,g4 _ _ hD,lz,⟨_,rfl,qI nD bx,?_⟩⟩;rw[decide_eq_false c2,decide_eq_true c3,if_pos (by rfl),kA,du]
    rfl
   ·rw[decide_eq_false (λ q=>c3 (e3.mp q))]
    refine jY ⟨_,rfl,bx,?_⟩;rw[decide_eq_false c2,decide_eq_false c3,if_neg (by decide),iU];exact g4 _ _ hD
  ·rintro σ H3 ⟨x0,rfl,M,hD⟩
   rw[ak,iw,l]at hD;obtain⟨v0,d4,R0,Q0,N0⟩:=I.next G a1 bc cp;have ax:v0∈(cw W.length).filter (aJ W O c):=iX.mpr ⟨jr.mpr N0.lt,kMU S N0⟩
   have lL:((cw W.length).filter (aJ W O c)).length<=42:=by
    have:=ni (aJ W O c) (cw W.length);rw[iH]at this;omega
   have cz:∀ v∈(cw W.length).filter (aJ W O c),v<W.length/\aJ W O c v=true:=λ v hv=>⟨jr.mp (iX.mp hv).1,(iX.mp hv).2⟩;generalize(cw W.length).filter (aJ W O c)=L at *;have d6:0<L.length:=List.length_pos_of_mem ax;obtain⟨qx,qy,bm,_⟩:=id pt;have Dp:D≠p:=(kO bm nD).symm;refine⟨_,rfl,_,rfl,_,rfl,D,_,rfl,.inl (SqL.of hD),p,_,rfl,pt.kept M,(by rw[ak];omega),mQ (by rw[ak];exact jl (m:=42) (by omega) (by decide)),λ d H4 d0 d1 s4 p4=>?_⟩;rw[ak]at d1;obtain⟨dn,rfl⟩:=mf d0;have bv:dn<L.length:=by omega
   refine⟨D,_,_,_,rfl,rfl,SqL.of (s4 _ _ Dp hD),kOM bv,?_⟩;obtain⟨vl,vm⟩:=cz (L.getD dn 0) (di (xQ bv));generalize L.getD dn 0=v at *;have T:=ae vl;have a7:=S.len T;obtain⟨Q,N⟩:=kMY S T vm;obtain⟨ag,I'⟩:=I.more S J a1 bc N;have b3:SameBut p H H4:=sb.trans ((SameBut.of M).trans s4);have b8:=s4 _ _ bi (M _ _ hO);have bn:=(RN.kept M).but (λ b o nb e=>s4 b o nb e) b2 (λ xs e=>by rw[M _ _ bm]at e;cases e);have co:=hw.pot b3 hp;refine⟨_,rfl,.inl ⟨rfl,_,SqL.of bn.top⟩,_,rfl,_,rfl,_,rfl,r,s,W,O,_,v,rfl,co,b8,T,by omega,by omega,λ t H5 g5 ht=>?_⟩;have a2:=bn.kept g5;have c8:=g5 _ _ b8;have lF:Fs.length<=42:=by have:=(yG I.go).1;omega
   refine⟨u,_,_,rfl,rfl,a2.top,(by rw[ak,a2.len];exact kS (by omega)),?_⟩;have k6:∀ b o,b≠u->H5 b=some o->upd H5 u (.lst (Z.map V.ref++[.ref t])) b=some o:=λ b o nb e=>by rw[kM nb];exact e
   have cs:=kLZ (r':=u) a2 (λ b xs e=>k6 b _ (λ q=>by rw[q,a2.top]at e;cases e) e) ht kA;have aq:=k6 s _ ba c8;have c5:SameBut p H H5:=b3.trans (SameBut.of g5);have cc:SameBut p H (upd H5 u (.lst (Z.map V.ref++[.ref t]))):=λ b o nb e=>k6 b o (λ q=>by rw[q,as]at e;cases e) (c5 b o nb e)
   have d2:PotAt (upd H5 u (.lst (Z.map V.ref++[.ref t]))) p:=by
    obtain⟨x,y,hx,h0⟩:=p4.kept g5;exact⟨x,y,k6 p _ (sj b2) hx,h0⟩
   generalize upd H5 u (.lst (Z.map V.ref++[.ref t]))=H6 at *;refine⟨_,rfl,.inl ⟨rfl,_,SqL.of aq⟩,_,rfl,s,_,_,rfl,rfl,aq,(by rw[ak];exact kS (by omega)),?_⟩;have k7:∀ b o,b≠s->H6 b=some o->upd H6 s (.lst (O.map vn++[vn v])) b=some o:=λ b o nb e=>by rw[kM nb];exact e
   refine⟨_,_,_,_,_,O++[v],Fs++[vX W[v] O],ag,Z++[t],rfl,λ b o nb e=>k7 b o (λ q=>by rw[q,af]at e;cases e) (cc b o nb e),?_,?_,cs.but k7 (sj ba) (λ xs e=>by rw[aq]at e;cases e),I',by rw[bu,lO];rfl⟩
   ·obtain⟨x,y,hx,h0⟩:=d2
    exact⟨x,y,k7 p _ (sj bi) hx,h0⟩
   ·rw[kA,du]
    rfl
 ·rintro σ H2 ⟨x5,x6,x7,x8,x9,O,Fs,Ts,Z,rfl,sb,pt,hO,RN,I,lO⟩
  rw[ak,a3]at lO;have full:O.length+1=W.length:=by omega
  obtain⟨row,ag,T,ro,hd,la,pm⟩:=I.last G a1 bc full;have nd:=S.nd _ _ T;have rf:=kPF ro nd hd;rw[<-rf]at la
  have ma:a∈row:=by
   obtain⟨d5,b1,m⟩:=S.sym _ _ ab;rw[T]at b1
   cases b1
   exact m
  have ia:=gj ma;have a7:=S.len T;have a4:=hw.pot sb hp;have U:=sb z _ (λ q=>by rw[q,a0]at hz;cases hz) hz;obtain⟨b7,Y,l,rows⟩:=a4.at;obtain⟨rb,c7,ah⟩:=rows c row T;refine⟨_,rfl,_,rfl,z,_,_,_,rfl,rfl,SqT.of U,(show atI [vn a,vn g,vn c] 2=_ from rfl),r,_,_,_,rfl,rfl,SqT.of Y,c7,?_⟩;refine⟨_,rfl,.inr (.inl ⟨rfl,.inr ⟨_,ah⟩⟩),_,rfl,z,_,_,_,rfl,rfl,SqT.of U,(show atI [vn a,vn g,vn c] 0=_ from rfl),rb,row.map ci,a,row.idxOf a,rfl,rfl,SqT.of (by rw[ah,xI]),qN ma,?_⟩;have db:O.length<=42:=by omega
  have da:Fs.length<=42:=by have:=(yG I.go).1;omega
  refine⟨_,rfl,s,_,rfl,.inl ⟨SqL.of hO,λ t1 m1=>?_⟩⟩;have q1:=kC m1 (.tup (O.map vn));have cl:=kA (H:=H2) (a:=t1) (o:=.tup (O.map vn));generalize upd H2 t1 (.tup (O.map vn))=H3 at *;refine⟨_,rfl,z,_,_,_,rfl,rfl,SqT.of (q1 _ _ U),(show atI [vn a,vn g,vn c] 2=_ from rfl),yS1,λ t2 m2=>?_⟩;have q2:=kC m2 (.tup [vn c]);have ct:=kA (H:=H3) (a:=t2) (o:=.tup [vn c]);generalize upd H3 t2 (.tup [vn c])=H4 at *;refine⟨t1,t2,_,_,rfl,rfl,q2 _ _ cl,ct,(by rw[ak,fk];exact fv (kS (by omega))),λ t3 H5 q3 cr=>?_⟩;have q3:Same H4 H5:=q3;have a8:=q1.trans (q2.trans q3);have a5:=a8 _ _ ah;refine⟨_,rfl,_,rfl,_,rfl,_,rfl,rb,_,rfl,a5,λ p1 H6 q6 b4=>?_⟩;rw[yU _ (by rw[ak];omega),<-zj]at b4;have q6:Same H5 H6:=q6;refine⟨_,rfl,_,rfl,_,rfl,rb,_,rfl,q6 _ _ a5,λ p2 H7 q7 a6=>?_⟩;rw[vO _ (by rw[ak];omega),<-xj]at a6;have q7:Same H6 H7:=q7;refine⟨p1,p2,_,_,rfl,rfl,q7 _ _ b4,a6,(by simp only[ak,iP,de];exact fv (kS (by omega))),λ t4 H8 q8 b9=>?_⟩;have q8:Same H7 H8:=q8;rw[<-du]at b9;refine⟨yS1,λ l1 m9=>?_⟩;have q9:=kC m9 (.lst [V.ref t4]);have c4:=kA (H:=H8) (a:=l1) (o:=.lst [V.ref t4]);have a9:=q6.trans (q7.trans (q8.trans q9));have aa:=(RN.kept a8).kept a9;have bl:=q9 _ _ b9;have bw:=a9 _ _ cr;generalize upd H8 l1 (.lst [V.ref t4])=H9 at *;refine⟨u,l1,_,_,rfl,rfl,aa.top,c4,(by rw[ak,fk,aa.len];exact fv (kS (by omega))),λ l2 ce=>?_⟩;have an:=kC ce (.lst (Z.map V.ref++[V.ref t4]));have aw:=kLZ (r':=l2) aa (λ b xs e=>an _ _ e) bl kA;have al:=an _ _ bw;generalize upd H9 l2 (.lst (Z.map V.ref++[V.ref t4]))=d8 at *;refine⟨yS2,λ tt mt=>?_⟩;have ac:=kC mt (.tup [V.ref t3,V.ref l2]);have qq:=a8.trans (a9.trans (an.trans ac));refine k tt t3 l2 (Z++[t4]) (O++[c]) _ ag _ (sb.trans (SameBut.of qq)) (pt.kept qq) kA ?_ (aw.kept ac) la pm;have:=ac _ _ al;rw[this,du]
  rfl
end
section
structure TrT(H:Hp)(t:av)(ta:List av)(S:List (Nat×Int×Int)):Prop where
 top:H t=some (.tup (ta.map V.ref))
 len:ta.length=S.length
 row:∀(i:Nat)(a:av)(s:Nat×Int×Int),ta[i]?=some a->S[i]?=some s->H a=some (.tup [vn s.1,.int s.2.1,.int s.2.2])
def TrT.kept{H H':Hp}{t:av}{c:List av}{S:List (Nat×Int×Int)}(h:TrT H t c S)(g:∀ b xs,H b=some (.tup xs)->H' b=some (.tup xs)):TrT H' t c S:=⟨g _ _ h.top,h.len,λ i a s f d=>g _ _ (h.row i a s f d)⟩
def kPH{H a:Hp}{d:av}{kvs:List (Key×V)}(f:∀ b u,b≠d->H b=some u->a b=some u){o:Obj}(g:a d=some (.frz o (.dK kvs)))(c:H d=some (.dK kvs)\/a=H) :
  (∀ b xs,H b=some (.tup xs)->a b=some (.tup xs))/\(∀ b xs,H b=some (.lst xs)->a b=some (.lst xs))/\∀ d' S,RdS H d' S->RdS a d' S:=by
 rcases c with e | rfl
 ·exact⟨λ b xs q=>f _ _ (λ z=>by rw[z,e]at q;cases q) q,λ b xs q=>f _ _ (λ z=>by rw[z,e]at q;cases q) q,λ d' S h=>h.frz e f ⟨o,g⟩⟩
 ·exact⟨λ _ _ q=>q,λ _ _ q=>q,λ _ _ r=>r⟩
inductive kFK(vs:List V)(H:Hp)(Q:VK)(Y:XK):Prop
 | mk:∀(w z o:av)(W:Rows)(ms:List Nat)(a b c:Nat)(Fs Ts:List (List Nat)),(vs=[.ref w,.ref z,.ref o])->(Gw H w z o W ms a b c)->((Tri.E W a c/\(nxt W (a,c)).2=b))->(jX W a b c ms=some (Fs,Ts))->(∀(t:av)(us:List av)(H':Hp),Same H H'->H' t=some (.tup (us.map V.ref))->us.length=Fs.length+1->(∀(j:Nat)(u:av),us[j]?=some u->∃ ta,TrT H' u ta (gF ms Fs Ts j).1)->Q (.ref t) H')->kFK vs H Q Y
def kBI(B:Fx):Hs "grids" ["web","base","order"] 9 (kFK):=by
 refine qM B.X B.d22 kLQ λ f b1 A af s0 H vs Q E nN hr h=>?_;obtain⟨w,z,o,W,J,a,b,c,Fs,Ts,rfl,G,an,hl,k⟩:=h
 refine⟨_,(kH (yB (pf (vW B) hr (kE (pv 0) (kE (pv 1) (kE (pv 2) kW)))) (jF (n:=2) rfl (kQ (pgn 3 nN) (kQ (pgn 4 nN) qR))))
   (kJ (kU (jM qY rfl (B.z B.y6) je (p1 (yC (Nc:=["spots"]) (js:=[none]) rfl rfl (xU (pf (fH B) hr (kE (pv 2) (kE (pv 3) (kE (pv 4) kW))))) (CS.of rfl rfl) rfl (λ C Z O fp U=>(pgc 0)) (λ C Z O fp U D L=>(qT (jP (jM (show yY _ _ (zR K) from qY) rfl (B.z B.y6) je (p1 (yC (Nc:=["p","x","y"]) (js:=[none,none,none]) rfl rfl (kIX (pv 0)) (CS.of rfl rfl) rfl (λ C Z O fp U=>(show PG _ _ (nX K 2 _) from jF rfl (kQ (pgc 0) (kQ (show PG _ _ (nX K 2 _) from jF rfl (kQ (pgc 1) (kQ (pgc 2) qR))) qR)))) (λ C Z O fp U D L=>(qT (jP (qU (kE (pv 0) (kE (pv 1) (kE (pv 2) kW))))))))))))))))))),?_⟩
 try dsimp only[qW]
 have ok:=dL G.tr G.ab G.perm G.three hl;have aq:=G.tr.le;refine⟨_,rfl,_,rfl,_,rfl,w,z,o,W,J,a,b,c,Fs,Ts,rfl,G,an,hl,λ t f g fa ga H1 g1 ht lf lg=>?_⟩;refine⟨t,_,rfl,SqT.of ht,rfl,_,_,rfl,_,_,rfl,rfl,?_⟩;refine⟨_,rfl,_,rfl,_,rfl,o,f,g,fa,ga,J,Fs,Ts,rfl,g1 _ _ G.ord,lf,lg,ok,λ td ds H2 g2 N len rd am=>?_⟩;have ax:J.length=W.length:=by rw[G.perm.length_eq,iH]
 have lF:=ok.lm;have aa:=g1.trans g2;refine⟨td,rfl,⟨_,SqL.of N⟩,λ D nD=>?_⟩;have fD:H D=none:=aa.free nD;refine jJ (xs:=ds.map V.ref) (λ j σ H3=>∃(x0:Option V)(I:List av),σ=[x0]/\Same H H3/\H3 td=some (.lst (ds.map V.ref))/\(∀ j d,ds[j]?=some d->RdS H3 d (gF J Fs Ts j).1)/\H3 D=some (.lst (I.map V.ref))/\I.length=j/\∀(i:Nat)(u:av),I[i]?=some u->∃ l,TrT H3 u l (gF J Fs Ts i).1) ⟨none,[],rfl,aa.trans (kC nD _),kC nD _ _ _ N,λ j d e=>(rd j d e).kept (kC nD _),kA,rfl,λ i u e=>by simp at e⟩ ?_ ?_ ?_
 ·rintro j σ H3 _ ⟨x0,I,rfl,g3,h3,_⟩
  exact SqL.of h3
 ·rintro j v σ H3 hv ⟨x0,I,rfl,g3,h3,r3,hD,lu,hu⟩
  rw[bg]at hv;obtain⟨d,ed,rfl⟩:=cq.mp hv;have hj:=(ao.mp ed).1;have fd:=g1.free (am d (di ed));have a7:=ok.inv j (by omega)
  have lS:(gF J Fs Ts j).1.length<=42:=by
   have:=congrArg jd a7.fst;rw[ak,de]at this;omega
  obtain⟨ts,a8,sp⟩:=r3 j d ed;refine⟨_,rfl,d,_,rfl,a8,λ o H4 ac k4 c4=>?_⟩;obtain⟨a1,a2,a4⟩:=kPH k4 ac c4;have g4:Same H H4:=λ b u q=>k4 b u (λ z=>by rw[z,fd]at q;cases q) (g3 b u q);have h4:=a2 _ _ h3;have r4:∀ j d,ds[j]?=some d->RdS H4 d (gF J Fs Ts j).1:=λ j d e=>a4 _ _ (r3 j d e);have Y:=a2 _ _ hD
  have ap:∀(i:Nat)(u:av),I[i]?=some u->∃ l,TrT H4 u l (gF J Fs Ts i).1:=λ i u e=>by
   obtain⟨l,q⟩:=hu i u e;exact⟨l,q.kept a1⟩
  have a3:=sp.to (d':=d) (H':=H4) a1;clear r3 h3 g3 hD hu sp a8 k4 a1 a2 a4 c4;have aw:=a3.len;have lK:(SpK (gF J Fs Ts j).1 ts).length=(gF J Fs Ts j).1.length:=by unfold SpK;rw[ak,Af];omega
  refine λ E nE=>?_;have DE:D≠E:=kO Y nE;generalize hS:(gF J Fs Ts j).1=S at *;refine gM (kvs:=SpK S ts) (λ i σ m=>∃(x0 x1 x2:Option V)(l:List av),σ=[x0,x1,x2]/\Same H4 m/\m E=some (.lst (l.map V.ref))/\l.length=i/\∀(i:Nat)(a:av)(s:Nat×Int×Int),l[i]?=some a->S[i]?=some s->m a=some (.tup [vn s.1,.int s.2.1,.int s.2.2])) ⟨none,none,none,[],rfl,kC nE _,kA,rfl,λ i a s e=>by simp at e⟩ ?_ ?_ ?_
  ·rintro i σ m _ ⟨x0,x1,x2,l,rfl,g5,_⟩
   exact g5 _ _ ac
  ·rintro i kv T σ m a0 nT ⟨x0,x1,x2,l,rfl,g5,hE,lt,ht⟩
   obtain⟨i1,i2,i3⟩ : ∃(i1:i<S.length)(i2:i<ts.length),kv=(gw (S[i].1:Int),V.ref ts[i]):=by
    have hi:=(ao.mp a0).1;rw[lK]at hi;refine⟨hi,by omega,?_⟩;unfold SpK at a0;rw[bg,nj (z:=(S[i],ts[i]'(by omega))) |>.mpr ⟨ae _,ae _⟩]at a0;exact(bq a0).symm
   subst i3;have eS:=ae i1;have al:=g5 _ _ (a3.row i _ _ (ae i2) eS);generalize S[i]=sv at *;obtain⟨p,x,y⟩:=sv;generalize ts[i]=t at *;have gT:=kC nT (.tup [kV (gw (p:Int)),V.ref t]);have hT:=kA (H:=m) (a:=T) (o:=.tup [kV (gw (p:Int)),V.ref t]);refine⟨T,_,rfl,SqT.of hT,rfl,_,_,rfl,_,_,rfl,t,_,rfl,SqT.of (gT _ _ al),rfl,_,_,rfl,_,_,rfl,rfl,?_⟩;have a9:=gT _ _ hE;have g6:=g5.trans gT;have ah:∀(i:Nat)(a:av)(s:Nat×Int×Int),l[i]?=some a->S[i]?=some s->upd m T (.tup [kV (gw (p:Int)),V.ref t]) a=some (.tup [vn s.1,.int s.2.1,.int s.2.2]):=λ i a s e1 e2=>gT _ _ (ht i a s e1 e2);generalize upd m T (.tup [kV (gw (p:Int)),V.ref t])=H6 at *;refine⟨rfl,_,rfl,_,rfl,_,rfl,yS3,λ q nq=>?_⟩;have gq:=kC nq (.tup [vn p,.int x,.int y]);refine⟨_,gq _ _ a9,(by rw[ak,lt];exact kS (by omega)),?_⟩
   have st:∀ b M,upd H6 q (.tup [vn p,.int x,.int y]) b=some (.tup M)->upd (upd H6 q (.tup [vn p,.int x,.int y])) E (.lst (l.map V.ref++[.ref q])) b=some (.tup M):=λ b M e=>by
    rw[kM λ z=>by rw[z,gq _ _ a9]at e;cases e];exact e
   refine⟨_,_,_,l++[q],rfl,qI nE (g6.trans gq),by rw[du];exact kA,by rw[bu,lt];rfl,λ i' a s e1 e2=>?_⟩;rcases snoc e1 with⟨c,e1⟩ | ⟨ei,e1⟩
   ·exact st _ _ (gq _ _ (ah i' a s e1 e2))
   ·rw[ei,lt,eS]at e2
    cases e1
    cases e2
    exact st _ _ kA
  ·rintro σ m ⟨as,x1,x2,l,rfl,g5,hE,lt,ht⟩
   rw[lK]at lt;refine⟨E,_,rfl,.inl ⟨SqL.of hE,λ q nq=>?_⟩⟩;have gq:=kC nq (.tup (l.map V.ref));have r:=g5.trans gq;refine⟨_,r _ _ Y,(by rw[ak,lu];exact kS (by omega)),?_⟩;have a6:=r _ _ Y;have k7:∀ b u,b≠D->upd m q (.tup (l.map V.ref)) b=some u->upd (upd m q (.tup (l.map V.ref))) D (.lst (I.map V.ref++[.ref q])) b=some u:=λ b u nb e=>by rw[kM nb];exact e
   have st:∀ b M,upd m q (.tup (l.map V.ref)) b=some (.tup M)->upd (upd m q (.tup (l.map V.ref))) D (.lst (I.map V.ref++[.ref q])) b=some (.tup M):=λ b M e=>k7 b _ (λ z=>by rw[z,a6]at e;cases e) e;refine⟨_,I++[q],rfl,λ b u e=>k7 b u (λ z=>by rw[z,fD]at e;cases e) (r _ _ (g4 b u e)),?_,λ j' d' e=>?_,by rw[du];exact kA,by rw[bu,lu];rfl,λ i' u e=>?_⟩
   ·refine k7 td _ (λ z=>?_) (r _ _ h4)
    rw[z]at N;rw[nD]at N;cases N
   ·refine((r4 j' d' e).kept r).but k7 (λ z=>?_) (λ M e=>by rw[a6]at e;cases e)
    obtain⟨b0,a5,_⟩:=r4 j' d' e;rw[z]at a5;rcases a5 with q | ⟨ob,q⟩
    ·rw[Y]at q;cases q
    ·rw[Y]at q;cases q
   ·rcases snoc e with⟨c,e⟩ | ⟨ei,e⟩
    ·obtain⟨ag,q'⟩:=ap i' u e
     exact⟨ag,(q'.kept λ b M e=>r _ _ e).kept st⟩
    ·cases e
     rw[ei,lu,hS];exact⟨l,⟨st _ _ kA,lt,λ i a s e1 e2=>st _ _ (gq _ _ (ht i a s e1 e2))⟩⟩
 ·rintro σ H3 ⟨x0,I,rfl,g3,h3,r3,hD,lu,hu⟩
  refine⟨D,_,rfl,.inl ⟨SqL.of hD,λ t' nt=>?_⟩⟩;have gt:=kC nt (.tup (I.map V.ref));refine k t' I _ (g3.trans gt) kA (by rw[lu,ak,len]) λ i u e=>?_;obtain⟨l,q⟩:=hu i u e;exact⟨l,q.kept λ b M e=>gt _ _ e⟩
inductive oQ(vs:List V)(H:Hp)(Q:VK)(Y:XK):Prop
 | mk:∀(w z o:av)(W:Rows)(ms:List Nat)(a b c:Nat),(vs=[.ref w,.ref z,.ref o])->(Gw H w z o W ms a b c)->((Tri.E W a c/\(nxt W (a,c)).2=b))->(∀ H',Same H H'->Q (.bl (jX W a b c ms).isSome) H')->oQ vs H Q Y
def kBG(B:Fx):Hs "is_order" ["web","base","thing"] 8 (oQ):=by
 refine qM B.X B.d18 kAQ λ f u A l D H y Q E L n h=>?_;obtain⟨w,z,o,W,q,a,b,c,rfl,G,d,k⟩:=h
 refine⟨_,(kH (qK (pf (zX B) n (p2 (pv 0) (pv 1))))
   (kJ (kU (zW kGD (pf (kGG B) n (kE (pv 0) (kE (pv 1) (kE (pv 2) kW)))) wJ (qO _))))),?_⟩
 try dsimp only[qW]
 refine⟨_,rfl,_,rfl,w,z,W,a,b,c,rfl,G.web,G.tr,G.base,d.1,d.2,λ v i=>?_⟩;refine⟨_,rfl,_,rfl,_,rfl,w,z,o,W,q,a,b,c,rfl,G.kept i,(λ r m j=>?_),λ s p e t f g J I m j x C M=>?_⟩
 ·rw[r]at k
  exact⟨rfl,k m (i.trans j)⟩
 ·rw[e]at k
  exact⟨rfl,k m (i.trans j)⟩
end
section
structure RwT(H:Hp)(t:av)(ta:List av)(L:List (List Int)):Prop where
 top:H t=some (.tup (ta.map V.ref))
 len:ta.length=L.length
 row:∀(i:Nat)(a:av)(r:List Int),ta[i]?=some a->L[i]?=some r->H a=some (.tup (r.map V.int))
structure RwL(H:Hp)(t:av)(ta:List av)(L:List (List Int)):Prop where
 top:H t=some (.lst (ta.map V.ref))
 len:ta.length=L.length
 row:∀(i:Nat)(a:av)(r:List Int),ta[i]?=some a->L[i]?=some r->H a=some (.tup (r.map V.int))
def RwL.kept{H H':Hp}{t:av}{b:List av}{L:List (List Int)}(h:RwL H t b L)(g:Same H H'):RwL H' t b L:=⟨g _ _ h.top,h.len,λ i a r d c=>g _ _ (h.row i a r d c)⟩
def r3(s:Nat×Int×Int):List Int:=[(s.1:Int),s.2.1,s.2.2]
theorem TrT.rw{H:Hp}{t:av}{b:List av}{S:List (Nat×Int×Int)}(h:TrT H t b S):RwT H t b (S.map r3):=⟨h.top,by rw[ak];exact h.len,λ i a r f c=>by
 rw[bg]at c;obtain⟨s,d,rfl⟩:=cq.mp c;exact h.row i a s f d⟩
def uO(r:List Int):Cu:=.tuple (r.map iu)
def kCF{H:Hp}(r:List Int):DtAll K H (r.map iu) (r.map V.int):=by
 induction r with
 | nil=>unfold DtAll;rfl
 | cons x r ih =>
  rw[gh,gh];unfold DtAll;exact⟨_,_,rfl,(by unfold Dt;rfl),ih⟩
theorem tN{H:Hp}:∀{c:List av}{L:List (List Int)},c.length=L.length->(∀(i:Nat)(a:av)(r:List Int),c[i]?=some a->L[i]?=some r->H a=some (.tup (r.map V.int)))->DtAll K H (L.map uO) (c.map V.ref)
 | [],[],_,_=>by unfold DtAll;rfl
 | s::ss,t::T,hl,h=>by
  rw[gh,gh];unfold DtAll;refine⟨_,_,rfl,?_,tN (by simpa using hl) λ i b u f d=>h (i+1) b u (by simpa using f) (by simpa using d)⟩;unfold uO Dt;exact⟨s,_,rfl,SqT.of (h 0 s t rfl rfl),kCF t⟩
 | [],_::_,hl,_=>by simp at hl
 | _::_,[],hl,_=>by simp at hl
def RwT.dt{H:Hp}{t:av}{a:List av}{L:List (List Int)}(h:RwT H t a L):Dt K H (.tuple (L.map uO)) (.ref t):=by
 unfold Dt;exact⟨t,_,rfl,SqT.of h.top,tN h.len h.row⟩
def RwL.dt{H:Hp}{t:av}{a:List av}{L:List (List Int)}(h:RwL H t a L):Dt K H (.list (L.map uO)) (.ref t):=by
 unfold Dt;exact⟨t,_,rfl,SqL.of h.top,tN h.len h.row⟩
def pP(r:List Int):lj (r.map iu)=true/\ph (r.map iu)=0:=by
 induction r with
 | nil=>exact⟨rfl,by decide⟩
 | cons x l ih=>simp[lj,ph,mh,ql,ih]
def pD(L:List (List Int)):lj (L.map uO)=true/\ph (L.map uO)<=1:=by
 induction L with
 | nil=>exact⟨rfl,by decide⟩
 | cons x l ih =>
  obtain⟨h1,a⟩:=pP x;simp only[gh,lj,ph,uO,mh,ql,h1,a,ih.1];have:=ih.2;refine⟨rfl,?_⟩;unfold uO at this;omega
def rX(L:List (List Int)):kj (.list (L.map uO))=true:=by
 obtain⟨h1,a⟩:=pD L;unfold kj;simp only[mh,ql,h1]
 first | (simp;omega) | (rw[iK];exact⟨rfl,decide_eq_true (by omega)⟩) | simp_all
def pQ(l:List Int):iW (l.map iu) (l.map iu)=true:=by
 induction l with
 | nil=>rfl
 | cons x l ih=>simp[iW,ja,ih]
def pE(L:List (List Int)):iW (L.map uO) (L.map uO)=true:=by
 induction L with
 | nil=>rfl
 | cons x l ih=>simp[iW,ja,ih,uO,pQ]
def exL(xs:List V)(k:Nat)(x y:V):List V:=xs.take k++[y,x]++xs.drop (k+2)
inductive kLL(vs:List V)(H:Hp)(Q:VK)(Y:XK):Prop
 | mk:∀(a:av)(xs:List V)(k:Nat)(x y:V),(vs=[.ref a,vn k])->(H a=some (.tup xs))->(xs[k]?=some x)->(xs[k+1]?=some y)->(xs.length<=1000)->(∀(t:av)(H':Hp),Same H H'->H' t=some (.tup (exL xs k x y))->Q (.ref t) H')->kLL vs H Q Y
def dC(B:Fx):Hs "_law_exchanged" ["_law_order","_law_k"] 1 (kLL):=by
 refine qM B.X B.d37 cW λ f O A n s0 H vs Q E nN hr h=>?_;obtain⟨a,c,k,x,y,rfl,m,Y,s,N,q⟩:=h;refine⟨_,(kJ (kU (kX aF (kX aF (qD yN (pv 0) jA (qF (pv 1))) (qU (p2 (pix qC (pv 0) (kX jG (pv 1) kI)) (pix qC (pv 0) (pv 1))))) (qD yN (pv 0) (qF (kX jG (pv 1) kI)) jA)))),?_⟩
 try dsimp only[qW]
 have lk:=(ao.mp s).1;have I:xS c none (some (k:Int))=c.take k:=vO _ (by omega)
 have L:xS c (some ((k:Int)+2)) none=c.drop (k+2):=by
  rw[show((k:Int)+2)=((k+2:Nat):Int) by omega];exact yU _ (by omega)
 refine⟨_,rfl,_,rfl,_,rfl,a,c,rfl,m,λ p1 G i h1=>?_⟩;have i:Same H G:=λ b o e=>i b o e;rw[I]at h1;have g:=i _ _ m
 have at1:atI c ((k:Int)+1)=some y:=by
  rw[show((k:Int)+1)=((k+1:Nat):Int) by omega];exact qS s
 refine⟨_,rfl,_,rfl,_,_,rfl,rfl,a,_,_,_,rfl,rfl,SqT.of g,at1,_,rfl,_,rfl,a,_,_,_,rfl,rfl,SqT.of g,qS Y,yS2,λ p2 Z=>?_⟩;have u:=kC Z (.tup [y,x]);refine⟨p1,p2,_,_,rfl,rfl,u _ _ h1,kA,(by rw[de];exact fv (kS (by show min k c.length+2<=1000;omega))),λ J D l S=>?_⟩;have l:Same _ D:=λ b o e=>l b o e;have d:=i.trans (u.trans l);refine⟨_,rfl,_,rfl,_,_,rfl,rfl,_,rfl,a,c,rfl,d _ _ m,λ T r j C=>?_⟩;have j:Same D r:=λ b o e=>j b o e;rw[L]at C;refine⟨J,T,_,_,rfl,rfl,j _ _ S,C,(by rw[bu,de,iP];exact fv (kS (by show min k c.length+2+(c.length-(k+2))<=1000;omega))),λ U v p M=>?_⟩;have p:Same r v:=λ b o e=>p b o e;exact q U v (d.trans (j.trans p)) M
def kGQ(r:List Int):kj (.list (r.map iu))=true:=by
 obtain⟨h1,a⟩:=pP r;unfold kj;simp only[mh,ql,h1,a]
 rfl
def kJP(l:List Int):ja (.list (l.map iu)) (.list (l.map iu))=true:=by simp[ja,pQ]
def oZ(L:List (List Int)):ja (.list (L.map uO)) (.list (L.map uO))=true:=by simp[ja,pE]
def kOU(l:List Nat):l.map vn=(l.map λ(p:Nat)=>(p:Int)).map V.int:=by rw[ui];rfl
def kRM{H:Hp}{t:av}{l:List Nat}(h:H t=some (.lst (l.map vn))):Dt K H (.list ((l.map λ(p:Nat)=>(p:Int)).map iu)) (.ref t):=by
 unfold Dt;exact⟨t,_,rfl,SqL.of (by rw[h,kOU]),kCF _⟩
def kDB{A B L M:List (List Int)}(p:A.Perm B)(pl:L.Perm A)(g:M.Perm B)(d:L.Pairwise (λ a b=>Srt.lexLt b a=false))(c:M.Pairwise (λ a b=>Srt.lexLt b a=false)):L=M :=
 Bz (le:=λ a b=>Srt.lexLt b a=false) (λ a b _ _ h1 f=>Srt.lex_tot a b f h1) d c (pl.trans (p.trans g.symm))
def TrT.ps{H:Hp}{t:av}{a:List av}{S:Sps}(h:TrT H t a S):((a.zip (S.map r3)).map λ q=>V.ref q.1)=a.map V.ref/\kQU H (a.zip (S.map r3))/\(a.zip (S.map r3)).map tm=S.map r3:=by
 have g:a.length=(S.map r3).length:=by rw[ak];exact h.len
 refine⟨?_,λ q c=>?_,Ac (by omega)⟩
 ·show(a.zip (S.map r3)).map (V.ref∘CD)=_
  rw[<-ui,CJ (by omega)]
 ·obtain⟨j,f⟩:=AW.mp c
  obtain⟨d,b⟩:=nj.mp f;refine⟨h.rw.row j _ _ d b,λ z=>?_⟩;rw[bg]at b;obtain⟨s,_,e⟩:=cq.mp b;rw[<-e]at z;cases z
def cX{H:Hp}{l:av}{ps:List (av×List Int)}(h:H l=some (.lst (ps.map λ q=>V.ref q.1)))(t:∀ q∈ps,H q.1=some (.tup (q.2.map V.int))):RwL H l (ps.map CD) (ps.map tm) :=
 ⟨by rw[h,ui];rfl,by rw[ak,ak],λ i a r d b=>by
  rw[bg]at d b;obtain⟨q,c,rfl⟩:=cq.mp d;rw[c]at b;cases b
  exact t q (di c)⟩
structure GrT(H:Hp)(t:av)(us:List av)(S:Nat->Sps)(m:Nat):Prop where
 top:H t=some (.tup (us.map V.ref))
 len:us.length=m
 row:∀(j:Nat)(u:av),us[j]?=some u->∃ ta,TrT H u ta (S j)
theorem GrT.kept{H H':Hp}{t:av}{a:List av}{S:Nat->Sps}{m:Nat}(h:GrT H t a S m)(g:Same H H'):GrT H' t a S m:=⟨g _ _ h.top,h.len,λ j u e=>by
 obtain⟨c,q⟩:=h.row j u e;exact⟨c,q.kept λ b d e=>g _ _ e⟩⟩
def GrT.at{H:Hp}{t:av}{b:List av}{S:Nat->Sps}{m j:Nat}(h:GrT H t b S m)(c:j<m):∃ u ta,atI (b.map V.ref) (0+(j:Int))=some (.ref u)/\TrT H u ta (S j):=by
 have a:j<b.length:=by rw[h.len];exact c
 obtain⟨ta,q⟩:=h.row j _ (ae a);exact⟨b[j],ta,by rw[xh];exact qS (by rw[bg,ae a];rfl),q⟩
inductive kFE(vs:List V)(H:Hp)(Q:VK)(Y:XK):Prop
 | mk:∀(bt aa o:av)(us ws:List av)(S S':Nat->Sps)(ms:List Nat)(k m:Nat),(vs=[.ref bt,.ref aa,.ref o,vn k])->GrT H bt us S m->GrT H aa ws S' m->(H o=some (.tup (ms.map vn)))->(m+1=ms.length)->(ms.length<=42) ->
  (∀ j,j<m->(S' j).map (·.1)=ms.take (j+2))->(∀ j,j<m->j≠k-1->(S' j).Perm (S j))->(2<=k)->(∀ H',Same H H'->Q (.bl true) H')->kFE vs H Q Y
def sO(B:Fx):Hs "_law_stays" ["_law_before","_law_after","_law_order","_law_k"] 1 (kFE):=by
 refine qM B.X B.d38 rP λ f an A af s0 H vs Q E nN hr h=>?_;obtain⟨bt,T,o,us,ws,S,Z,N,k,m,rfl,Bf,d,ho,lm,am,fst,pm,k2,q⟩:=h
 refine⟨_,(kH (xL (kZ mF (kR kP rfl (B.z B.y0) fc (p1 (pv 1))) (kR kP rfl (B.z B.y0) fc (p1 (pv 0))) (qO _)) (kJ (kU aP)) qQ)
   (kH (nV (jV rfl (B.z B.y3) (p1 (kR kP rfl (B.z B.y0) fc (p1 (pv 1))))) (pgn 4 nN) (kH (xL (kZ (cZ hr.units) (yC (Nc:=["_law_one"]) (js:=[none]) rfl rfl (bB (pix qC (pv 1) (pv 4))) (CS.of rfl rfl) rfl (λ C ab a8 fp a9=>(pgc 0)) (λ C ab a8 fp a9 D L=>(qT (jP (pix (show IxR _ (kAW K) from qC) (pv 0) kI))))) (jM cM rfl (B.z B.y12) Ca (p1 (qD yN (pv 2) jA (qF (kX jG (pv 4) kI))))) (qO _)) (kJ (kU aP)) qQ)
   (kJ (xL (PW.pt (mB (kZ mF (pv 4) (kX zL (pv 3) kI) (qO _)) (fY (kZ (cZ hr.units) (kR zS rfl (B.z B.y7) pd (p1 (pix qC (pv 1) (pv 4)))) (kR zS rfl (B.z B.y7) pd (p1 (pix qC (pv 0) (pv 4)))) (qO _))))) (kJ (kU aP)) qQ))))
   (kJ (kU aP)))),?_⟩
 try dsimp only[qW]
 refine⟨_,rfl,T,_,rfl,.inr (SqT.of d.top),_,rfl,bt,_,rfl,.inr (SqT.of Bf.top),rfl,_,rfl,?_⟩
 have el:(!decide (V.int (((ws.map V.ref).length:Nat):Int)=V.int (((us.map V.ref).length:Nat):Int)))=false:=by
  rw[ak,ak,d.len,Bf.len];simp
 rw[el];refine jY ?_;refine⟨_,rfl,T,_,rfl,.inr (SqT.of d.top),_,rfl,(by rw[ak,d.len];omega),(by rw[ak,d.len];omega),?_⟩;refine yJ (n:=((((ws.map V.ref).length:Nat):Int)).toNat) (λ i g U=>∃(x4:Option V),g=[some (.ref bt),some (.ref T),some (.ref o),some (vn k),x4]/\Same H U) ⟨_,rfl,Same.refl _⟩ ?_ ?_
 ·rintro i g U J ⟨x4,rfl,I⟩
  rw[ak,iw,d.len]at J;obtain⟨u,ta,a0,p⟩:=(d.kept I).at J;obtain⟨v,tb,ag,tv⟩:=(Bf.kept I).at J;refine⟨_,rfl,_,rfl,T,_,_,_,rfl,rfl,SqT.of (I _ _ d.top),a0,u,rfl,⟨_,SqT.of p.top⟩,λ D nD=>?_⟩
  have lS:(Z i).length<=42:=by
   have:=congrArg jd (fst i J);rw[ak,de]at this;omega
  refine zH (xs:=ta.map V.ref) (λ i' g G=>∃(x0:Option V),g=[x0]/\Same U G/\G D=some (.lst (((Z i).take i').map λ s=>vn s.1))) ⟨none,rfl,kC nD _,kA⟩ ?_ ?_ ?_
  ·rintro i' g G _ ⟨x0,rfl,j,_⟩
   exact SqT.of (j _ _ p.top)
  ·rintro i' x g G hx ⟨x0,rfl,j,Y⟩
   rw[bg]at hx;obtain⟨a,ea,rfl⟩:=cq.mp hx;have ah:=(ao.mp ea).1;have es:=ae (l:=Z i) (i:=i') (by rw[<-p.len];exact ah);have ha:=j _ _ (p.row i' a _ ea es);refine⟨_,rfl,a,_,_,_,rfl,rfl,SqT.of ha,rfl,_,Y,(by rw[ak,de];exact kS (by omega)),?_⟩;refine⟨_,rfl,qI nD j,?_⟩;rw[iq,es,du];exact kA
  ·rintro g G ⟨x0,rfl,j,Y⟩
   rw[ak,p.len,iJ]at Y;have eD:((Z i).map λ s=>vn s.1)=(N.take (i+2)).map vn:=by rw[<-fst i J,ui];rfl
   rw[eD]at Y;have a5:=I.trans j;refine⟨_,rfl,_,rfl,_,_,rfl,rfl,_,rfl,o,_,rfl,a5 _ _ ho,λ p1 H4 g4 h4=>?_⟩;have g4:Same G H4:=λ b u e=>g4 b u e
   have c1:xS (N.map vn) none (some (0+(i:Int)+2))=(N.take (i+2)).map vn:=by
    rw[show(0+(i:Int)+2)=((i+2:Nat):Int) by omega,vO _ (by rw[ak];omega),xj]
   rw[c1]at h4;refine⟨p1,_,rfl,.inr (SqT.of h4),λ l nl=>?_⟩;have gl:=kC nl (.lst ((N.take (i+2)).map vn));refine⟨_,_,kRM (gl _ _ (g4 _ _ Y)),kRM kA,kGQ _,kGQ _,_,rfl,?_⟩;rw[kJP];refine jY ?_;have g5:=a5.trans (g4.trans gl);have O:=j.trans (g4.trans gl);generalize upd H4 l (.lst ((N.take (i+2)).map vn))=H5 at *;refine⟨_,rfl,_,rfl,_,_,rfl,rfl,rfl,_,rfl,?_⟩;by_cases c:i=k-1
   ·have e0:(!decide (V.int (0+(i:Int))=V.int ((k:Int)-1)))=false:=by
     rw[show(0+(i:Int))=(k:Int)-1 by omega];simp
    rw[e0];exact jY (jY ⟨_,rfl,g5⟩)
   ·have e0:(!decide (V.int (0+(i:Int))=V.int ((k:Int)-1)))=true:=by
     rw[decide_eq_false λ z=>by injection z with z;omega]
     rfl
    rw[e0];refine zT ?_;have M:=p.kept λ b xs e=>O _ _ e;have a7:=tv.kept λ b xs e=>O _ _ e;obtain⟨a1,a2,a3⟩:=M.ps;obtain⟨b1,b2,b3⟩:=a7.ps;refine⟨_,rfl,_,rfl,T,_,_,_,rfl,rfl,SqT.of (g5 _ _ d.top),a0,u,ta.zip ((Z i).map r3),rfl,.inr (by rw[a1];exact SqT.of M.top),a2,λ sl a6 ac pp pw=>?_⟩;have r:=kC ac (.lst (a6.map λ q=>V.ref q.1));refine⟨_,rfl,_,rfl,bt,_,_,_,rfl,rfl,SqT.of (r _ _ (g5 _ _ Bf.top)),ag,v,tb.zip ((S i).map r3),rfl,.inr (by rw[b1];exact SqT.of (r _ _ a7.top)),(λ q y=>⟨r _ _ (b2 q y).1,(b2 q y).2⟩),λ sm a4 al qp qw=>?_⟩;have gm:=kC al (.lst (a4.map λ q=>V.ref q.1));refine⟨_,_,(cX (gm _ _ kA) λ q y=>gm _ _ (r _ _ (a2 q (pp.mem_iff.mp y)).1)).dt,(cX kA λ q y=>gm _ _ (r _ _ (b2 q (qp.mem_iff.mp y)).1)).dt,rX _,rX _,_,rfl,?_⟩;have e:a6.map tm=a4.map tm:=kDB ((pm i J c).map r3) (by have:=pp.map tm;rwa[a3]at this) (by have:=qp.map tm;rwa[b3]at this) (km.mpr pw) (km.mpr qw);rw[e,oZ];exact jY ⟨_,rfl,g5.trans (r.trans gm)⟩
 ·rintro g U ⟨x4,rfl,I⟩
  exact q U I
end
section
theorem kHO:∀{S:List (Nat×Int×Int)}{j:Nat}{s:Nat×Int×Int},(S.map (·.1)).Nodup->S[j]?=some s->atS S s.1=s.2
 | [],j,s,_,h=>by simp at h
 | s0::S,0,s,_,h=>by
  cases h
  unfold atS;rw[Cc (by simp)]
  rfl
 | s0::S,j+1,s,nd,h=>by
  have h:S[j]?=some s:=by simpa using h
  rw[gh,fu]at nd;have a:¬ s0.1=s.1:=λ z=>nd.1 (z ▸ iR.mpr ⟨s,di h,rfl⟩);have:=kHO nd.2 h;unfold atS at this ⊢;rw[Cd (by simpa using a)];exact this
def nQ{n:Nat}{ms:List Nat}{S:List (Nat×Int×Int)}{L:List (List Int)}(c:ms.Perm (cw n))(fst:S.map (·.1)=ms)(p:L.Perm (S.map r3))(g:L.Pairwise (λ a b=>Srt.lexLt b a=false)):L=(cw n).map λ(p:Nat)=>[(p:Int),(atS S p).1,(atS S p).2]:=by
 have nd:(S.map (·.1)).Nodup:=by rw[fst];exact c.nodup_iff.mpr tw
 have i:S.map r3=ms.map λ(p:Nat)=>[(p:Int),(atS S p).1,(atS S p).2]:=by
  rw[<-fst,ui];refine qk λ s h=>?_;obtain⟨j,l⟩:=AW.mp h;have:=kHO nd l;show r3 s=[(s.1:Int),(atS S s.1).1,(atS S s.1).2];rw[this]
  rfl
 refine Bz (le:=λ a b=>Srt.lexLt b a=false) (λ a b _ _ h1 f=>Srt.lex_tot a b f h1) g ?_ ?_
 ·refine km.mpr (Gg (λ{a b} (d:a<b)=>?_) AR)
  show Srt.lexLt [(b:Int),_,_] [(a:Int),_,_]=false;unfold Srt.lexLt;rw[if_neg (by omega)];exact decide_eq_false (by omega)
 ·rw[i]at p
  exact p.trans (c.map _)
def TK(H H':Hp):Prop:=∀ b a,H b=some (.tup a)->H' b=some (.tup a)
def TK.of{H H':Hp}(g:Same H H'):TK H H':=λ b a e=>g _ _ e
def TK.trans{H a c:Hp}(g:TK H a)(g':TK a c):TK H c:=λ b d e=>g' _ _ (g _ _ e)
def TK.pot{H H':Hp}{p:av}(h:PotAt H p)(g:SameBut p H H'):TK H H':=λ b a e=>g _ _ (λ z=>by
 obtain⟨x,y,hp,_⟩:=h;rw[z,hp]at e
 cases e) e
def Gw.tk{H H':Hp}{w z o:av}{W:Rows}{ms:List Nat}{a b c:Nat}(h:Gw H w z o W ms a b c)(g:TK H H'):Gw H' w z o W ms a b c :=
 ⟨by obtain⟨i,h1,d,f⟩:=h.web;exact⟨i,g _ _ h1,d,λ j a row m l=>g _ _ (f j a row m l)⟩,h.tr,g _ _ h.base,g _ _ h.ord,h.perm,h.three,h.ab⟩
def GrT.tk{H H':Hp}{t:av}{a:List av}{S:Nat->Sps}{m:Nat}(h:GrT H t a S m)(g:TK H H'):GrT H' t a S m:=⟨g _ _ h.top,h.len,λ j u e=>by
 obtain⟨b,q⟩:=h.row j u e;exact⟨b,q.kept g⟩⟩
structure PtT(H:Hp)(t:av)(ta:List av)(n:Nat)(X:Nat->Int×Int):Prop where
 top:H t=some (.tup (ta.map V.ref))
 len:ta.length=n
 row:∀(p:Nat)(a:av),ta[p]?=some a->H a=some (.tup [.int (X p).1,.int (X p).2])
def PtT.tk{H H':Hp}{t:av}{b:List av}{n:Nat}{X:Nat->Int×Int}(h:PtT H t b n X)(g:TK H H'):PtT H' t b n X:=⟨g _ _ h.top,h.len,λ p a e=>g _ _ (h.row p a e)⟩
theorem PtT.rw{H:Hp}{t:av}{b:List av}{n:Nat}{X:Nat->Int×Int}(h:PtT H t b n X):RwT H t b ((cw n).map λ p=>[(X p).1,(X p).2]) :=
 ⟨h.top,by rw[ak,iH,h.len],λ i a r d c=>by
  have f:i<n:=by rw[<-h.len];exact(ao.mp d).1
  rw[bg,DH f]at c;cases c
  exact h.row i a d⟩
def kLX(L:List (List Int)):kj (.tuple (L.map uO))=true:=by
 obtain⟨h1,a⟩:=pD L;unfold kj;simp only[mh,ql,h1]
 first | (simp;omega) | (rw[iK];exact⟨rfl,decide_eq_true (by omega)⟩) | simp_all
def kIR(L:List (List Int)):ja (.tuple (L.map uO)) (.tuple (L.map uO))=true:=by simp[ja,pE]
def kVI{α:Type}{l:List α}{i:Nat}(h:i<l.length)(d:α):l[i]?=some (l.getD i d):=by
 rw[aj,ae h]
 rfl
def mem_gE{W:Rows}{v z:Nat}:z∈W.getD v []↔Tri.E W v z:=by
 rw[aj];unfold Tri.E
 cases e:W[v]? with
 | none=>simp
 | some row=>simp
def kQM{W:Rows}{ms:List Nat}{a b c k:Nat}{g u:List (List Nat)}(T:Tr W)(h:Tri.E W a b)(H:ms.Perm (cw W.length))(N:3<=W.length)(f:jX W a b c ms=some (g,u))(M:2<=k)(O:k+2<ms.length)(L:ms.getD (k+1) 0∉W.getD (ms.getD k 0) []) :
  ∃ Fs' Ts',jX W a b c (exN ms k)=some (Fs',Ts')/\Fs'.length=g.length/\(∀ j,j<g.length+1->j≠k-1->(gF (exN ms k) Fs' Ts' j).1.Perm (gF ms g u j).1)/\∀ q,atS (gF (exN ms k) Fs' Ts' g.length).1 q=atS (gF ms g u g.length).1 q:=by
 have S:=T.nb;have i:ms.Nodup:=H.nodup_iff.mpr tw;have ok:=dL T h H N f;have s:ms.getD k 0∉W.getD (ms.getD (k+1) 0) []:=λ z=>L (mem_gE.mpr (S.sym _ _ (mem_gE.mp z)))
 have C:ms.take 2=[a,b]:=by
  unfold jX at f
  split at f
  case isFalse=>cases f
  rename_i ends
  obtain⟨A,l,_⟩:=ends
  match ms,A,l with
  | x::y::r,A,l =>
   cases A
   cases l
   rfl
 have h0:Top W (ms.take 2) (ms.take 2):=by rw[C];exact uB S h
 obtain⟨fs,I,n,v,U,m,G,X,Y,Q,lt,rfl,rfl,d⟩:=kEF i S.sym h0 M O s L f
 have B:goF W ms (ms.length-2)=some (fs++[n,v]++X,I++[U,G]++Y):=by
  unfold jX at f
  split at f
  ·exact f
  ·cases f
 have p:goF W (exN ms k) (ms.length-2)=some (fs++[v,n]++X,I++[m,G]++Y):=by
  unfold jX at d
  split at d
  ·rw[aH (by omega)]at d
   exact d
  ·cases d
 have Z:=(yG B).1;have J:=λ j D o=>kQK S T.three i C h M (by omega) (by omega) (by omega) B p Q lt j D o;refine⟨_,_,d,by simp,λ j D o=>(J j (by omega) o).symm,λ q=>?_⟩;refine(tT ?_ (J _ (by omega) (by omega)) q).symm;have:=(ok.inv (fs++[n,v]++X).length (be _)).fst;rw[this];exact i.sublist (wz _ _)
def kSU(B:Fx){f:av}{fd:ua}(F:Fun K "law" "law" kFQ f fd):FnOk P w K mg base CX0 11 f fd ["_law_script"] (oP K):=by
 refine F.ok sc_law (λ vs H Q E h=>?_) (λ ez A e7 s H vs Q E Y h=>?_)
 ·obtain⟨a,ns,rfl,_⟩:=h
  rfl
 obtain⟨a,ns,rfl,hS,ea,q⟩:=h
 refine⟨_,(kH (pst 1 sc_law.nd (pf (kDV B) Y (p2 (pv 0) kI)))
   (kH (pst 2 sc_law.nd (kX jG kI (pf (qV B) Y (p2 (pv 1) kI))))
   (kH (pst 3 sc_law.nd (pf (kDU B) Y (p2 (pf (fW B) Y (p2 (pv 1) (pv 2))) (pf (sP B) Y (p2 (pv 1) (pv 2))))))
   (kH (pst 4 sc_law.nd (pf (kBE B) Y (p2 (pv 1) (pv 3))))
   (kH (yB (pf (mJ B) Y (kE (pv 1) (kE (pv 3) (kE (pv 4) kW)))) (jF (n:=2) rfl (kQ (pgn 5 sc_law.nd) (kQ (pgn 6 sc_law.nd) qR))))
   (kH (pst 7 sc_law.nd (pf (kBI B) Y (kE (pv 3) (kE (pv 4) (kE (pv 5) kW)))))
   (kH (pst 8 sc_law.nd (pf (kGH B) Y (kE (pv 3) (kE (pv 4) (kE (pv 5) kW)))))
   (kH (nV (jV rfl (B.z B.y3) (p1 (pix kY (jD (p2 kI kI)) (jM kKE rfl (B.z B.y10) Cr (p1 (zW kMR (pv 2) kI (qO _))))))) (pgn 9 sc_law.nd) (kH (pst 10 sc_law.nd (kX jG kI (pf (qV B) Y (p2 (pv 1) (kX zL (pv 2) kI)))))
   (kJ (xL (kZ zC (pix qC (pv 5) (kX jG (pv 10) kI)) (pix qC (pv 3) (pix qC (pv 5) (pv 10))) rfl) (kH (pst 5 sc_law.nd (pf (dC B) Y (p2 (pv 5) (pv 10))))
   (kH (pst 11 sc_law.nd (pf (kBI B) Y (kE (pv 3) (kE (pv 4) (kE (pv 5) kW)))))
   (kH (xL (PW.pt (kMF (kZ kJA (pf (kBG B) Y (kE (pv 3) (kE (pv 4) (kE (pv 5) kW)))) aP (qO _)) (kDL (bA (aZ (pf (sO B) Y (kE (pv 7) (kE (pv 11) (kE (pv 5) (kE (pv 10) kW)))))))))) (kJ (kU aP)) qQ)
   (kH (xL (kZ (cZ Y.units) (pf (kGH B) Y (kE (pv 3) (kE (pv 4) (kE (pv 5) kW)))) (pv 8) (qO _)) (kJ (kU aP)) qQ)
   (kJ (pst 7 sc_law.nd (pv 11))))))) qQ))))
   (kJ (kU (zW (kDT Y.units) (kR zS rfl (B.z B.y7) pd (p1 (pix qC (pv 7) (bP vF kI)))) (yC (Nc:=["_law_p","_law_due"]) (js:=[none,some 8]) rfl rfl (jV rfl (B.z B.y3) (p1 (pv 2))) (CS.of rfl rfl) rfl (λ C dd d9 fp db=>(pgc 0)) (λ C dd d9 fp db D L=>(qT (jP (kX (show OpR _ _ (kME K) from aF) (qU (p1 (pv 0))) (pix (show IxR _ (kAW K) from qC) (pv 1) (pv 0))))))) (qO _)))))))))))),?_⟩
 try dsimp only[qW]
 refine⟨_,rfl,a,ns,_,rfl,hS,ea,(by decide),(by decide),λ p x y H1 hx g1 np hp=>?_⟩;have pA:PotAt H1 p:=⟨x,y,hp,hx⟩;have np:H p=none:=np;refine⟨_,rfl,p,_,rfl,pA,(by show(0:Int)<12;decide),mQ (by decide),λ d1 H4 dz es s4 p4=>⟨_,_,rfl,rfl,?_⟩⟩;obtain⟨d,rfl⟩:=mf dz;refine⟨_,rfl,_,rfl,p,3+d,rfl,p4,by omega,by omega,λ r A L H5 s5 p5 X GL lL NW=>?_⟩;refine⟨_,rfl,_,rfl,p,3+d,rfl,p5,by omega,λ l nm H6 s6 p6 nl la hl pm=>?_⟩;have X6:=X.but NW.pot.1 NW.pot.2 s6;rw[<-lL]at pm;refine⟨r,l,A,L,nm,rfl,X6,hl,pm,dJ GL (by omega),(λ p row e x hx=>(GL.rng p row x e hx).1),λ t W H7 g7 hW lW c8=>?_⟩;have G:Good W:=kMB GL (kJC pm lW c8);have ep:W.length=3+d:=by rw[lW,lL]
 have ba:W.length<=42:=by omega
 have p7:=p6.kept g7;clear X X6 NW hl c8;refine⟨_,rfl,_,rfl,p,t,W,rfl,p7,hW,G,ba,λ z x' y' c' H8 s8 p8 nz hz bc ac=>?_⟩;have b9:=hW.pot s8 p7;refine⟨_,rfl,_,rfl,_,rfl,p,t,z,W,x',y',c',rfl,p8,b9,G,ba,hz,bc,ac,λ tt o rl ra g u O H9 s9 p9 ce ho RN N bm=>?_⟩;have ch:=b9.pot s9 p8;obtain⟨en,ex,ct,_⟩:=id p8;have dp:=s9 z _ (λ q=>by rw[q,ct]at hz;cases hz) hz;refine⟨tt,_,rfl,SqT.of ce,rfl,_,_,rfl,_,_,rfl,rfl,?_⟩;have S:=(Wb.of G).toNb;have T:Tr W:=⟨S,ba,(jR G).1,(jR G).2⟩;obtain⟨z',m1,m2,m3,e1,e2⟩:=qP S T.three bc;rw[m1]at ac;have ac:z'=y':=ac;subst ac;have e3:Tri.E W x' z':=S.sym _ _ e2;have J:Gw H9 t z o W g x' z' c':=⟨ch,T,dp,ho,bm,G.three,e3⟩;have am:Tri.E W x' c'/\(nxt W (x',c')).2=z':=⟨bc,by rw[m1]⟩;refine⟨_,rfl,_,rfl,_,rfl,t,z,o,W,g,x',z',c',u,O,rfl,J,am,N,λ fo us et d8 c7 d6 dg=>?_⟩;have aa:=J.kept d8;refine⟨_,rfl,_,rfl,_,rfl,t,z,o,W,g,x',z',c',u,O,rfl,aa,am,N,λ t' d0 b0 bv cl b2 a7=>?_⟩;have an:=aa.kept bv;have ag:GrT b0 fo us (λ j=>(gF g u O j).1) (u.length+1):=GrT.kept ⟨c7,d6,dg⟩ bv;have ap:PtT b0 t' d0 W.length (atS (gF g u O u.length).1):=⟨cl,b2,a7⟩;have cn:PotAt b0 p:=(p9.kept d8).kept bv;have I:∀ q,atS (gF g u O u.length).1 q=atS (gF g u O u.length).1 q:=λ _=>rfl;generalize hX:atS (gF g u O u.length).1=X at ap;have I:∀ q,atS (gF g u O u.length).1 q=X q:=λ q=>by rw[hX]
 clear hW b9 ch hz dp RN ce J aa hX c7 d6 dg cl b2 a7 ho;refine⟨yS2,λ ln eh=>?_⟩;have gl:=kC eh (.lst [V.int 0,V.int 8]);refine⟨_,rfl,_,_,rfl,rfl,.inr ⟨_,rfl,?_⟩⟩
 obtain⟨m,em,hm⟩ : ∃ m:Nat,atI [V.int 0,V.int 8] (if decide ((4:Int)<3+(d:Int))=true then 1 else 0)=some (.int (m:Int))/\m<=8/\(0<m->2<=d):=by
  by_cases c:(4:Int)<3+(d:Int)
  ·rw[if_pos (decide_eq_true c)]
   exact⟨8,qS (j:=1) rfl,by omega,λ _=>by omega⟩
  ·rw[if_neg (by rw[decide_eq_false c];exact dw)]
   exact⟨0,qS (j:=0) rfl,by omega,λ z=>by omega⟩
 refine⟨ln,_,_,_,rfl,rfl,SqL.of kA,em,_,rfl,by omega,by omega,?_⟩;refine yJ (n:=((m:Nat):Int).toNat) (λ i σ Z=>∃(o fo:av)(us:List av)(g:List Nat)(u O:List (List Nat))(x9 bl b8:Option V),σ=[some (.ref a),some (.ref p),some (.int (3+(d:Int))),some (.ref t),some (.ref z),some (.ref o),some (.ref rl),some (.ref fo),some (.ref t'),x9,bl,b8]/\TK b0 Z/\PotAt Z p/\Gw Z t z o W g x' z' c'/\jX W x' z' c' g=some (u,O)/\GrT Z fo us (λ j=>(gF g u O j).1) (u.length+1)/\∀ q,atS (gF g u O u.length).1 q=X q) ⟨o,fo,us,g,u,O,_,_,_,rfl,TK.of gl,cn.kept gl,an.kept gl,N,ag.kept gl,I⟩ ?_ ?_
 ·clear N bm I ag an
  rintro i σ Z hi ⟨o,fo,us,g,u,O,x9,bl,b8,rfl,tk,pt,J,N,gr,I⟩;rw[iw]at hi;have d2:=hm.2 (by omega);have ok:=dL J.tr J.ab J.perm J.three N;have eq:g.length=W.length:=by rw[J.perm.length_eq,iH]
  refine⟨_,rfl,_,rfl,_,_,rfl,rfl,p,_,rfl,pt,(by omega),mQ (by omega),λ ey co ef ev e9 c9=>⟨_,_,rfl,rfl,?_⟩⟩;obtain⟨v,rfl⟩:=mf ef;have bi:=TK.pot pt e9;have M:=J.tk bi;have af:=gr.tk bi;have b4:=tk.trans bi;have hk:2+v+2<g.length:=by omega
  have g1:g[2+v+1]?=some (g.getD (2+v+1) 0):=by rw[aj,ae (by omega)];rfl
  have g0:g[2+v]?=some (g.getD (2+v) 0):=by rw[aj,ae (by omega)];rfl
  have a1:atI (g.map vn) (2+(v:Int)+1)=some (vn (g.getD (2+v+1) 0)):=by
   rw[show(2+(v:Int)+1)=((2+v+1:Nat):Int) by omega];exact qS (by rw[bg,g1];rfl)
  have a0:atI (g.map vn) (2+(v:Int))=some (vn (g.getD (2+v) 0)):=by
   rw[show(2+(v:Int))=((2+v:Nat):Int) by omega];exact qS (by rw[bg,g0];rfl)
  obtain⟨wt,cd,er,b3⟩:=M.web.at;have e0:g.getD (2+v) 0<W.length:=jr.mp (J.perm.mem_iff.mp (di g0));obtain⟨wb,aw,dm⟩:=b3 _ _ (kVI e0 []);refine⟨_,rfl,_,rfl,_,_,rfl,rfl,o,_,_,_,rfl,rfl,SqT.of M.ord,a1,_,rfl,_,rfl,_,rfl,o,_,_,_,rfl,rfl,SqT.of M.ord,a0,t,_,_,_,rfl,rfl,SqT.of cd,aw,wb,_,rfl,.inr (SqT.of dm),rfl,kGW _,_,rfl,?_⟩;rw[kNF];by_cases c:g.getD (2+v+1) 0∈W.getD (g.getD (2+v) 0) []
  ·rw[decide_eq_true c]
   exact jY ⟨o,fo,us,g,u,O,_,_,_,rfl,b4,c9,M,N,af,I⟩
  rw[decide_eq_false c];refine zT ?_;obtain⟨a4,a6,a9,bn,sw,same⟩:=kQM J.tr J.ab J.perm J.three N (k:=2+v) (by omega) hk c;refine⟨_,rfl,_,rfl,o,g.map vn,2+v,vn (g.getD (2+v) 0),vn (g.getD (2+v+1) 0),rfl,M.ord,(by rw[bg,g0];rfl),(by rw[bg,g1];rfl),(by rw[ak];omega),λ o2 e8 ah b6=>?_⟩
  have eo:exL (g.map vn) (2+v) (vn (g.getD (2+v) 0)) (vn (g.getD (2+v+1) 0))=(exN g (2+v)).map vn:=by
   unfold exL exN;rw[du,du,xj,zj]
   rfl
  rw[eo]at b6;have cz:=(kCA (ms:=g) (k:=2+v) (by omega)).trans J.perm;have lx:=aH (ms:=g) (k:=2+v) (by omega);have a5:Gw e8 t z o2 W (exN g (2+v)) x' z' c':=⟨(M.kept ah).web,J.tr,(M.kept ah).base,b6,cz,J.three,J.ab⟩;have bo:=dL J.tr J.ab cz J.three a9;generalize ek:exN g (2+v)=U at *;have dk:=b4.trans (TK.of ah);have cr:=c9.kept ah;have cs:=af.kept ah;clear M af cd b3 aw dm a1 a0;refine⟨_,rfl,_,rfl,_,rfl,t,z,o2,W,U,x',z',c',a4,a6,rfl,a5,am,a9,λ br bt eb ds d7 d5 c6=>?_⟩;have cp:=a5.kept ds;have b1:GrT eb br bt (λ j=>(gF U a4 a6 j).1) (u.length+1):=⟨d7,by rw[d5,bn],c6⟩;refine⟨_,rfl,_,rfl,_,rfl,t,z,o2,W,U,x',z',c',rfl,cp,am,λ el bw=>⟨_,_,rfl,rfl,_,rfl,?_⟩⟩;rw[a9];refine jY ?_;have c1:=ds.trans bw;have ew:=bo.lm;refine⟨_,rfl,_,rfl,_,rfl,_,rfl,fo,br,o2,us,bt,λ j=>(gF g u O j).1,λ j=>(gF U a4 a6 j).1,U,2+v,u.length+1,rfl,cs.kept c1,b1.kept bw,c1 _ _ b6,(by omega),bo.le,(λ j hj=>(bo.inv j (by omega)).fst),sw,(by omega),λ eu ca=>⟨_,rfl,jY ?_⟩⟩;have as:=c1.trans ca;have dj:=a5.kept as;refine⟨_,rfl,_,rfl,_,rfl,t,z,o2,W,U,x',z',c',a4,a6,rfl,dj,am,a9,λ t3 e6 ei aq ec cb c2=>?_⟩;have a8:∀ q,atS (gF U a4 a6 a4.length).1 q=X q:=λ q=>by rw[bn,same q,I q]
  have d3:PtT ei t3 e6 W.length X:=⟨ec,cb,λ p' a' e=>by rw[<-a8 p'];exact c2 p' a' e⟩;have b5:=dk.trans (TK.of (as.trans aq));refine⟨_,rfl,_,_,d3.rw.dt,(ap.tk b5).rw.dt,kLX _,kLX _,_,rfl,?_⟩;rw[kIR];refine jY ⟨_,rfl,?_⟩;exact⟨o2,br,bt,U,a4,a6,_,_,_,rfl,b5,cr.kept (as.trans aq),a5.kept (as.trans aq),a9,by rw[bn];exact b1.kept (bw.trans (ca.trans aq)),a8⟩
 ·clear N bm I ag an
  rintro σ Z ⟨o,fo,us,g,u,O,x9,bl,b8,rfl,tk,pt,J,N,gr,I⟩;have ok:=dL J.tr J.ab J.perm J.three N
  obtain⟨c4,ul,b7⟩ : ∃ c4 ul,us=c4++[ul]:=by
   have ne:us≠[]:=λ z=>by have:=gr.len;rw[z]at this;cases this
   exact⟨us.dropLast,us.getLast ne,(eN ne).symm⟩
  have ed:atI (us.map V.ref) (-1)=some (.ref ul):=by rw[b7,du];exact yI _ _
  obtain⟨ta,qL⟩:=gr.row u.length ul (by
   have:c4.length=u.length:=by have:=gr.len;rw[b7,bu,fk]at this;omega
   rw[b7,<-this,dq])
  have bx:=ok.inv u.length (be _);have c5:(gF g u O u.length).1.map (·.1)=g:=by rw[bx.fst,<-ok.lm,iJ]
  obtain⟨a1,a2,a3⟩:=qL.ps;refine⟨_,rfl,_,rfl,fo,_,_,_,rfl,rfl,SqT.of gr.top,ed,ul,ta.zip ((gF g u O u.length).1.map r3),rfl,.inr (by rw[a1];exact SqT.of qL.top),a2,λ sl ax e4 pp pw=>?_⟩;have gs:=kC e4 (.lst (ax.map λ q=>V.ref q.1))
  have dy:ax.map tm=(cw W.length).map λ(p:Nat)=>[(p:Int),(X p).1,(X p).2]:=by
   have:=nQ J.perm c5 (by have:=pp.map tm;rwa[a3]at this) (km.mpr pw);rw[this];refine qk λ p' _=>?_;rw[I p']
  have eg:=tk.trans (TK.of gs);have dn:=cX (H:=upd Z sl (.lst (ax.map λ q=>V.ref q.1))) kA λ q hq=>gs _ _ (a2 q (pp.mem_iff.mp hq)).1;rw[dy]at dn;generalize upd Z sl (.lst (ax.map λ q=>V.ref q.1))=co at *;have al:=ap.tk eg;refine⟨_,rfl,_,rfl,by omega,by omega,λ D nD=>?_⟩;refine vB (lo:=0) (n:=(3+(d:Int)).toNat) (λ j σ H3=>∃(x0:Option V)(da:List av),σ=[x0,some (.ref t')]/\Same co H3/\RwL H3 D da ((cw j).map λ(p:Nat)=>[(p:Int),(X p).1,(X p).2])) ⟨none,[],rfl,kC nD _,⟨kA,rfl,λ i a r e=>by simp at e⟩⟩ ?_ ?_
  ·rintro j σ H3 hj ⟨x0,da,rfl,g3,hD⟩
   have e5:j<W.length:=by omega
   have ha:=ae (l:=d0) (i:=j) (by rw[al.len];exact e5);have ee:=hD.len;rw[ak,iH]at ee;refine⟨_,rfl,yS1,λ t1 n1=>?_⟩;have dv:=kC n1 (.tup [V.int (0+(j:Int))]);have d4:=g3.trans dv;refine⟨_,rfl,_,rfl,t',_,_,_,rfl,rfl,SqT.of (d4 _ _ al.top),(by rw[xh];exact qS (by rw[bg,ha];rfl)),t1,_,_,_,rfl,rfl,kA,d4 _ _ (al.row j _ ha),yS3,λ t2 H4 g4 h4=>?_⟩;have g4:Same _ H4:=λ b o e=>g4 b o e;have dx:=dv.trans g4;have c3:=hD.kept dx;refine⟨_,c3.top,(by rw[ak];exact kS (by omega)),?_⟩
   have st:∀ b xs,H4 b=some (.tup xs)->upd H4 D (.lst (da.map V.ref++[.ref t2])) b=some (.tup xs):=λ b xs e=>by
    rw[kM λ z=>by rw[z,c3.top]at e;cases e];exact e
   refine⟨_,da++[t2],rfl,qI nD (g3.trans dx),?_⟩;rw[BR,du];refine⟨by rw[du];exact kA,by rw[bu,bu,hD.len];rfl,λ i' b r e1 e2=>?_⟩;rcases snoc e1 with⟨cc,e1⟩ | ⟨ej,e1⟩
   ·rw[bb (by rw[<-hD.len];exact cc)]at e2
    exact st _ _ (c3.row i' b r e1 e2)
   ·rw[ej,hD.len,DY,dq]at e2
    cases e1
    cases e2
    rw[xh]at h4;exact st _ _ h4
  ·rintro σ H3 ⟨x0,da,rfl,g3,hD⟩
   rw[show(3+(d:Int)).toNat=W.length by omega]at hD;refine⟨_,_,(dn.kept g3).dt,hD.dt,rX _,rX _,?_⟩;rw[oZ];exact q H3
end
def all_mk{l:Cf}{w:iI}{K:az}{h:iO}{mg:Str->Option ar}{a:av}(X:K.In h)(G:h.Ns gn mg)(b:mg "law" = some (.ref a))(B:FxG K mg):∃ fd:ua,(∀(s:ay)(v:ar),Dc s fd ⟨[v],[]⟩ [("_law_script",v)])/\∀ base:iO,K.In base->base.Ns gn mg->FnOk l.prog w K mg base CX0 11 a fd ["_law_script"] (oP K):=by
 obtain⟨f,fd,e,F⟩:=B.d39
 cases b.symm.trans (Fe X G e)
 refine⟨fd,λ s v=>?_,λ base _ _=>?_⟩
 ·obtain⟨u,q,kV,j,y,x,o,p,d,rfl,_⟩:=F.ex
  exact .of_eq rfl
 refine eX λ n=>?_;obtain⟨c,r,m,g,i⟩ : Bad c0:=Classical.epsilon_spec ⟨⟨l.prog,w,K,mg,base⟩,B,a,fd,F,n⟩;exact i (kSU c g)
def walk{l:Cf}{q:fb}{b:List Str}{v:(Str->Option ar)->iO->Prop}{g:iI->iO->Prop}{d:DefRec}{K:GY->az}(p:l.most=some 63)(c:d.params.defaults=[])
  (j:∀(w:iI)(h:iO),g w h->(K w.params).In h)
  (F:∀(w:iI)(mg:Str->Option ar)(i:av)(h:iO),(K w.params).In h->h.Ns gn mg->mg d.name=some (.ref i) ->
   ∃ fd:ua,(∀(s:ay)(u:ar),Dc s fd ⟨[u],[]⟩ [("_law_script",u)])/\∀ base:iO,(K w.params).In base->base.Ns gn mg->FnOk l.prog w (K w.params) mg base CX0 11 i fd ["_law_script"] (oP (K w.params))) :
  Fd q b v g l.row.toRowW d [] (λ f vs=>Eo f vs) :=
 L2.walk_of (n:=63) (k:=11) (x:="_law_script") (CX:=λ _=>CX0) (sp:=λ w=>oP (K w.params)) p (by decide) c ⟨rfl,by decide,by decide,rfl⟩ j F (λ _ _ a m o _ r=>⟨a,m,rfl,r,o,λ _=>rfl⟩) λ _ _ _ _ _ z=>z
end Prf
namespace PySem.W.Fast
def tw12542006575131914477:=0
def tw3202105387400547066:=0
def tw5353156154533350471:=0
def tw6447814515939459713:=0
def tw7520943306664148049:=0
def tw1280594058698930833:=0
def tw2923007008124166208:=0
def tw9044229165579116892:=0
def tw17863456156847232913:=0
def tw12632879547694006121:=0
def tw13404334478315183654:=0
def tw495107146396556222:=0
def tw9877465253897743501:=0
def tw14243044810039471551:=0
def tw4208773815346930076:=0
def tw1265191453884233016:=0
def tw9119673353987030503:=0
def tw15412144146445662120:=0
def tw513795016299668754:=0
def tw3924494214973113296:=0
def tw17885388451284773483:=0
def tw14065659737814145576:=0
def tw6702368166007541957:=0
def tw11838987768662388037:=0
def tw12169271374759235081:=0
def tw6649895315663348145:=0
def tw7360376468814572424:=0
def tw16897595653446230571:=0
def tw4814927401770412990:=0
def tw17887033910351448026:=0
def tw9283344584192377934:=0
def tw7285160791841236892:=0
def tw4152965029849087583:=0
def tw15332962095510672159:=0
def tw6714290562764013755:=0
def tw3788060037381515292:=0
def tw975436747905861521:=0
def tw4879144962763377229:=0
def tw6900750747684072360:=0
def tw7181650778525097118:=0
def tw14179105267134998223:=0
def tw6302998639085560708:=0
def tw8351573792617355214:=0
def tw5334266503393076470:=0
def tw12762904760955216403:=0
def tw7755283344895968876:=0
def tw506632828161681947:=0
def tw5855613501994714983:=0
def tw2816017527170315681:=0
def tw10475023689408561429:=0
def tw17826204161140702648:=0
def tw11938086444171800744:=0
def tw7446986053382088769:=0
def tw12661314065778115509:=0
def tw2595329758271485666:=0
def tw17515576763989436968:=0
def tw14493084652583911133:=0
def tw1322739606230855228:=0
def tw1045557764970081155:=0
def tw16259936970539186748:=0
def tw12474537040206382580:=0
def tw18155294077596793284:=0
def tw1703362088588858943:=0
def tw11399251266081227458:=0
def tw11434619080732268638:=0
def tw8202542368271490364:=0
def tw14803238736001796367:=0
def tw8311929373142152480:=0
def tw17508961035859353896:=0
def tw15138160760973751084:=0
def tw15714086311474939345:=0
def tw17667566181883601778:=0
def tw4112115068214878387:=0
def tw14232062455462366548:=0
def tw10310002100272862999:=0
def tw10848128077233580857:=0
def tw6692666323532903930:=0
def tw17882768257872604379:=0
def tw2261683559531375389:=0
def tw877107559077881791:=0
end PySem.W.Fast
open PySem PySem.W PyProof.Rows
set_option maxRecDepth 100000 in
set_option maxHeartbeats 0 in
theorem PySem.Challenge.cw_restdraw_k64_whole_untied_ones_exchanged_holds : PySem.Challenge.rw_restdraw_k64_whole_untied_ones_exchanged.Holds := by
 w_on;o_law;k_head;(case hw=>w_witness2)
 k_fill
 refine Prf.walk (l:=PySem.Challenge.rw_restdraw_k64_whole_untied_ones_exchanged) rfl rfl (λ w h Y=>PySem.W.kIn_of Y) ?F
 case F =>
  intro w mg fa h KX G hmg;refine' Prf.all_mk KX G hmg ?_;apply Prf.FxG.mk ⟨_,KX,G⟩<;>first | (refine' L2.df_mk ?a ?l ?c ?k;(case a=>k_is);(case l=>k_is);(case c=>k_is);(case k=>k_is)) | k_is
