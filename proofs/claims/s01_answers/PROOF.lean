import PyProof.Rows.All
import KE.BitLaws
import KE.KDictList
import KE.KDictSum
import KE.KItemsList
import KE.KLam
import KE.KNestM
import KE.KSortKey
import KE.KSortTup
import KE.KSortTupG
import KE.KSortTupUse
import KE.OsGo
import KE.OsHead
import KE.OsShapes
import KE.SpHead
import Open.SpecLaws
import Open.Tree
import OpenK.AllK
import PyProof.AttrMissHeap
import PyProof.DictItems
import PyProof.DictKinds
import PyProof.Draws
import PyProof.EnumMake
import PyProof.EqAt
import PyProof.EqKinds
import PyProof.EqLayable
import PyProof.MeetsDictList
import PyProof.P3Eq
import PyProof.Rows.SortG.SortRunsSt
import PyProof.Rows.SortMergeAt
import PyProof.Rows.SortPure
import PyProof.Rows.SortRuns
import PyProof.Rows.SortShell
import PyProof.TupleCall
import PyProof.TupleKey
import PyProof.ZipIter
import PySem.Challenge.RW_sheethands_s01_answers
import Wide.All
import Wide.FinOn
set_option Elab.async false
set_option maxRecDepth 100000
set_option maxHeartbeats 0
set_option linter.all false
set_option compiler.extract_closed false
namespace Hd
open PySem PySem.W PyProof.Rows
theorem is (o:Obj):∀ (t:BT) (n:Nat),(∀ i,i < n->(t.get i).isSome = true)->((t.ins n o).get n).isSome = true
  | .nil,n,h=>by
    cases n with
    | zero=>rfl
    | succ m=>have:=h 0 (by omega); cases this
  | .node v l r,n,h=>by
    rw [BT.ins_node]
    by_cases h0:n = 0
    · rw [if_pos h0,BT.get_node,if_pos h0]; rfl
    · rw [if_neg h0]
      by_cases h1:n % 2 = 1
      · rw [if_pos h1,BT.get_node,if_neg h0,if_pos h1]
        refine is o l (n / 2) λ i hi=>?_
        have:=h (2 * i + 1) (by omega)
        rw [BT.get_node,if_neg (by omega),if_pos (by omega),show (2 * i + 1) / 2 = i by omega] at this
        exact this
      · rw [if_neg h1,BT.get_node,if_neg h0,if_neg h1]
        refine is o r (n / 2 - 1) λ i hi=>?_
        have:=h (2 * i + 2) (by omega)
        rw [BT.get_node,if_neg (by omega),if_neg (by omega),show (2 * i + 2) / 2 - 1 = i by omega] at this
        exact this
noncomputable def ofL:List Obj->Nat->BT->BT
  | [],_,t=>t
  | o :: r,n,t=>ofL r (n + 1) (t.ins n o)
theorem oa (life:Life):∀ (l:List Obj) (n:Nat) (t:BT) (a:List Obj),(∀ i,i < n->(t.get i).isSome = true)->absHeap t n life = ⟨a.toArray,life⟩->absHeap (ofL l n t) (n + l.length) life = ⟨(a ++ l).toArray,life⟩
  | [],n,t,a,_,e=>by rw [List.append_nil]; exact e
  | o :: r,n,t,a,h,e=>by
    have hs:=is o t n h
    have:=oa life r (n + 1) (t.ins n o) (a ++ [o]) (λ i hi=>by
      rw [BT.get_ins o t n hs]
      by_cases c:i = n
      · rw [if_pos c]; rfl
      · rw [if_neg c]; exact h i (by omega)) (by rw [absHeap_ins hs,e]; unfold Heap.push; simp)
    rw [show n + (o :: r).length = n + 1 + r.length by simp; omega,show a ++ o :: r = a ++ [o] ++ r by simp]
    exact this
noncomputable def tr (s:Shared):SharedT:=⟨ofL s.heap.objs.toList 0 .nil,s.heap.objs.toList.length,s.heap.life,s.gens,s.drawn,s.toks,s.os⟩
theorem ta (s:Shared):(tr s).abs = s:=by
  obtain ⟨⟨objs,life⟩,gens,drawn,toks,os⟩:=s
  have:=oa life objs.toList 0 .nil [] (λ i hi=>absurd hi (by omega)) (by unfold absHeap BT.list; simp)
  rw [Nat.zero_add,List.nil_append] at this
  unfold tr SharedT.abs
  rw [this]
noncomputable def runT (tb:String->Option Builtin) (p:Program) (w:World) (n₀:Nat) (ann:Option Value):Nat->SharedT->Thread->Option SharedT
  | 0,_,_=>none
  | n + 1,s,t=>match through t with
    | true=>some s
    | false=>match stepOk n₀ ann t with
      | false=>none
      | true=>match stepT (denote tb) p w s t with
        | some (s',t')=>runT tb p w n₀ ann n s' t'
        | none=>none
theorem ro {tb:String->Option Builtin} {p:Program} {w:World} {n₀:Nat} {ann:Option Value}:∀ {n:Nat} {s s':SharedT} {t:Thread},runT tb p w n₀ ann n s t = some s'->topRun tb p w n₀ ann n s.abs t = some s'.abs
  | 0,_,_,_,h=>by cases h
  | n + 1,s,s',t,h=>by
    unfold runT at h
    unfold topRun
    cases he:through t with
    | true=>rw [he] at h; cases h; rfl
    | false =>
      rw [he] at h
      cases hk:stepOk n₀ ann t with
      | false=>rw [hk] at h; cases h
      | true =>
        rw [hk] at h
        cases hs:stepT (denote tb) p w s t with
        | none=>rw [hs] at h; cases h
        | some r=>obtain ⟨s₂,t₂⟩:=r; rw [hs] at h; rw [stepT_spec hs]; exact ro h
noncomputable def runQ (p:Program) (w:World) (n₀:Nat) (ann:Option Value):Nat->SharedT->Thread->Option SharedT
  | 0,_,_=>none
  | n + 1,s,t=>match through t with
    | true=>some s
    | false=>match PySem.W.Fast.tw6613529449190102663 n₀ ann t with
      | false=>none
      | true=>match PySem.W.Fast.tw10156331382660048174 (PySem.W.Fast.tw11892475500146522536 PySem.W.Fast.tw14364793385576792824) p w s t with
        | some (s',t')=>runQ p w n₀ ann n s' t'
        | none=>none
theorem rq (p:Program) (w:World) (n₀:Nat) (ann:Option Value):∀ n s t,runQ p w n₀ ann n s t = runT treeTable p w n₀ ann n s t
  | 0,_,_=>rfl
  | n + 1,s,t=>by
    unfold runQ runT
    rw [← PySem.W.Fast.te6613529449190102663,← PySem.W.Fast.te10156331382660048174,← PySem.W.Fast.te11892475500146522536,← PySem.W.Fast.te14364793385576792824]
    simp only [rq p w n₀ ann n]
noncomputable def top (p:Program) (w:World) (N:Nat) (s₀:Shared):Option SharedT :=
  match s₀.heap.isNs mainGlobals && s₀.gens.size == 0 with
  | true=>(runQ p w s₀.heap.objs.size (s₀.heap.nsMap mainGlobals "__annotations__") N (tr s₀) (topStub p)).bind λ s₁=>match staticsOk (importedModules p.main.body) s₀.heap s₁.abs.heap && namesBound p s₁.abs.heap && gensDone s₁.abs && laidKept s₀.heap s₁.abs.heap with
      | true=>some s₁
      | false=>none
  | false=>none
theorem to_ {p:Program} {w:World} {N:Nat} {s₀:Shared} {s₁:SharedT} (h:top p w N s₀ = some s₁):topFrom treeTable p w N s₀ = some s₁.abs:=by
  unfold top at h
  unfold topFrom
  cases e:(s₀.heap.isNs mainGlobals && s₀.gens.size == 0) with
  | false=>rw [e] at h; cases h
  | true =>
    rw [e] at h
    obtain ⟨s₂,h1,h2⟩:=Option.bind_eq_some_iff.mp h
    rw [rq] at h1
    have h3:=ro h1
    rw [ta] at h3
    show Option.bind _ _ = _
    rw [h3]
    show (match _ with | true=>some s₂.abs | false=>none) = _
    cases e2:(staticsOk (importedModules p.main.body) s₀.heap s₂.abs.heap && namesBound p s₂.abs.heap && gensDone s₂.abs && laidKept s₀.heap s₂.abs.heap) with
    | false=>rw [e2] at h2; cases h2
    | true=>rw [e2] at h2; cases h2; rfl
theorem hf {β:Type} {o:Option Shared} {f:Shared->Option SharedT} {g:Shared->Option Shared} {F:Shared->β} {b:β} (hfg:∀ s t,f s = some t->g s = some t.abs) (h:o.map (λ s₀=>(f s₀).map λ s=>F s.abs) = some (some b)):∃ s₀,o = some s₀/\(g s₀).map F = some b:=by
  cases o with
  | none=>cases h
  | some s₀ =>
    have h':(f s₀).map (λ s=>F s.abs) = some b:=Option.some.inj h
    obtain ⟨s₁,h1,h2⟩:=Option.map_eq_some_iff.mp h'
    exact ⟨s₀,rfl,by rw [hfg _ _ h1]; exact congrArg some h2⟩
theorem bo {β γ:Type} {o:Option Shared} {f:Shared->Option SharedT} {F:Shared->β} {G:Shared->γ} {b:β} {c:γ} (h:o.map (λ s₀=>(f s₀).map λ s=>F s.abs) = some (some b)) (k:o.map (λ s₀=>(f s₀).map λ s=>G s.abs) = some (some c)):o.map (λ s₀=>(f s₀).map λ s=>(λ s=>(F s,G s)) s.abs) = some (some (b,c)):=by
  cases o with
  | none=>cases h
  | some s₀ =>
    have h':(f s₀).map (λ s=>F s.abs) = some b:=Option.some.inj h
    have k':(f s₀).map (λ s=>G s.abs) = some c:=Option.some.inj k
    show some ((f s₀).map _) = _
    cases e:f s₀ with
    | none=>rw [e] at h'; cases h'
    | some s₁=>rw [e] at h' k'; cases h'; cases k'; rfl
theorem lf {p q:Program} {loose:List Str} {Xt:Shared->Bool} {α:Type} {Yf:Shared->α} {Ya:World->α} {N:Nat} {g0:Bool} (row:String)
    (h:∀ b,∀ w:World,(fencedOpening treeTable p w N).map (λ s₀=>(top p (w.withFollow row b) N s₀).map λ s=>PySem.W.Fast.tw4187177175401517315 q loose (importedModules p.main.body) Xt g0 s.abs) = some (some (openGood q loose)))
    (k:∀ b,∀ w:World,(fencedOpening treeTable p w N).map (λ s₀=>(top p (w.withFollow row b) N s₀).map λ s=>Yf s.abs) = some (some (Ya (w.withFollow row b)))):LeftO p q loose Xt Yf Ya N g0:=by
  rw [← PySem.W.Fast.te4187177175401517315] at h
  refine LeftO.of_split row λ w=>?_
  obtain ⟨s₀,e,a⟩:=hf (F:=λ s=>(openSeen q loose (importedModules p.main.body) Xt g0 s,Yf s)) (g:=topFrom treeTable p (w.withFollow row false) N) (λ _ _=>to_) (bo (F:=λ s=>openSeen q loose (importedModules p.main.body) Xt g0 s) (G:=Yf) (h false w) (k false w))
  obtain ⟨s₁,e',b⟩:=hf (F:=λ s=>(openSeen q loose (importedModules p.main.body) Xt g0 s,Yf s)) (g:=topFrom treeTable p (w.withFollow row true) N) (λ _ _=>to_) (bo (F:=λ s=>openSeen q loose (importedModules p.main.body) Xt g0 s) (G:=Yf) (h true w) (k true w))
  rw [e] at e'
  cases e'
  rw [e]
  show some (_,_) = _
  rw [a,b]

noncomputable def vd:List Nat->Nat->List Stmt->List Stmt
  | _,_,[]=>[]
  | ds,i,s :: r=>if ds.contains i then vd ds (i + 1) r else s :: vd ds (i + 1) r
noncomputable def vq:Program:={ PySem.Challenge.pw_sheethands_s01_answers with main:={ PySem.Challenge.pw_sheethands_s01_answers.main with body:=vd [0,5,18,21,24,35,40,68] 0 PySem.Challenge.pw_sheethands_s01_answers.main.body } }
section
local macro_rules | `(tactic| o_headS ($_:term $k:term $a:term $e:term))=>`(tactic| assumption)
theorem dm (h:PySem.Challenge.rw_sheethands_s01_answers.Holds):PySem.Challenge.rw_sheethands_s01_answers.Holds:=by
  k_headS
end
noncomputable def ka:List Addr:=(List.range 539).filter (Nat.testBit 0x6ddbb7b7b76edceddbb76eddbb76eddbb76e739dbb76eddbb76eddbb7f3fb76eddbb76edced0193fb73b76eddbb73b76edda0369fdbb76ed01b76eddbb76eddbb76800c)
theorem ke:∀ P,ka = (dm.heap_1 P).map (·.1):=λ P=>by kernel_rfl
noncomputable abbrev hk:Hook:=PySem.W.kmHook dm.heap_1 ka ke [189,371]
abbrev lo:List Str:=[Str.ofString "LENGTHS_content",Str.ofString "ROWS_AT",Str.ofString "CALLS",Str.ofString "LENGTHS_sheet"]
abbrev pw:=PySem.Challenge.pw_sheethands_s01_answers
def BrS (b:Bool):Prop:=∀ w:World,(fencedOpening treeTable pw w 7086).map (λ s₀=>(top pw (w.withFollow "special-get-raises" b) 7086 s₀).map λ s=>PySem.W.Fast.tw4187177175401517315 vq lo (importedModules pw.main.body) (λ s=>xlAt vq [] s && recOk [] s) true s.abs) = some (some (openGood vq lo))
def BrH (b:Bool):Prop:=∀ w:World,(fencedOpening treeTable pw w 7086).map (λ s₀=>(top pw (w.withFollow "special-get-raises" b) 7086 s₀).map λ s=>hk.obs s.abs) = some (some (hk.val (w.withFollow "special-get-raises" b)))
theorem hSf:BrS false:=by unfold BrS; intro w; kernel_rfl
theorem hHf:BrH false:=by unfold BrH; intro w; kernel_rfl
theorem hSt:BrS true:=by unfold BrS; intro w; kernel_rfl
theorem hHt:BrH true:=by unfold BrH; intro w; kernel_rfl
theorem hl:LeftO pw vq lo (λ s=>xlAt vq [] s && recOk [] s) hk.obs hk.val 7086:=lf "special-get-raises" (λ b=>by cases b; exact hSf; exact hSt) (λ b=>by cases b; exact hHf; exact hHt)
end Hd
theorem gl_{G:Prop}(h:let g:=G;g):G:=h
universe u
theorem J{A:Sort u}{a:A}:a=a:=rfl
abbrev aa(A:Type u):=List A
abbrev ae(A:Type u):=Option A
abbrev af(A:Type u):=Array A
abbrev Vp:=PySem.Value->PySem.Shared->Prop
abbrev Sv:=PySem.Str->Option PySem.Value
abbrev La:=List (PySem.Addr×PySem.Obj)
def aD:=@if_neg
def aH:=@if_pos
def cx:=@decide_eq_true_eq
def d8:=@if_false
def eI:=@congrArg
def iF:=@beq_iff_eq
def kU:=@of_decide_eq_true
def mG:=@if_true
def abH:=@of_decide_eq_false
section
open Option renaming some->ag,none->au,map_eq_some_iff->bv,isNone_some->qm,isSome_map->qV,map_some->ux,none->Ac,isSome_some->J4,isSome_none->J5,isNone_none->J6,getD_none->Nk
open PySem renaming wpAny_bind->ah,wpAny_pure->am,Addr->az,Value->aE,Spec->aP,wpAny->aW,sizeLine->bf,model->bp,Program->bq,Shared->br,starEach->bU,boot_len->cg,wpAny_call_entry->cO,Heap->cT,Str->cX,wpAny_callSpecial?_slot->c7,mem_of_lookup->di,wpAny_field->dj,wpAny_holding->dD,Around->dG,wpAny_newObj_type->dI,sysModules->dM,sizeLine_eq->dN,wpAny_mono->eO,wpAny_setField_rec->eX,rawInt->fb,mainGlobals->fj,compareOp->fk,recursionLimit->fE,cLine->fF,Paired->fG,Expr->fK,wpAny_dictEntries->fR,wpAny_seqItems->fV,cellsFrom->gh,wpAny_truthy_bool->gy,codeAny_builtin->gO,wpAny_Call_method->ik,size_of_entries->iw,wpAny_notOrdered_dict->iG,IsPair->iN,wpAny_attempt->iV,plainId_quiet->iW,wpAny_rule->jp,backTo->jq,keywordEach->jL,DictEntry->jO,wpAny_Call_Name_kw->jX,pyNext->kt,wpAny_typeNameOfWhole_itemiter->lf,wpAny_isInstance->lg,NameKind->lj,wpAny_typeNameOfWhole_keyiter->lK,wpAny_specialOf->lW,wpAny_passesOwn->lX,attributeBase->lZ,wpAny_loadName_local->mZ,compEnvC->nc,Scope->nh,valueAt->nG,storedH->nH,wpAny_typeNameOf_itemiter->nR,wpAny_typeNameOf_keyiter->oo,backToKw->oq,wpAny_dictEpoch->ot,wpAny_pyIter_tuple->oE,IsTupleKey->oJ,wpAny_isOneOf_itemiter->px,wpAny_fieldsOf->pA,call_meetsIn->pB,bootBuiltins->pC,atKey->pS,Pos->pW,wpAny_forIn_list->qa,call_meets->qb,Stmt->qc,codeAny->qk,wpAny_letGo->qL,sliceBounds->qM,bindArgs->qN,wpAny_typeOf->rR,codeAny_mono->rV,pushCells->r8,Arguments->so,wpAny_setField->sN,wpAny_newTuple->sO,isSubtype_stop->sP,FuncData->sU,wpAny_pyIter_list->uH,foldedSetIterable->uI,wpAny_newList->uP,behindInMarks->uQ,ZipApart->vV,wpAny_nextOf_list_item->wI,wpAny_Name->wJ,typeLookup->wK,getItem->wM,assignEach->wN,evalArgs_none->wP,Keyword->wQ,wpAny_execs_nil->xf,pushCells_keeps->xg,letOwnedTupleGo->xi,firstArgMember->yK,entry_at->yL,binaryOp->yM,swapsWith->yS,standAt->yT,getMethod->yU,wpAny_standAt->AC,IsZip->AK,wpAny_load->AX,wpAny_dictSet_heap->AY,getattributeRaised->AZ,builtinsNs->A6,PyData->Ba,Params->Bb,wpAny_pyIter_slot->Ek,Obj->Eu,wpAny_pyIter_zip->EU,IsPart->E2,wpAny_throw->FW,subscripted->FX,wpAny_updateSeq->Hh,Within->Hl,notedBy->Hu,wpAny_runValue->JH,wpAny_call->JI,pyIter->JK,isTrue->JM,eqBool->JN,entryOfKey->JO,callWith->JP,wpAny_onRaise->LU,wpAny_handled->LV,Env->L8,wpAny_callSpecial?_none->Nc,seqItems?->Nd,eqIsQuiet->Nf,codeAmong->Ng,bindL->Nh,bindC->Ni,wpAny_pyNext_list_item->OU,truthy->OV,richCompare_meets_room->OW,callerA->O0,wpAny_pyNext_list_end->Pl,wpAny_isTrue_Compare1->Pn,wpAny_isOneOf_keyiter->Po,isSubtype_tuple_tuple->Pp,builtinLookup_eq_fast->Pq,Sem->Pw,wpAny_updateSeq_pair->Sn,wpAny_updateDictKeys->So,wpAny_pyIter_keyiter->Sq,wpAny_of_eq->Sr,wpAny_newFunctionEnv->Ss,setField->Su,seqIndex_of->Sw,loadIfAlive->Sy,getAttr?->SE,Model->SI,wpAny_loadName_cell->SV,wpAny_dictFind_heap->SW,wpAny_Tuple_spliced->SY,pairTrees_cons_walk->S9,Builtin->Tb,wpAny_eqBool_tuple->UZ,wpAny_Constant_int->U0,typeIs_int->U1,sub_AttributeError->U2,pyHash->U4,pairTrees_nil_walk->U5,newExc->U6,closureFor->U7,wpAny_pyIter_enum->VT,wpAny_assign_Name->VU,setItem->VX,getAttr->VY,eqIsQuiet_byValue->VZ,atKey_none_of_get->V0,Tok->V3,wpAny_pyHash_int->X0,wpAny_getItem_of->X1,wpAny_execs_cons->X2,wpAny_Dict_empty->X3,storeName->X4,kt_code_dict_new->X5,wpAny_ret_mkInt->YQ,typeLookup_type->YR,Fin->YV,wpAny_tryCatch->aaO,raiseNew->aaQ,newTuple->aaR,newFunctionEnv->aaS,method_meetsIn->aaT,meets_dict_get->aaU,dictSetDefault->aaX,compPost->aaY,callType_codes->aaZ,ReadsAll->aa6,HeapKind->aa8,intBits_le_64->abI,evalPart_none->abK,comprehension->abL,call_list_seq->abM
open PySem.Heap renaming get?_push_of_some->al,get?_push_size->aG,lt_size->aI,size_push->cV,get?_update_ne->fz,SameBut->fH,get?_update_self->gv,get?_update_other->kY,size_update->AL,ExtBut->Ke,IsTuple->V7
open List renaming length_map->ao,getElem?_map->aF,getElem?_eq_getElem->aL,mem_cons_of_mem->aM,length_cons->aN,mem_cons_self->aQ,mem_cons->aT,mem_map->aY,mem_of_getElem?->bg,map_cons->bi,size_toArray->bj,length_append->bt,map_append->bz,mem_singleton->bG,pairwise_map->bN,mem_append->bO,replicate->bR,getD_eq_getElem?_getD->bS,mem_append_right->b7,getElem?_eq_none->b8,mem_filter->cq,take_length->cu,mem_append_left->cw,take_add_one->cE,map_map->df,mem_map_of_mem->dm,length_take->dq,append_nil->dz,append_assoc->dO,length_nil->dS,nodup_cons->eJ,length_filter_le->eY,find?_cons->eZ,filterMap_cons->fw,range->fA,getElem?_range->gb,take_append_drop->gu,foldl_cons->gB,filter_append->gH,filter_cons->gL,nodup_iff_pairwise_ne->gZ,forIn_nil->g9,forIn_cons->ie,mem_filterMap->iA,mem_range->iI,length->iJ,flatten_cons->iX,replicate_succ->ja,map_congr_left->jb,flatMap_append->jc,filter_sublist->jd,zipIdx_cons->jw,zip_cons_cons->jH,filterMap_append->jK,pairwise_iff_getElem->jR,mem_of_find?_eq_some->jS,nodup_append->j7,lookup->j8,ext_getElem?->j9,lookup_cons->kK,of_mem_zip->lw,countP_eq_length_filter->lx,foldl_append->lO,getElem?_append_right->mf,not_mem_nil->mI,getElem?_zip_eq_some->mQ,getElem?_append_left->mR,getElem?_replicate->nX,take_zero->ox,take_of_length_le->oy,length_range->oz,getElem?_set_self->oA,any_eq_true->pb,getElem?_set_ne->pG,length_zip->pX,length_set->pY,find?_some->pZ,length_zipWith->qg,map_nil->qo,mem_eraseDups->qQ,forIn_toArray->qR,getLast?_eq_getElem?->rM,getElem?_inj->rY,any_cons->sj,all_cons->sm,pairwise_singleton->sV,length_drop->sW,getElem?_cons_zero->sX,getElem?_cons_succ->sY,filter_cons_of_pos->sZ,filter_cons_of_neg->tj,all_eq_true->tp,zipIdx_nil->uT,range_succ->uU,length_singleton->va,drop_zero->wC,reverse_append->xj,zip_nil_right->xO,getElem?_take->xP,find?_eq_none->xQ,zip_nil_left->yX,zipWith->yY,take_succ_eq_append_getElem->yZ,take_sublist->y6,pairwise_iff_forall_sublist->y8,length_eq_countP_add_countP->y9,range'_succ->AF,nodup_range->AG,mem_flatMap->AH,map_snd_zip->AI,getElem_inj->AJ,take_append_of_le_length->Be,range'->Bf,eq_nil_of_length_eq_zero->Bg,map_take->F4,map_drop->F5,getElem?_take_of_lt->F6,getElem?_zipWith->JW,dropLast_sublist->JX,pairwise_append->J8,mem_of_mem_take->J9,mem_of_getLast?->Ka,map_id->Kb,map->Kc,getElem?_zipIdx->Kd,toList_toArray->L5,flatten_append->L6,zipIdx_append->Nn,foldl->No,filterMap_nil->Np,filterMap_map->Nq,getElem?_set->O8,flatMap_cons->O9,find?_append->Pa,filter_congr->Pb,any_eq_false->Pd,perm_middle->PB,map_fst_zip->PD,getElem_mem->PF,getElem_map->PH,cons_ne_nil->PJ,cons_append->PM,sum_append->SJ,nil_append->SK,headD_cons->SN,nodup_nil->Tg,sum_cons->Vc,map_set->V6
open PySem.W renaming Frag->aq,keepIn->eG,fnOf->eU,findIn->gi,emptyDict->gQ,codeIn->ju,instObj->jM,WData->ng,tabObj->qd,callWith_K->qe,CodeHd->qf,kla_obj->rT,plainGet->rW,isFn->sS,WellAll->uJ,lookIn->uR,plainGet_of->vW,hasDictIn->xH,takerIn->zY,makesIn->zZ,length_le_weightAllW->z9,kla_obj->Aa,mg_of->Er,nsIn->EY,cellsFrom_some->EZ,methodCall_KW->F1,callWith_K0->Hz,plainOver->J0,ktu_apart->J1,handedIn->LZ,TabsAt->O7,ReadsAllW->X8
open Bool renaming false->aA,true->aC,false_ne_true->bH,false_eq_true->bJ,and_eq_true->cW,noConfusion->e9,eq_iff_iff->lA,and_false->mh,not_true->nu,or_eq_true->p6,false_and->qS,and_assoc->EI,true_and->F9,not_false->Tj,or_false->Vf,false_or->Vg,beq_comm->Vh
open Option.some renaming inj->aJ,injEq->ni
open PySem.Value renaming ref->aK,none->dJ,type->ke,bool->oX,isInt->rL,int->sR,isInt_shape->yN,str->zW,builtin->EW,notImplemented->JQ,isStrOf->Ta,float->V1,bytes->V2
open Nat renaming le_refl->aS,lt_of_lt_of_le->bu,ne_of_lt->bw,le_trans->bC,zero_le->bW,le_add_right->cI,ne_of_gt->cZ,zero_add->gE,lt_irrefl->gY,le_of_lt->hJ,lt_succ_self->jC,min_eq_left->j6,le_succ->kX,add_sub_cancel_left->nY,lt_trans->oG,lt_succ_of_lt->oH,succ_le_succ->pD,lt_of_le_of_lt->qX,le_of_succ_le->si,le_of_eq->uS,eq_zero_or_pos->yP,lt_succ_of_le->Ad,add_zero->Ae,min_le_right->Bc,min_eq_right->Bd,succ_mul->JT,sub_self->JU,le_of_succ_le_succ->JV,mul_le_mul_right->L3,add_le_add_right->L4,mul_le_mul_left->Nm,le_succ_of_le->Py,le_of_lt_succ->Pz,max_eq_right->SH,not_lt_zero->Td,min_le_left->Te,max_eq_left->Tf,add_assoc->V5,le_total->Yj
open Int renaming toNat_natCast->bE,zero_add->Yk,sub_self->Yl
open Sw58 renaming cellKey->bK,within->bV,live->cz,countOf->de,passedOver->dw,step->eA,line->eB,writeOf->eM,between->eN,isIt->e8,idAt->fg,winner->fu,World->fS,says->gm,Base->gq,placeVal->gw,prior->iy,comes->iz,known->iY,standing->jr,spread->jt,asWritten->jG,find->jZ,at_->lu,blank->l9,settles->mH,bringAll->np,empty->nS,Place->nU,putAct->nW,content->ou,ready->o8,makes->o9,gone->qO,Base->rZ,undoing->uL,stretch->uM,insert->wB,more->wO,sheet->xM,past->AD,moving->A7,Copy->E5,Step->Hj,putting->Hv,actOf->Nj,Copy->Ps,Call->Pt,before->X7,below->YT,told->aa4
open PySem.F renaming plainAttrs_list->bX,type_list_append->d4,slot_list_append->d6,slot_dict_get->fZ,plainAttrs_dict->gD,slot_dict_keyiterator_next->gJ,slot_dict_itemiterator_next->i9,slot_dict_pop->jv,plain_extend_loop->jJ,slot_zip_next->kr,entry_dict_get->kL,type_list_extend->mO,slot_list_extend->mP,slot_tuple_iterator_next->mS,plain_list_iadd->nq,args_dict_get_2->rX,entry_dict_pop->sT,slot_tuple_hash->tu,slot_dict_items->tw,args_zip_next_1->tz,type_dict_pop->uv,type_dict_get->uw,entry_zip_next->uV,args_dict_itemiterator_next_1->uZ,entry_dict_itemiterator_next->vX,slot_dict_len->wD,slot_list_getattribute->yO,slot_zip_getattribute->yV,slot_dict_setdefault->Ab,plain_proto_collect->AE,kt_typeCall_dict_1->A8,entry_extend_loop->BD,args_dict_init_2->Es,args_dict_keyiterator_next_1->Ev,slot_list_index->EA,entry_dict_init->EB,args_dict_pop_3->EC,args_dict_pop_2->ED,args_dict_get_3->EE,entry_dict_keyiterator_next->EG,kt_called_dict->E1,slot_dict_keyiterator_iter->E3,args_tuple_iterator_next_1->E4,type_list_pop->F2,slot_list_pop->F3,entry_tuple_iterator_next->F8,slot_dict_items_iter->L7,slot_enumerate_next->Nr,args_dict_items_1->PN,entry_dict_items->SO,type_dict_items->Th,plainAttrs_dict->Ti,slot_dict_iter->Ve,slot_int_rmul->V9
open Sum renaming inl->cy,inr->zX
open PyProof.Rows renaming Keyed->cY,seqObj->eP,callWith_type1->gs,SortSt->j0,boot_list->kj,boot_dict->km,pendingOf->lh,arrOf->li,tuples'->lN,get?_update_seq->lY,slot_tuple_getitem->nr,IntsAre->oB,boot_sorted->pU,listUpdate_at->qj,boot_tuple->ql,listItems_at->rS,envOfC->sQ,subscriptTail_builtinR->wL,ksk_tree->yJ,IsTup->yQ,boot_max->A9,listOrd->BE,itemOrd->BF,keyKind'->El,failedOf->Em,SortKind->Eo,AllBare->Ey,setArr->EV,sortedHeap->JJ,keyLt'->JL,Subscript_->JS,subscriptTail->LW,plain_sorted->OX,isTrue_plain->OY,entry_sorted->OZ,call_function_entry_kw->O1,seqEpoch_at->Sx,ksk_rest->Sz,kind_sorted->SD,entry_proto_collect'->SF,wpAny_call_entry_kw->SX,size_push'->U3,entry_list_iadd'->X6,lt_int->Za,gt_int->Zb,callWith_builtin1->Zc,boot_min->Zd,boot_all->Ze,slicePart_none->aaP,gallopOf->aaW,setMinGallop'->abF,reverseSlice'->abG,getItem_tuple->abJ
open PySem.Paired renaming length->c9,snoc->Vb
open PySem.PassesOwn renaming never->dE
open List.cons renaming injEq->dL
open PySem.Calls renaming spliced_cons->dQ,callWith_builtin->fh,spliced_nil->gf,evalArgs_plain->gK,Name_function_global->Ew,call_function_entry->EH
open PySem.Around renaming under_plainId->eK,under->Ga
open PySem.Heap.SameBut renaming update->eQ,extBut->lL
open List.Pairwise renaming imp->eT,imp_of_mem->jD,nil->pH,imp₂->Vd
open Ne renaming symm->ff
open Array renaming length_toList->ft,getElem?_toList->il,getElem?_eq_none->ji,getElem?_eq_getElem->jP,toList_map->mE,forIn_toList->nL,toArray_toList->pF,swapIfInBounds_def->r6,size_map->vY,size_push->Bh,replicate->Bi,toList_replicate->Hm,toList->Hn,size_replicate->JY,toList_append->Kf,getElem?_map->L9
open PyFlat renaming told->fN,calls->pV,played->EF,call->HA,row->J2,rows->Va
open PySem.PyData renaming int->gz,eqvAll->gS,eqv->gT,canLayAll0->iM,depthAll->kW,canLay0->u9,depth->xN
open Or renaming inl->gA,inr->J3
open PySem.Sem renaming wp_bind'->gC,wp_pure'->iH,wp->oF,wp_mono->r9
open False renaming elim->gF
open PySem.Builtin.SmallTypes renaming nextOf->gG,ownedTupleIsFree->iq,ownedTupleHandOut->PQ
open Prod renaming ext->gX,snd->yW,fst->Tc
open PySem.Builtin.Dict_items renaming ownsTuple->hX,ownedTupleFields->qY,pairFromOwner->sn,ownedTupleIsFree->PR,newIterator->PU,dictOf->PV
open PySem.Obj renaming mapSeq->iE,data_mapDictKeys->pP,data_mapFields->qW,isFreed_of_fields->J7,isFreed_of_dict->Nl,cls_mapFields->Px,mapFields->V4,cls->Yi
open PySem.Builtin.List renaming listItems->iK,listTooLong->lQ,listExtendWith->xK,listSameRef->za,listFitsIndex->Zk
open Pure renaming pure->i8
open True renaming intro->jF
open ForInStep renaming yield->jI,done->uz
open Sw58Neutral renaming step->jY,whole64->oO,asked1->EX,many->Hi,start->aa2,asked->aa3
open PySw58 renaming shape->kO,whole->pT,answers_asked->uY,answers->BC
open PySem.Builtin.Dict renaming missedRemoval->kZ,updateFrom->mD,showsAll->nJ,keyAndDefault->pd,selfAndRest->zb,addKeywords->zd,pairItems->AN,takeOut->BH,pendingCount->Zl,noArgs->Zm,dictSlotNone->Zn
open PySem.Builtin.Tuple renaming tupleHashOf->ly,tupleExact->lP,tupleCompareSizes->vb,tupleItemsOf->xI
open PySem.Builtin.Slice renaming slicePlaces->lz,sliceAdjust->pE,sliceApplied->xJ,slicePartIndex->Yn,sliceFields->Yo
open PySem.Builtin renaming «zip.__next__»->mB,«object.__getattribute__»->mC,sorted->uW,«dict.__init__»->AM,«dict.items»->Ex,«dict.pop»->E6,len->HC,«zip.__new__»->adn,«tuple.__lt__»->ado,«tuple.__gt__»->adp,«enumerate.__new__»->adq,«dict_items.__iter__»->adr,«dict.update.loop»->ads,«dict.setdefault»->adt,«dict.__len__»->adu,«dict.__iter__»->adv
open PySem.Str renaming ofString->mN
open PySem.NameKind renaming free->oI,cell->BG
open Std.Legacy.Range renaming forIn_eq_forIn_range'->qP
open Sum.inl renaming injEq->qU,inj->Hk
open StateT renaming run_bind->uu,run_get->BA,run_lift->O6,lift->U8
open PySem.W.Codec renaming encAll->uA,app->Pe,denoteAll->PP
open PySem.W.WData renaming weightAll->uK,int->YS
open PyProof.Rows.SortSt renaming mk'->BB
open PySem.AutoSeq1 renaming sub_tuple_tuple->BI
open PySem.SeqAt renaming EqAt->Ep,shaped->U9
open Prod.mk renaming injEq->Et
open PySem.SeqAt.EqAt renaming str_int->FY,int_str->FZ,int_int->F0,str_str->abP,str_none->abQ,str_bool->abR,same->abS,none_str->abT,none_int->abU,none_bool->abV,int_none->abW,int_bool->abX,bool_str->abY,bool_none->abZ,bool_int->ab0,bool_bool->ab1
open PySem.Heap.DictOfH renaming new->F7
open Sw58.World renaming with_->Hw,copy->JR,copy->LY,does->abO
open PySem.Shared renaming heap->Hy,TypeIs->SG
open PySem.Code renaming isFrame->HB,frames->Ym
open PySem.Value.type renaming inj->JZ
open Sum.inr renaming injEq->Pu
open PyProof.Rows.G renaming tupKeyC->VW
open PySem.Heap.IsSliceOf renaming new->V8
open PySem.W.Looks renaming here->X9
open PySem.EqMixed renaming ne_str_int->Ya,ne_str_bool->Yb,ne_int_str->Yc,ne_bool_str->Yd,eq_str_int->Ye,eq_str_bool->Yf,eq_int_str->Yg,eq_bool_str->Yh
open PySem.Builtin.Range renaming rangeSize->Yp
open PySem.Within renaming cons->YU
open PySem.EqNone renaming ne_str_none->YW,ne_none_str->YX,ne_none_none->YY,ne_none_int->YZ,ne_none_bool->Y0,ne_int_none->Y1,ne_bool_none->Y2,eq_str_none->Y3,eq_none_str->Y4,eq_none_none->Y5,eq_none_int->Y6,eq_none_bool->Y7,eq_int_none->Y8,eq_bool_none->Y9
open List.Sublist renaming nodup->Zf,length_le->Zg,cons_cons->Zh,cons->Zi
open PyProof.Rows.IsTup renaming new->Zj
open PySem.Heap.IsList renaming push->aa9
open PySem.Heap.DictOf renaming new->aba
open List.Nodup renaming length_le_of_subset->ab2
open PySem.Data renaming seq->ab3
open Array.Perm renaming refl->ab4
open PySem.W.ReadsAllW renaming nil->adf,cons->adg
open PySem.IsL renaming update->adh
open List.Perm renaming swap->adi,refl->adj,of_eq->adk
open PySem.DictEntry renaming refKey->adl
open Classical renaming propDecidable->adm
open PySem.AutoListH renaming list___mul___list_int_3->adw
local macro_rules|`(tactic|let $d:letDecl)=>`(tactic|have $d:letDecl)
open Lean Parser in
local macro_rules|`(tactic|let ⟨$a,*⟩:= $e)=>do
 let l:=λ p=>mkNode ``Tactic.rcasesPatLo #[mkNode ``Tactic.rcasesPatMed #[mkNullNode #[p]],mkNullNode]
 let p<-Syntax.rewriteBottomUpM (m:=MacroM) (λ s=>pure (match s with|.ident ..=>mkNode ``Tactic.rcasesPat.one #[s]|.node i k x=>if k==``Term.hole then .node i ``Tactic.rcasesPat.ignore x else if k==``Term.anonymousCtor then .node i ``Tactic.rcasesPat.tuple (x.set! 1 (mkNullNode (x[1]!.getArgs.map λ y=>if y.isAtom then y else l y))) else s|_=>s)) (<-`(⟨$a,*⟩))
 `(tactic|rcases $e:term with $(⟨l p⟩))
local macro_rules|`(tactic|let ⟨$a,*⟩:$t := $e)=>`(tactic|let ⟨$a,*⟩:=($e : $t))
local macro_rules|`(tactic|let ⟨$a,*⟩:_:= $e)=>`(tactic|(refine gl_ ?_;intro g;(let ⟨$a,*⟩:= $e)<;>unfold g))
local macro_rules|`(($a,$b,*))=>`(⟨$a,$b,*⟩)
local macro_rules|`(#[$a,$b])=>`(Prod.mk $a $b)|`(#[$a,$b,$c])=>`(Prod.mk $a #[$b,$c])|`(#[$a,$b,$c,$d])=>`(Prod.mk $a #[$b,$c,$d])
local macro_rules|`(tactic|show $e)=>`(tactic|refine $e)
set_option hygiene false in
local macro_rules|`(-$f:ident $a*)=>`($f P w K mg base $a*)
local macro_rules|`(tactic|lia)=>`(tactic|decide +kernel)
local macro_rules|`(tactic|lk)=>`(tactic|first|lia (splits:=9)|omega)
local macro_rules|`(tactic|w_up)=>`(tactic|first|exact .inl rfl|exact .inr rfl|exact .inr (.inl rfl)|exact .inr (.inr rfl)|assumption)
local macro_rules|`(tactic|simp![$a,*]$[$l]?)=>`(tactic|simp only[$a,*]$[$l]?)
set_option hygiene false in
local macro_rules|`(command|universe a)=>`(command|variable{P:bq}{w:World}{K:aq}{mg:Sv}{base:cT})
set_option hygiene false in
local macro_rules|`(command|universe b)=>`(command|variable{prog:bq}{w:World}{A:dG}{E:Vp}{s:br})
namespace SM
open Sw58
def mj:stepLess a b=aC↔a.1<b.1\/(a.1=b.1/\(a.2.1<b.2.1\/(a.2.1=b.2.1/\a.2.2<b.2.2))):=by
 unfold stepLess;simp![p6,cW,cx,iF]
def qr{a b:Step}(c:a.1=b.1)(d:a.2.1=b.2.1)(e:a.2.2=b.2.2):a=b:=by
 let⟨f,g,h⟩:=a;let⟨i,j,k⟩:=b;simp only at c d e;subst c d e;rfl
def pJ(a:Step):stepLess a a=aA:=by
 cases h:stepLess a a with
 |false=>rfl
 |true=>rw[mj] at h;lk
def BZ(h:stepLess a b=aC)(d:stepLess b c=aC):stepLess a c=aC:=by
 rw[mj] at*;lk
def Go(a b:Step):stepLess a b=aC\/a=b\/stepLess b a=aC:=by
 rw[mj,mj];by_cases c:a.1=b.1
 ·by_cases d:a.2.1=b.2.1
  ·by_cases e:a.2.2=b.2.2
   ·show .inr (.inl (qr c d e))
   ·lk
  ·lk
 ·lk
def qG:below (a::p) (b::q)=aC↔stepLess a b=aC\/(a=b/\below p q=aC):=by
 change(stepLess a b||(a==b&&below p q))=aC↔_;simp![p6,cW,iF]
theorem my:∀p:Place,below p p=aA
 |[]=>rfl
 |a::p=>by
  cases h:below (a::p) (a::p) with
  |false=>rfl
  |true=>
   rw[qG,pJ,my p] at h;simp at h
theorem pk:∀{p q r:Place},below p q=aC->below q r=aC->below p r=aC
 |[],[],_,h,_=>by simp[below] at h
 |[],_::_,[],_,h=>by simp[below] at h
 |[],_::_,_::_,_,_=>rfl
 |_::_,[],_,h,_=>by simp[below] at h
 |_::_,_::_,[],_,h=>by simp[below] at h
 |a::p,b::q,c::r,h,d=>by
  rw[qG] at*;rcases h with h|⟨rfl,h⟩
  ·rcases d with d|⟨rfl,d⟩
   ·show .inl (BZ h d)
   ·show .inl h
  ·rcases d with d|⟨rfl,d⟩
   ·show .inl d
   ·show .inr (J,pk h d)
theorem wx:∀p q:Place,below p q=aC\/p=q\/below q p=aC
 |[],[]=>.inr (.inl rfl)
 |[],_::_=>.inl rfl
 |_::_,[]=>.inr (.inr rfl)
 |a::p,b::q=>by
  rw[qG,qG];rcases Go a b with h|rfl|h
  ·show .inl (.inl h)
  ·rcases wx p q with h|rfl|h
   ·show .inl (.inr (J,h))
   ·show .inr (.inl rfl)
   ·show .inr (.inr (.inr (J,h)))
  ·show .inr (.inr (.inl h))
def Jw(h:below p q=aC):below q p=aA:=by
 cases a:below q p with
 |false=>rfl
 |true=>
  let:=pk h a;rw[my] at this;cases this
def M8(l:aa (Place×Id)):Prop:=l.Pairwise λx y=>below x.1 y.1=aC
theorem ug:∀{l:aa (Place×Id)},y∈insert x l↔y=x\/y∈l
 |[]=>by simp[wB]
 |z::l=>by
  unfold wB;split
  ·simp
  ·rw[aT,ug,aT]
   constructor
   ·rintro(h|h|h)
    ·show .inr (.inl h)
    ·show .inl h
    ·show .inr (.inr h)
   ·rintro(h|h|h)
    ·show .inr (.inl h)
    ·show .inl h
    ·show .inr (.inr h)
theorem Dl:∀{l:aa (Place×Id)},M8 l->(∀y∈l,y.1≠x.1)->M8 (insert x l)
 |[],_,_=>by simp[wB,M8]
 |z::l,h,d=>by
  let c:=List.pairwise_cons.mp h;unfold wB;split
  ·rename_i b
   show List.pairwise_cons.mpr (λy a=> ?_,h);rcases aT.mp a with rfl|a
   ·show b
   ·show pk b (c.1 y a)
  ·rename_i b
   let e:below z.1 x.1=aC:=by
    rcases wx x.1 z.1 with h1|h1|h1
    ·show absurd h1 b
    ·show absurd h1.symm (d z aQ)
    ·show h1
   show List.pairwise_cons.mpr (λy a=> ?_,Dl c.2 λy a=>d y (aM _ a));rcases ug.mp a with rfl|a
   ·show e
   ·show c.1 y a
theorem Ca:∀{l m:aa (Place×Id)},M8 l->M8 m->(∀x,x∈l↔x∈m)->l=m
 |[],[],_,_,_=>rfl
 |[],y::m,_,_,h=>by let:=(h y).mpr aQ;simp at this
 |x::l,[],_,_,h=>by let:=(h x).mp aQ;simp at this
 |x::l,y::m,hl,g,h=>by
  let b:=List.pairwise_cons.mp hl;let c:=List.pairwise_cons.mp g;let i:x=y:=by
   rcases aT.mp ((h x).mp aQ) with e|e
   ·show e
   ·rcases aT.mp ((h y).mpr aQ) with d|d
    ·show d.symm
    ·let j:=c.1 x e
     let f:=b.1 y d;rw[Jw j] at f;cases f
  subst i;let k:∀z∈l,z≠x:=λz a e=>by
   let:=b.1 z a;rw[e,my] at this;cases this
  let n:∀z∈m,z≠x:=λz a e=>by
   let:=c.1 z a;rw[e,my] at this;cases this
  rw[Ca b.2 c.2 λz=> ?_];constructor
  ·intro a
   rcases aT.mp ((h z).mp (aM _ a)) with e|e
   ·show absurd e (k z a)
   ·show e
  ·intro a
   rcases aT.mp ((h z).mpr (aM _ a)) with e|e
   ·show absurd e (n z a)
   ·show e
def vE:more a b=aC↔b.time<a.time\/(a.time=b.time/\b.hand<a.hand):=by
 unfold more;simp![p6,cW,cx,iF]
def Ez(l:aa Act):Prop:=∀x∈l,∀y∈l,x.time=y.time->x.hand=y.hand->x=y
structure LO(l:List Act)(k:Key)(a:Act):Prop where
 mem:a∈l
 wr:(writeOf a k).isSome=true
 fI:∀x∈l,(writeOf x k).isSome=true->x=a\/more a x=true
def qZ(k:Key)(m:ae Act)(a:Act):ae Act:=if(writeOf a k).isSome=aC then(match m with
 |none=>ag a
 |some b=>if more a b=aC then ag a else m) else m
def Fa(l:aa Act)(k:Key):winner l k=l.foldl (qZ k) au:=rfl
def vf(l:aa Act)(a:Act)(k:Key):winner (l++[a]) k=qZ k (winner l k) a:=by
 rw[Fa,Fa,lO];rfl
def LO.P7(h:LO l k a)(c:LO l k b):a=b:=by
 rcases h.fI b c.mem c.wr with e|e
 ·show e.symm
 ·rcases c.fI a h.mem h.wr with d|d
  ·show d
  ·rw[vE] at e d;lk
def vw{P:aa b->Prop}(c:P [])(d:∀l a,P l->P (l++[a])):∀l,P l:=by
 intro l;let:∀m:aa b,P m.reverse:=by
  intro m;induction m with
  |nil=>show c
  |cons a m e=>rw[List.reverse_cons];show d _ _ e
 let h:=this l.reverse;rw[List.reverse_reverse] at h;show h
def nM:∀l (k:Key),Ez l->(winner l k=au/\∀x∈l,(writeOf x k).isSome=aA)\/∃a,winner l k=ag a/\LO l k a:=by
 intro l k;show vw (P:=λl=>Ez l->(winner l k=au/\∀x∈l,(writeOf x k).isSome=aA)\/∃a,winner l k=ag a/\LO l k a) ?_ ?_ l
 ·intro _
  show .inl (J,λx c=>by cases c)
 ·intro l a m n
  let o:Ez l:=λx c y r=>n x (cw _ c) y (cw _ r);let p:a∈l++[a]:=b7 _ aQ;rw[vf];unfold qZ;by_cases hw:(writeOf a k).isSome=aC
  ·rw[aH hw]
   rcases m o with⟨e,i⟩|⟨b,e,f⟩
   ·rw[e]
    show .inr (a,J,p,hw,λx c d=> ?_);rcases bO.mp c with c|c
    ·rw[i x c] at d;cases d
    ·show .inl (bG.mp c)
   ·rw[e]
    simp only;let q:b∈l++[a]:=cw _ f.mem;by_cases g:more a b=aC
    ·rw[aH g]
     show .inr (a,J,p,hw,λx c d=> ?_);rcases bO.mp c with c|c
     ·rcases f.fI x c d with rfl|h
      ·show .inr g
      ·show .inr (by rw[vE] at*;lk)
     ·show .inl (bG.mp c)
    ·rw[aD g]
     show .inr (b,J,q,f.wr,λx c d=> ?_);rcases bO.mp c with c|c
     ·show f.fI x c d
     ·let s:=bG.mp c
      subst s;by_cases j:more b x=aC
      ·show .inr j
      ·show .inl (n x (b7 _ aQ) b q ?_ ?_)
       ·rw[vE] at g j;lk
       ·rw[vE] at g j;lk
  ·rw[aD hw]
   rcases m o with⟨e,i⟩|⟨b,e,f⟩
   ·show .inl (e,λx c=> ?_)
    rcases bO.mp c with c|c
    ·show i x c
    ·rw[bG.mp c];simpa using hw
   ·show .inr (b,e,cw _ f.mem,f.wr,λx c d=> ?_)
    rcases bO.mp c with c|c
    ·show f.fI x c d
    ·rw[bG.mp c] at d;show absurd d hw
def Nu(c:Ez l)(h:LO l k a):winner l k=ag a:=by
 rcases nM l k c with⟨_,d⟩|⟨b,e,f⟩
 ·let:=d a h.mem;rw[h.wr] at this;cases this
 ·rw[e,h.P7 f]
def HH(c:Ez l)(h:∀x∈l,(writeOf x k).isSome=aA):winner l k=au:=by
 rcases nM l k c with⟨e,_⟩|⟨b,_,a⟩
 ·show e
 ·let:=h b a.mem;rw[a.wr] at this;cases this
def ve(c:Ez l)(h:winner l k=ag a):LO l k a:=by
 rcases nM l k c with⟨e,_⟩|⟨b,e,d⟩
 ·rw[h] at e;cases e
 ·rw[h] at e;cases e;show d
def Gd(hl:Ez l)(h:∀x,x∈l↔x∈m):winner l k=winner m k:=by
 let d:Ez m:=λx b y f=>hl x ((h x).mpr b) y ((h y).mpr f);rcases nM l k hl with⟨e,g⟩|⟨a,e,c⟩
 ·rw[e,HH d λx b=>g x ((h x).mpr b)]
 ·rw[e,Nu d ((h a).mp c.mem,c.wr,λx b=>c.fI x ((h x).mpr b))]
theorem uD [BEq b] [LawfulBEq b]:∀n (l:aa b),l.length<=n->l.eraseDups.Nodup
 |_,[],_=>by simp
 |0,_::_,h=>by simp at h
 |n+1,a::l,h=>by
  rw[List.eraseDups_cons,eJ];show(?_,uD n _ ?_)
  ·rw[qQ]
   simp
  ·show bC (eY _ _) (by simpa using h)
def gx(b:rZ)(a:Nat):Nat:=if a=0 then b.rows else b.cols
def RB(l:aa Act)(b:Nat):aa Id:=l.flatMap λa=>a.writes.filterMap λw=>match w.1 with
  |[k,h,n]=>if k=2*b/\0<h then ag #[h,n] else au
  |_=>au
def zR(b:rZ)(l:aa Act)(a:Nat):aa Id:=((fA (gx b a)).map λk=> #[0,k])++(RB l a).eraseDups
def IX(f:Id->ae Place)(m:aa (Place×Id))(i:Id):aa (Place×Id):=match f i with
 |some p=>wB #[p,i] m
 |none=>m
def ML(b:rZ)(l:aa Act)(a:Nat):line b l a=(zR b l a).foldl (IX (placeOf l a (gx b a))) []:=rfl
def zB:i∈RB l f↔0<i.1/\∃a∈l,∃v,#[[2*f,i.1,i.2],v]∈a.writes:=by
 unfold RB;rw[AH];constructor
 ·rintro⟨a,b,d⟩
  rw[iA] at d;let⟨w,hw,e⟩:=d;let⟨k,v⟩:=w;match k,e,hw with
  |[k,h,n],e,hw=>
   simp only at e;split at e
   ·rename_i c
    let g:=aJ e;subst g;let⟨rfl,j⟩:=c;show(j,a,b,v,hw)
   ·cases e
  |[],e,_=>cases e
  |[_],e,_=>cases e
  |[_,_],e,_=>cases e
  |_::_::_::_::_,e,_=>cases e
 ·rintro⟨m,a,b,v,hw⟩
  show(a,b,?_);rw[iA];show(_,hw,by simp[m])
def GQ(b:rZ)(l:aa Act)(d:Nat):(zR b l d).Nodup:=by
 unfold zR;rw[j7];show(?_,uD _ _ (aS _),?_)
 ·rw[gZ,bN]
  show(gZ.mp AG).imp λh e=>h (by injection e)
 ·intro x a y c e
  subst e;rw[aY] at a;let⟨k,_,rfl⟩:=a;rw[qQ,zB] at c;show absurd c.1 (by simp)
theorem Jj(f:Id->ae Place)(x:Place×Id):∀(b:aa Id) m,x∈b.foldl (IX f) m↔x∈m\/(x.2∈b/\f x.2=ag x.1)
 |[],m=>by simp
 |i::b,m=>by
  rw[gB,Jj f x b];unfold IX;cases e:f i with
  |none=>
   simp only;constructor
   ·rintro(h|⟨h,a⟩)
    ·show .inl h
    ·show .inr (aM _ h,a)
   ·rintro(h|⟨h,a⟩)
    ·show .inl h
    ·rcases aT.mp h with h|h
     ·rw[h,e] at a;cases a
     ·show .inr (h,a)
  |some p=>
   simp only;rw[ug];constructor
   ·rintro((h|h)|⟨h,a⟩)
    ·subst h;show .inr (aQ,e)
    ·show .inl h
    ·show .inr (aM _ h,a)
   ·rintro(h|⟨h,a⟩)
    ·show .inl (.inr h)
    ·rcases aT.mp h with h|h
     ·show .inl (.inl ?_)
      rw[h,e] at a;let⟨c,d⟩:=x;simp only at h a;rw[h,aJ a]
     ·show .inr (h,a)
theorem Du(f:Id->ae Place)(g:∀i j p,f i=ag p->f j=ag p->i=j):∀(b:aa Id) m,b.Nodup->M8 m->(∀y∈m,y.2∉b/\f y.2=ag y.1)->M8 (b.foldl (IX f) m)
 |[],m,_,h,_=>h
 |i::b,m,d,h,c=>by
  rw[eJ] at d;rw[gB];unfold IX;cases e:f i with
  |none=>show Du f g b m d.2 h λy a=>(λq=>(c y a).1 (aM _ q),(c y a).2)
  |some p=>
   show Du f g b _ d.2 (Dl h λy a q=> ?_) λy a=> ?_
   ·let k:=(c y a).2
    rw[q] at k;let l:=g _ _ _ k e;show(c y a).1 (by rw[l];show aQ)
   ·rcases ug.mp a with rfl|a
    ·show(d.1,e)
    ·show(λq=>(c y a).1 (aM _ q),(c y a).2)
def YO(b:rZ)(l:aa Act)(c:Nat):Prop:=∀a∈l,∀n v,#[[2*c,0,n],v]∈a.writes->n<gx b c
def Apart(b:rZ)(l:aa Act)(a:Nat):Prop:=∀i j p,placeOf l a (gx b a) i=ag p->placeOf l a (gx b a) j=ag p->i=j
def re(h:writeOf a k=ag v): #[k,v]∈a.writes:=by
 unfold writeOf at h;rw[bv] at h;let⟨w,hw,rfl⟩:=h;let b:=pZ hw;rw[iF] at b;rw[<-b];show(jS hw)
def tI(c:Ez l)(h:standing l k=ag v):∃a∈l,winner l k=ag a/\writeOf a k=ag v:=by
 unfold standing at h;rw[Option.bind_eq_some_iff] at h;let⟨a,b,d⟩:=h;show(a,(ve c b).mem,b,d)
def Ao(m:Ez l)(hl:YO b l d)(h:placeOf l d (gx b d) i=ag p):i∈zR b l d:=by
 unfold zR;rw[bO,aY,qQ,zB];unfold placeOf at h;let n:∀v,standing l [2*d,i.1,i.2]=ag v->(∃a,a∈fA (gx b d)/\ #[0,a]=i)\/0<i.1/\∃a,a∈l/\∃v,#[[2*d,i.1,i.2],v]∈a.writes:=by
  intro v g;let⟨a,j,_,hw⟩:=tI m g;let k:=re hw;by_cases f:i.1=0
  ·show .inl (i.2,?_,by rw[<-f])
   rw[iI];show hl a j i.2 v (by rw[<-f];show k)
  ·show .inr (Nat.pos_of_ne_zero f,a,j,v,k)
 split at h
 ·cases h
 ·rename_i v g _ e
  show n _ e
 ·split at h
  ·rename_i c
   show .inl (i.2,iI.mpr c.2,by rw[<-c.1])
  ·cases h
def vG{b:rZ}(c:Ez l)(hl:YO b l a)(x:Place×Id):x∈line b l a↔placeOf l a (gx b a) x.2=ag x.1:=by
 rw[ML,Jj];constructor
 ·rintro(h|⟨_,h⟩)
  ·cases h
  ·show h
 ·intro h
  show .inr (Ao c hl h,h)
def IZ{b:rZ}(c:Apart b l a):M8 (line b l a):=by
 rw[ML];show Du _ c _ _ (GQ b l a) pH λy d=>by cases d
def Uv(c:Ez l)(hl:YO b l a)(d:Apart b l a)(e:M8 m)
  (f:∀x,x∈m↔placeOf l a (gx b a) x.2=ag x.1):line b l a=m:=
 Ca (IZ d) e λx=>by rw[vG c hl,f]
def qC(k:Ez l)(hl:YO b l d)(m:Apart b l d):((line b l d).map (·.2)).Nodup:=by
 rw[gZ,bN];let h:=IZ m;unfold M8 at h;let n:(line b l d).Pairwise λx y=>x∈line b l d/\y∈line b l d/\below x.1 y.1=aC:=by
  rw[y8];intro a c f;let o:a∈line b l d:=f.subset (by simp);let m2:c∈line b l d:=f.subset (by simp);show(o,m2,y8.mp h f)
 show n.imp ?_;rintro x y ⟨g,i,j⟩ e;rw[vG k hl] at g i;rw[e,i] at g;rw[aJ g,my] at j;cases j
theorem mi:∀p:Place,stepsOf (placeVal p)=p
 |[]=>rfl
 |s::p=>by
  change stepsOf (s.1::(s.2.1:Int)::(s.2.2:Int)::placeVal p)=s::p;change #[s.1,((s.2.1:Int)).toNat,((s.2.2:Int)).toNat]::stepsOf (placeVal p)=s::p;rw[mi p,bE,bE]
def pO(p:Place)(h m:Nat):Prop:=∃q d,p=q++[#[d,h,m]]
def pO.inj(x:pO p h m)(y:pO p a f):h=a/\m=f:=by
 let⟨q,d,rfl⟩:=x;let⟨l,n,e⟩:=y;injection((List.append_inj' e J).2) with g _;injection g with _ i;injection i with j k;show(j,k)
def pO.cons(s:Step)(x:pO p h m):pO (s::p) h m:=by
 let⟨q,d,rfl⟩:=x;show(s::q,d,J)
theorem uo(d:Nat×Nat):∀p q:Place,pO (between d p q) d.1 d.2
 |[],[]=>([],0,J)
 |a::p,[]=>([],a.1+1,by unfold between;rfl)
 |[],b::q=>([],b.1 - 1,by unfold between;rfl)
 |a::p,b::q=>by
  unfold between;split
  ·show([],a.1+1,J)
  ·split
   ·show(uo d p q).cons a
   ·show(uo d p []).cons a
theorem jk(h:Nat):∀n k p q,(spread h n k p q).length=n
 |0,_,_,_=>rfl
 |n+1,k,p,q=>by
  change(_::spread h n (k+1) _ q).length=n+1;rw[aN,jk h n]
theorem vo(h:Nat):∀n k p q i x,(spread h n k p q)[i]?=ag x->pO x h (k+i)
 |0,_,_,_,_,_,e=>by simp[spread] at e
 |n+1,k,p,q,0,x,e=>by
  let a:between #[h,k] p q=x:=aJ e;rw[<-a];show uo #[h,k] p q
 |n+1,k,p,q,i+1,x,e=>by
  let:=vo h n (k+1) _ q i x e;rw[show k+(i+1)=k+1+i by lk];show this
def vN(l:aa Act)(h:Nat):countOf l h=(ownOf l h).length:=rfl
def ub(l m:aa Act)(h:Nat):ownOf (l++m) h=ownOf l h++ownOf m h:=by
 unfold ownOf;rw[gH]
def gl(l m:aa Act)(h:Nat):countOf (l++m) h=countOf l h+countOf m h:=by
 rw[vN,ub,bt];rfl
def qz(e:a.hand=h):ownOf [a] h=[a]:=by
 unfold ownOf;simp[e]
def ua(e:a.hand≠h):ownOf [a] h=[]:=by
 unfold ownOf;simp[e]
def kG(e:a.hand=h):countOf [a] h=1:=by rw[vN,qz e];rfl
def jA(e:a.hand≠h):countOf [a] h=0:=by rw[vN,ua e];rfl
def Us:a∈ownOf l h↔a∈l/\a.hand=h:=by
 unfold ownOf;rw[cq,iF]
abbrev Made:=Nat->aa Act
def US(M:Made)(d h m:Nat)(i:Id):Prop:=(h=0/\i= #[0,m])\/(0<h/\∃a∈M h,a.kind=0/\a.number=m/64/\∃v,a.writes[m%64]?=ag #[[2*d,i.1,i.2],v])
def Sc(M:Made)(a:Nat)(i:Id)(v:Val):Prop:=∃p:Place,v=placeVal p/\(p=[]\/∃h m,pO p h m/\US M a h m i)
inductive vT:Val->Prop
 |none:vT [0]
 |num (z:Int):vT [1,z]
 |Jy (r c s d:Id):vT [2,r.1,r.2,c.1,c.2,s.1,s.2,d.1,d.2]
 |cell (a k:Int) (r c:Id):vT [3,a,r.1,r.2,c.1,c.2,k]
inductive om(b:Base)(M:Made):Key->Val->Prop
 |place (axis:Nat) (i:Id) (v:Val):axis<2->(i.1=0->i.2<gx b axis)->Sc M axis i v->om b M [2*axis,i.1,i.2] v
 |gone (axis:Nat) (i:Id) (t:Bool):axis<2->om b M [2*axis+1,i.1,i.2] [if t then 1 else 0]
 |cell (r c:Id) (v:Val):vT v->om b M (cellKey r c) v
structure wG(b:Base)(M:Made)(a:Act):Prop where
 Dy:∀w∈a.writes,om b M w.1 w.2
 nd:(a.writes.map (·.1)).Nodup
 LB:a.writes.length<=64
structure dv(b:Base)(M:Made):Prop where
 hand:∀h,∀a∈M h,a.hand=h/\1<=h/\h<=b.hands
 num:∀h i a,(M h)[i]?=some a->a.number=i+1
 inc:∀h,(M h).Pairwise λa c=>a.time<c.time
 kn:∀h,∀a∈M h,a.knows.length=b.hands/\known a h+1=a.number/\∀g,1<=g->known a g<=(M g).length
 wr:∀h,∀a∈M h,wG b M a
structure cK(b:Base)(M:Made)(c:Copy):Prop where
 hnd:∀a∈c.acts,1<=a.hand/\a.hand<=b.hands
 pre:∀h,ownOf c.acts h=(M h).take (countOf c.acts h)
 clos:∀a∈c.acts,∀h,1<=h->known a h<=countOf c.acts h
 wmade:∀a∈c.waits,a∈M a.hand
 wout:∀a∈c.waits,countOf c.acts a.hand<a.number
 wsrt:c.waits.Pairwise λa x=>before a x=true
def Ej(b:rZ)(c:E5):Prop:=∀a∈c.waits,ready b c.acts a=aA
structure o7(w:World)(M:Made):Prop where
 hands:1<=w.base.hands/\w.base.hands<=8
 rows:1<=w.base.rows/\w.base.rows<=64
 cols:1<=w.base.cols/\w.base.cols<=64
 len:w.copies.length=w.base.hands
 made:dv w.base M
 copy:∀h,1<=h->h<=w.base.hands->cK w.base M (w.copy h)/\Ej w.base (w.copy h)
 own:∀h,1<=h->h<=w.base.hands->countOf (w.copy h).acts h=(M h).length
section
variable{b:rZ}{M:Made}{c:E5}
def dv.Gi(m:dv b M)(n:x∈M h)(o:y∈M h)(e:x.time=y.time):x=y:=by
 let⟨i,d⟩:=List.mem_iff_getElem?.mp n;let⟨j,a⟩:=List.mem_iff_getElem?.mp o;let p:=jR.mp (m.inc h);let⟨f,g⟩:=List.getElem?_eq_some_iff.mp d;let⟨k,l⟩:=List.getElem?_eq_some_iff.mp a;rcases Nat.lt_trichotomy i j with q|q|q
 ·let:=p i j f k q
  rw[g,l] at this;lk
 ·subst q;rw[d] at a;show aJ a
 ·let:=p j i k f q
  rw[g,l] at this;lk
def dv.Jt(m:dv b M)(f:x∈M h)(g:y∈M h)(e:x.number=y.number):x=y:=by
 let⟨i,d⟩:=List.mem_iff_getElem?.mp f;let⟨j,a⟩:=List.mem_iff_getElem?.mp g;let k:=m.num h i x d;let l:=m.num h j y a;let:i=j:=by lk
 subst this;rw[d] at a;show aJ a
def dv.at_(m:dv b M)(d:x∈M h):1<=x.number/\x.number<=(M h).length/\(M h)[x.number - 1]?=ag x:=by
 let⟨i,a⟩:=List.mem_iff_getElem?.mp d;let e:=m.num h i x a;let f:=(List.getElem?_eq_some_iff.mp a).1;show(by lk,by lk,?_);rw[show x.number - 1=i by lk];show a
theorem dv.take(m:dv b M):x∈(M h).take n↔x∈M h/\x.number<=n:=by
 constructor
 ·intro d
  let⟨e,a⟩:=List.mem_iff_getElem?.mp d;rw[xP] at a;split at a
  ·rename_i c
   let:=m.num h e x a;show(bg a,by lk)
  ·cases a
 ·rintro⟨d,g⟩
  let⟨j,k,f⟩:=m.at_ d;show bg (i:=x.number - 1) ?_;rw[xP,aH (by lk)];show f
def cK.mem(m:dv b M)(k:cK b M c):a∈c.acts↔a∈M a.hand/\a.number<=countOf c.acts a.hand:=by
 rw[<-m.take,<-k.pre,Us];show(λh=>(h,J),λh=>h.1)
def cK.made(m:dv b M)(k:cK b M c)(h:a∈c.acts):a∈M a.hand:=((k.mem m).mp h).1
def cK.DZ(k:cK b M c)(h:Nat):countOf c.acts h<=(M h).length:=by
 let:=k.pre h;let a:(ownOf c.acts h).length<=(M h).length:=by rw[this,dq];show Bc _ _
 show a
theorem cK.Gi(m:dv b M)(k:cK b M c):Ez c.acts:=λx d y e f g=>by
 let a:=k.made m d;let h:=k.made m e;rw[g] at a;show m.Gi a h f
def lS:isIt a x=aC↔a.hand=x.hand/\a.number=x.number:=by
 unfold isIt;rw[cW,iF,iF]
theorem dv.isIt(m:dv b M)(d:a∈M a.hand)(e:x∈M x.hand):e8 a x=aC↔a=x:=by
 rw[lS];constructor
 ·rintro⟨f,g⟩
  rw[f] at d;show m.Jt d e g
 ·rintro rfl;show(J,J)
def iP(M:Made)(n:Nat)(a:Nat->Nat):aa Act:=(fA n).flatMap λi=>(M (i+1)).take (a (i+1))
def Oc(m:dv b M):x∈iP M b.hands d↔x∈M x.hand/\x.number<=d x.hand:=by
 unfold iP;rw[AH];constructor
 ·rintro⟨i,f,a⟩
  rw[m.take] at a;let:=(m.hand _ _ a.1).1;rw[this];show a
 ·rintro⟨a,e⟩
  let g:=m.hand _ _ a;show(x.hand - 1,iI.mpr (by lk),?_);rw[show x.hand - 1+1=x.hand by lk,m.take];show(a,e)
def Q3(m:dv b M)(k:cK b M c)(f:a∈c.acts):x∈past c.acts a↔x∈iP M b.hands (known a):=by
 rw[Oc m];unfold past;rw[cq,cx,k.mem m];constructor
 ·rintro⟨⟨d,_⟩,e⟩;show(d,e)
 ·rintro⟨d,e⟩;show((d,bC e (k.clos a f _ (m.hand _ _ d).2.1)),e)
def Ez.sub(h:Ez m)(s:∀x,x∈l->x∈m):Ez l:=λx a y d=>h x (s x a) y (s y d)
def II(m:dv b M)(k:cK b M c)(d:a∈c.acts)(q:Key):winner (past c.acts a) q=winner (iP M b.hands (known a)) q:=
 Gd ((k.Gi m).sub λ_ e=>(cq.mp e).1) λ_=>Q3 m k d
def EN(m:dv b M)(k:cK b M c)(d:a∈c.acts)(q:Key):standing (past c.acts a) q=standing (iP M b.hands (known a)) q:=by
 unfold standing;rw[II m k d]
def US.fun(m:dv b M)(x:US M f h n i)(y:US M f h n j):i=j:=by
 rcases x with⟨g,e⟩|⟨g,a,k,_,l,v,o⟩
 ·rcases y with⟨_,p⟩|⟨q,_⟩
  ·rw[e,p]
  ·lk
 ·rcases y with⟨q,_⟩|⟨_,B,r,_,s,C,d⟩
  ·lk
  ·let e:=m.Jt k r (by rw[l,s])
   subst e;rw[o] at d;injection aJ d with t _;injection t with _ u;injection u with w z;injection z with A _;show gX w A
def om.pl(x:om b M [2*a,i.1,i.2] v):(i.1=0->i.2<gx b a)/\Sc M a i v:=by
 generalize e:[2*a,i.1,i.2]=k at x;cases x with
 |place d j g f h l=>
  injection e with m n;injection n with o p;injection p with q _;let s:a=d:=by lk
  let u:=gX o q;subst s u;show(h,l)
 |gone d j t f=>
  injection e with m _;lk
 |cell r c g f=>
  unfold cellKey at e;let:=eI iJ e;simp at this
def om.go{i:Id}(x:om b M [2*d+1,i.1,i.2] v):∃t:Bool,v=[if t then 1 else 0]:=by
 generalize e:[2*d+1,i.1,i.2]=k at x;cases x with
 |place f j g a h l=>
  injection e with m n;lk
 |gone f j t a=>show(t,J)
 |cell r c g a=>
  unfold cellKey at e;let:=eI iJ e;simp at this
def xW(m:dv b M)(d:Ez l)(hl:∀x∈l,x∈M x.hand)(h:standing l k=ag v):om b M k v:=by
 let⟨a,e,_,hw⟩:=tI d h;show(m.wr _ a (hl a e)).Dy _ (re hw)
def Fp(m:dv b M)(j:Ez l)(hl:∀x∈l,x∈M x.hand)(h:placeOf l a (gx b a) i=ag p):
  (∃n k,pO p n k/\US M a n k i)/\(standing l [2*a,i.1,i.2]=ag (placeVal p)\/(standing l [2*a,i.1,i.2]=au/\i.1=0/\i.2<gx b a/\p=[#[(i.2:Int),0,i.2]])):=by
 unfold placeOf at h;split at h
 ·cases h
 ·rename_i v o e
  let x:=(xW m j hl e).pl.2;let⟨q,d,f⟩:=x;let g:p=q:=by rw[<-aJ h,d,mi]
  subst g;show(?_,.inl (by rw[e,d]));rcases f with rfl|f
  ·show absurd d o
  ·show f
 ·rename_i e
  split at h
  ·rename_i hc
   let g:=(aJ h).symm;subst g;show((0,i.2,([],_,J),.inl (J,gX hc.1 J)),.inr (e,hc.1,hc.2,J))
  ·cases h
def R8(m:dv b M)(a:Ez l)(hl:∀x∈l,x∈M x.hand)(d:Nat):Apart b l d:=λi j p f g=>by
 let⟨⟨n,k,e,s⟩,_⟩:=Fp m a hl f;let⟨⟨q,r,h,o⟩,_⟩:=Fp m a hl g;let⟨rfl,rfl⟩:=e.inj h;show US.fun m s o
def Xg(m:dv b M)(hl:∀x∈l,x∈M x.hand)(d:Nat):YO b l d:=λa e n v hw=>
 ((m.wr _ a (hl a e)).Dy _ hw).pl (i:= #[0,n])|>.1 J
def cK.apart(m:dv b M)(k:cK b M c)(a:Nat):Apart b c.acts a:=R8 m (k.Gi m) (λ_ h=>k.made m h) a
def cK.low(m:dv b M)(k:cK b M c)(a:Nat):YO b c.acts a:=Xg m (λ_ h=>k.made m h) a
def Made.ext(M:Made)(h:Nat)(a:Act):Made:=λg=>if g=h then M h++[a] else M g
def kF(M:Made)(h:Nat)(a:Act):M.ext h a h=M h++[a]:=by unfold Made.ext;rw[aH J]
def qE(M:Made)(a:Act)(n:g≠h):M.ext h a g=M g:=by unfold Made.ext;rw[aD n]
def Bx(d:x∈M g):x∈M.ext h a g:=by
 by_cases e:g=h
 ·subst e;rw[kF];show cw _ d
 ·rw[qE _ _ e];show d
def yo(d:x∈M.ext h a g):x∈M g\/(g=h/\x=a):=by
 by_cases e:g=h
 ·subst e
  rw[kF] at d;rcases bO.mp d with q|q
  ·show .inl q
  ·show .inr (J,bG.mp q)
 ·rw[qE _ _ e] at d;show .inl d
def MU(M:Made)(h g:Nat)(a:Act):(M g).length<=(M.ext h a g).length:=by
 by_cases e:g=h
 ·subst e;rw[kF,bt];show cI _ _
 ·rw[qE _ _ e];show aS _
def RM(d:n<=(M g).length):(M.ext h a g).take n=(M g).take n:=by
 by_cases e:g=h
 ·subst e;rw[kF,Be d]
 ·rw[qE _ _ e]
def US.bA(s:∀g x,x∈M g->x∈e g)(x:US M f h n i):US e f h n i:=by
 rcases x with d|⟨d,a,j,r⟩
 ·show .inl d
 ·show .inr (d,a,s _ _ j,r)
theorem Sc.bA(s:∀g x,x∈M g->x∈a g)(x:Sc M d i v):Sc a d i v:=by
 let⟨p,e,h⟩:=x;show(p,e,?_);rcases h with h|⟨n,k,f,q⟩
 ·show .inl h
 ·show .inr (n,k,f,q.bA s)
theorem om.bA(s:∀g x,x∈M g->x∈e g)(x:om b M k v):om b e k v:=by
 cases x with
 |place d i v a f h=>show .place d i v a f (h.bA s)
 |gone d i t a=>show .gone d i t a
 |cell r c v a=>show .cell r c v a
theorem wG.bA(s:∀g x,x∈M g->x∈d g)(x:wG b M a):wG b d a:=(λw hw=>(x.Dy w hw).bA s,x.nd,x.LB)
structure Hf(b:Base)(M:Made)(h:Nat)(a:Act):Prop where
 hand:a.hand=h
 h1:1<=h
 hn:h<=b.hands
 num:a.number=(M h).length+1
 late:∀x∈M h,x.time<a.time
 kl:a.knows.length=b.hands
 ko:known a h=(M h).length
 kg:∀g,1<=g->known a g<=(M g).length
 wr:wG b (M.ext h a) a
theorem dv.ext(m:dv b M)(n:Hf b M h a):dv b (M.ext h a) where
 hand g x d:=by
  rcases yo d with q|⟨rfl,rfl⟩
  ·show m.hand g x q
  ·show(n.hand,n.h1,n.hn)
 num g i x d:=by
  by_cases e:g=h
  ·subst e
   rw[kF,List.getElem?_append] at d;split at d
   ·show m.num _ i x d
   ·rename_i q
    let k:=(List.getElem?_eq_some_iff.mp d).1;simp at k;let l:i -(M g).length=0:=by lk
    rw[l] at d;rw[<-aJ d,n.num];lk
  ·rw[qE _ _ e] at d;show m.num g i x d
 inc g:=by
  by_cases e:g=h
  ·subst e
   rw[kF,J8];show(m.inc g,sV _ _,λx d y o=> ?_);rw[bG.mp o];show n.late x d
  ·rw[qE _ _ e];show m.inc g
 kn g x d:=by
  rcases yo d with q|⟨rfl,rfl⟩
  ·let⟨p,r,s⟩:=m.kn g x q
   show(p,r,λf j=>bC (s f j) (MU _ _ _ _))
  ·show(n.kl,by rw[n.ko,n.num],λf j=>bC (n.kg f j) (MU _ _ _ _))
 wr g x d:=by
  rcases yo d with q|⟨rfl,rfl⟩
  ·show(m.wr g x q).bA λ_ _=>Bx
  ·show n.wr
def lI(l m:aa Act)(g:Nat):countOf l g<=countOf (l++m) g:=by rw[gl];show cI _ _
def cK.Q8(m:dv b M)(k:cK b M c)(g:countOf c.acts h=(M h).length)(a:x∈c.waits):x.hand≠h:=λe=>by
 let d:=k.wout x a;let f:=(m.at_ (k.wmade x a)).2.1;rw[e] at d f;lk
def cK.did(m:dv b M)(k:cK b M c)(n:Hf b M h a)(f:countOf c.acts h=(M h).length)(l:∀g,1<=g->known a g<=countOf c.acts g):
  cK b (M.ext h a) {c with acts:=c.acts++[a]} where
 hnd x d:=by
  rcases bO.mp d with q|q
  ·show k.hnd x q
  ·rw[bG.mp q,n.hand];show(n.h1,n.hn)
 pre g:=by
  rw[ub,gl,k.pre g];by_cases e:g=h
  ·subst e
   rw[qz n.hand,kG n.hand,kF,f,cu];rw[show(M g).length+1=(M g++[a]).length by simp,cu]
  ·let i:a.hand≠g:=λq=>e (by rw[<-q,n.hand])
   rw[ua i,jA i,qE _ _ e,dz,Ae]
 clos x d g j:=by
  rcases bO.mp d with q|q
  ·show bC (k.clos x q g j) (lI _ _ _)
  ·rw[bG.mp q];show bC (l g j) (lI _ _ _)
 wmade x d:=Bx (k.wmade x d)
 wout x d:=by
  let e:a.hand≠x.hand:=λq=>k.Q8 m f d (by rw[<-q,n.hand]);rw[gl,jA e];show k.wout x d
 wsrt:=k.wsrt
def we:ready b l a=aC↔∀g,1<=g->g<=b.hands->known a g<=countOf l g:=by
 unfold ready;rw[tp];constructor
 ·intro h g e f
  let:=h (g - 1) (iI.mpr (by lk));rw[cx,show g - 1+1=g by lk] at this;show this
 ·intro h i d
  rw[cx];show h (i+1) (by lk) (by let:=iI.mp d;lk)
def Ej.did(m:dv b M)(k:cK b M c)(d:Ej b c)(n:Hf b M h a)(j:countOf c.acts h=(M h).length):Ej b {c with acts:=c.acts++[a]}:=λx l=>by
 let f:x∈c.waits:=l;cases e:ready b (c.acts++[a]) x with
 |false=>rfl
 |true=>
  rw[we] at e;let:ready b c.acts x=aC:=by
   rw[we];intro g i o;let:=e g i o;rw[gl] at this;by_cases q:g=h
   ·subst q
    rw[j];show(m.kn _ x (k.wmade x f)).2.2 g i
   ·rw[jA (λz=>q (by rw[<-z,n.hand]))] at this
    show this
  rw[d x f] at this;cases this
def cK.other(k:cK b M c):cK b (M.ext h a) c where
 hnd:=k.hnd
 pre g:=by rw[RM (k.DZ g)];show k.pre g
 clos:=k.clos
 wmade x d:=Bx (k.wmade x d)
 wout:=k.wout
 wsrt:=k.wsrt
def Of(m:dv b M)(a:x∈M x.hand)(d:b.hands<g):known x g=0:=by
 let hl:=(m.kn _ x a).1;unfold known;rw[bS,b8 (by lk)];rfl
def cK.aas(m:dv b M)(k:cK b M c)(h:x∈c.waits)(o:ready b c.acts x=aC):
  cK b M {acts:=c.acts++[x],waits:=c.waits.filter λy=> !isIt y x}:=by
 let d:=k.wmade x h;let f:=m.hand _ x d;let s:=m.kn _ x d;let t:=k.wout x h;let i:=we.mp o;let p:x.number=countOf c.acts x.hand+1:=by
  let:=i x.hand f.2.1 f.2.2;lk
 show(λy a=> ?_,λg=> ?_,λy a g j=> ?_,λy a=>k.wmade y (cq.mp a).1,λy a=> ?_,k.wsrt.filter _)
 ·rcases bO.mp a with q|q
  ·show k.hnd y q
  ·rw[bG.mp q];show f.2
 ·change ownOf (c.acts++[x]) g=_
  rw[ub,gl,k.pre g];by_cases e:x.hand=g
  ·rw[qz e,kG e,cE]
   congr 1
   rw[<-e,show countOf c.acts x.hand=x.number - 1 by lk,(m.at_ d).2.2];rfl
  ·rw[ua e,jA e,dz,Ae]
 ·rcases bO.mp a with q|q
  ·show bC (k.clos y q g j) (lI _ _ _)
  ·rw[bG.mp q]
   by_cases e:g<=b.hands
   ·show bC (i g j e) (lI _ _ _)
   ·rw[Of m d (by lk)];show bW _
 ·let l:=cq.mp a
  let n:isIt y x=aA:=by simpa using l.2
  let r:=k.wout y l.1;rw[gl];by_cases e:x.hand=y.hand
  ·rw[kG e]
   let:¬(y.hand=x.hand/\y.number=x.number):=λq=>by
    rw[lS.mpr q] at n;cases n
   let:y.number≠x.number:=λq=>this (e.symm,q);rw[e] at p;lk
  ·rw[jA e];show r
def lT:before a x=aC↔a.hand<x.hand\/(a.hand=x.hand/\a.number<x.number):=by
 unfold before;simp![p6,cW,cx,iF]
theorem oT:∀{l:aa Act},x∈putAct a l↔x=a\/x∈l
 |[]=>by simp[putAct]
 |y::l=>by
  unfold putAct;split
  ·simp
  ·rw[aT,oT,aT]
   constructor
   ·rintro(h|h|h)
    ·show .inr (.inl h)
    ·show .inl h
    ·show .inr (.inr h)
   ·rintro(h|h|h)
    ·show .inr (.inl h)
    ·show .inl h
    ·show .inr (.inr h)
theorem xz:∀{l:aa Act},l.Pairwise (λa x=>before a x=aC)->(∀x∈l,isIt a x=aA)->(putAct a l).Pairwise λa x=>before a x=aC
 |[],_,_=>by simp[putAct]
 |y::l,h,g=>by
  let f:=List.pairwise_cons.mp h;unfold putAct;split
  ·rename_i e
   show List.pairwise_cons.mpr (λz d=> ?_,h);rcases aT.mp d with rfl|d
   ·show e
   ·let:=f.1 z d
    rw[lT] at*;lk
  ·rename_i e
   show List.pairwise_cons.mpr (λz d=> ?_,xz f.2 λx i=>g x (aM _ i));rcases oT.mp d with rfl|d
   ·let:=g y aQ
    let j:¬(z.hand=y.hand/\z.number=y.number):=λq=>by rw[lS.mpr q] at this;cases this
    rw[lT] at*;lk
   ·show f.1 z d
def cK.kz(m:dv b M)(k:cK b M c)(f:a∈M a.hand)(e:(c.acts++c.waits).any (isIt a)=aA):cK b M {c with waits:=putAct a c.waits}:=by
 rw[Pd] at e;show(k.hnd,k.pre,k.clos,λx d=> ?_,λx d=> ?_,xz k.wsrt λx d=>by simpa using e x (b7 _ d))
 ·rcases oT.mp d with rfl|d
  ·show f
  ·show k.wmade x d
 ·rcases oT.mp d with rfl|d
  ·change countOf c.acts x.hand<x.number
   apply Nat.lt_of_not_le;intro q;let:=(k.mem m).mpr (f,q);show e x (cw _ this) (lS.mpr (J,J))
  ·show k.wout x d
theorem filter_lt:∀{l:aa a},x∈l->p x=aA->(l.filter p).length<l.length
 |y::l,h,e=>by
  rw[gL];split
  ·rename_i q
   rcases aT.mp h with rfl|h
   ·rw[e] at q;cases q
   ·let:=filter_lt h e
    simp![aN];lk
  ·show Ad (eY _ _)
theorem Co(m:dv b M):∀f c,cK b M c->cK b M (settles b f c)/\(c.waits.length<f->Ej b (settles b f c))/\∀h,countOf c.acts h=(M h).length->countOf (settles b f c).acts h=(M h).length
 |0,c,k=>(k,λh=>absurd h (Td _),λ_ h=>h)
 |f+1,c,k=>by
  unfold settles;split
  ·rename_i e
   rw[xQ] at e;show(k,λ_ x g=>by simpa using e x g,λ_ h=>h)
  ·rename_i a e
   let d:=jS e;let i:=pZ e;let⟨j,l,n⟩:=Co m f _ (k.aas m d i);show(j,λh=>l ?_,λh q=>n h ?_)
   ·let:=filter_lt (p:=λx=> !isIt x a) d (by simp[isIt])
    change(c.waits.filter λx=> !isIt x a).length<f;lk
   ·change countOf (c.acts++[a]) h=_
    rw[gl,jA (k.Q8 m q d)];show q
def D0(m:dv b M)(k:cK b M c)(d:Ej b c)(f:a∈M a.hand):cK b M (comes b c a)/\Ej b (comes b c a)/\∀h,countOf c.acts h=(M h).length->countOf (comes b c a).acts h=(M h).length:=by
 unfold comes;split
 ·show(k,d,λ_ h=>h)
 ·rename_i e
  let g:(c.acts++c.waits).any (isIt a)=aA:=by simpa using e
  let⟨i,j,l⟩:=Co m ((putAct a c.waits).length+1) _ (k.kz m f g);show(i,j (jC _),l)
theorem Az(m:dv b M):∀l c,cK b M c->Ej b c->(∀a∈l,a∈M a.hand)->cK b M (bringAll b c l)/\Ej b (bringAll b c l)/\∀h,countOf c.acts h=(M h).length->countOf (bringAll b c l).acts h=(M h).length
 |[],c,k,d,_=>(k,d,λ_ h=>h)
 |a::l,c,k,d,hl=>by
  let⟨e,f,g⟩:=D0 m k d (hl a aQ);let⟨i,j,n⟩:=Az m l _ e f λx o=>hl x (aM _ o);show(i,j,λh q=>n h (g h q))
end
def ed(b:rZ)(c:E5)(h a d:Nat)(e:aa (Key×Val)):Act:=(h,countOf c.acts h+1,1+(c.acts.map λx=>x.time).foldl max 0,(fA b.hands).map λi=>countOf c.acts (i+1),e,a,d)
def Rk(b:rZ)(c:E5)(h a d:Nat)(e:aa (Key×Val)):makes b c h a d e={c with acts:=c.acts++[ed b c h a d e]}:=rfl
theorem ui:∀(l:aa Nat) m,m<=l.foldl max m/\∀x∈l,x<=l.foldl max m
 |[],m=>(aS _,λx a=>by cases a)
 |y::l,m=>by
  rw[gB];let⟨d,e⟩:=ui l (max m y);show(bC (Nat.le_max_left _ _) d,λx a=> ?_);rcases aT.mp a with rfl|a
  ·show bC (Nat.le_max_right _ _) d
  ·show e x a
def Dt(l:aa Nat)(x:Nat):(l++[x]).foldl max 0=max (l.foldl max 0) x:=by rw[lO];rfl
section
variable{b:rZ}{M:Made}{c:E5}
def Di(a:1<=g)(d:g<=b.hands):known (ed b c h e f i) g=countOf c.acts g:=by
 unfold known ed;simp only;rw[bS,aF,gb (by lk)];change countOf c.acts (g - 1+1)=_;rw[show g - 1+1=g by lk]
def Dh(a:b.hands<g):known (ed b c h d e f) g=0:=by
 unfold known ed;simp only;rw[bS,b8 (by simp;lk)];rfl
def wY(a:1<=g):known (ed b c h d f i) g<=countOf c.acts g:=by
 by_cases e:g<=b.hands
 ·rw[Di a e];show aS _
 ·rw[Dh (by lk)];show bW _
def Up(m:dv b M)(k:cK b M c){h a d:Nat}(i:1<=h)(j:h<=b.hands)(e:countOf c.acts h=(M h).length)
  (hw:wG b (M.ext h (ed b c h a d l)) (ed b c h a d l)):Hf b M h (ed b c h a d l) where
 hand:=rfl
 h1:=i
 hn:=j
 num:=by change countOf c.acts h+1=_;rw[e]
 late x f:=by
  let n:=(k.mem m).mpr (by rw[((m.hand h x f).1),e];show(f,(m.at_ f).2.1));let:=(ui (c.acts.map λx=>x.time) 0).2 x.time (dm n);change x.time<1+_;lk
 kl:=by change((fA b.hands).map _).length=_;rw[ao,oz]
 ko:=by rw[Di i j,e]
 kg g o:=bC (wY o) (k.DZ g)
 wr:=hw
def C9{l:aa d}(h:y∈l.zipIdx.map f):∃i x,l[i]?=ag x/\y=f #[x,i]:=by
 let⟨p,a,e⟩:=aY.mp h;let⟨x,i⟩:=p;rw[List.mem_zipIdx_iff_getElem?] at a;show(i,x,a,e.symm)
def yl{l:aa f}(h:∀(i j:Nat) x,l[i]?=ag x->l[j]?=ag x->i=j):l.Nodup:=by
 rw[gZ,jR];intro i j a d g e;let:=h i j l[i] (aL a) (by rw[e];show aL d);lk
def WM{h a k n o:Nat}(u:1<=h)(v:a<2)(z:n<=64):
  wG b (M.ext h (ed b c h 0 o (putting b c h a k n))) (ed b c h 0 o (putting b c h a k n)):=by
 let q:(putting b c h a k n).length=n:=by
  unfold putting;simp only;rw[ao,List.length_zipIdx,jk]
 let g:∀i w,(putting b c h a k n)[i]?=ag w->∃p,pO p h (64*(countOf c.acts h+1)+i)/\w= #[[2*a,h,64*(countOf c.acts h+1)+i],placeVal p]:=by
  intro i w d;unfold putting at d;simp only at d;rw[aF,bv] at d;let⟨⟨x,j⟩,r,e⟩:=d;rw[Kd,bv] at r;let⟨y,A,l⟩:=r;injection l with m s;subst m s;show(y,?_,?_)
  ·show vo _ _ _ _ _ _ _ A
  ·rw[<-e];simp
 show(λw hw=> ?_,?_,by change(putting b c h a k n).length<=64;rw[q];show z)
 ·let⟨i,d⟩:=List.mem_iff_getElem?.mp hw
  let f:(putting b c h a k n)[i]?=ag w:=d;let I:i<n:=by rw[<-q];show(List.getElem?_eq_some_iff.mp f).1
  let⟨p,B,C⟩:=g i w f;subst C;show .place a #[h,64*(countOf c.acts h+1)+i] _ v (λe=>by simp only at e;lk) (p,J,.inr (h,_,B,.inr (u,_,by rw[kF];show b7 _ aQ,J,?_,placeVal p,?_)))
  ·change countOf c.acts h+1=_
   lk
  ·rw[show(64*(countOf c.acts h+1)+i)%64=i by lk]
   show f
 ·show yl λi j x d D=> ?_
  let f:=d;let t:=D;rw[aF,bv] at f t;let⟨w,hw,rfl⟩:=f;let⟨E,H,e⟩:=t;let⟨p,_,rfl⟩:=g i w hw;let⟨L,_,rfl⟩:=g j E H;simp only at e;injection e with _ l;injection l with _ m;injection m with s _;lk
def yp(l:aa Act)(a:Nat):(live b l a).Sublist (line b l a):=jd
def IV(l:aa Act)(a k n:Nat):(((live b l a).drop k).take n).Sublist (line b l a):=((y6 _ _).trans (List.drop_sublist _ _)).trans (yp l a)
def uf(m:dv b M)(d:cK b M c)(a k n:Nat):((((live b c.acts a).drop k).take n).map (·.2)).Nodup:=
 ((IV c.acts a k n).map _).nodup (qC (d.Gi m) (d.low m a) (d.apart m a))
def Rn(m:dv b M)(a:cK b M c)(h:x∈line b c.acts d)(g:x.2.1=0):x.2.2<gx b d:=by
 rw[vG (a.Gi m) (a.low m d)] at h;let:=Ao (a.Gi m) (a.low m d) h;unfold zR at this;rcases bO.mp this with q|q
 ·let⟨k,f,e⟩:=aY.mp q
  rw[<-e];show iI.mp f
 ·rw[qQ,zB] at q
  lk
def Ur(m:dv b M)(r:cK b M c){h a k n j s:Nat}(u:1<=h)(v:a<2)(y:n<=64):
  wG b (M.ext h (ed b c h 0 s (moving b c h a k n j))) (ed b c h 0 s (moving b c h a k n j)):=by
 let q:∀i w,(moving b c h a k n j)[i]?=ag w->∃p d,i<n/\pO p h (64*(countOf c.acts h+1)+i)/\((((live b c.acts a).drop k).take n).map (·.2))[i]?=ag d/\w= #[[2*a,d.1,d.2],placeVal p]:=by
  intro i w f;unfold moving at f;simp only at f;rw[aF,bv] at f;let⟨⟨x,d⟩,l,e⟩:=f;rw[mQ] at l;show(x,d,?_,vo _ _ _ _ _ _ _ l.1,l.2,e.symm);let:=(List.getElem?_eq_some_iff.mp l.1).1;rw[jk] at this;show this
 let z:(moving b c h a k n j).length<=n:=by
  unfold moving;simp only;rw[ao,pX,jk];show Te _ _
 show(λw hw=> ?_,?_,bC z y)
 ·let⟨i,f⟩:=List.mem_iff_getElem?.mp hw
  let g:(moving b c h a k n j)[i]?=ag w:=f;let⟨p,d,hil,A,o,B⟩:=q i w g;subst B;show .place a d _ v (λe=> ?_) (p,J,.inr (h,_,A,.inr (u,_,by rw[kF];show b7 _ aQ,J,?_,placeVal p,?_)))
  ·let⟨aax,C,D⟩:=aY.mp (bg o)
   rw[<-D] at e⊢;show Rn m r ((IV (b:=b) c.acts a k n).subset C) e
  ·change countOf c.acts h+1=_
   lk
  ·rw[show(64*(countOf c.acts h+1)+i)%64=i by lk]
   show g
 ·show yl λi E x f H=> ?_
  let g:=f;let t:=H;rw[aF,bv] at g t;let⟨w,hw,rfl⟩:=g;let⟨I,L,e⟩:=t;let⟨p,d,_,_,o,rfl⟩:=q i w hw;let⟨p',N,_,_,O,rfl⟩:=q E I L;simp only at e;injection e with _ Q;injection Q with T U;injection U with Y _;let:N=d:=gX T Y;subst this;show(rY (List.getElem?_eq_some_iff.mp o).1 (uf m r a k n)).mp (o.trans O.symm)
def k6(b:rZ)(c:E5)(a k n:Nat):aa (Key×Val):=(((live b c.acts a).drop k).take n).map λx=> #[[2*a+1,x.2.1,x.2.2],[1]]
def NS(m:dv b M)(d:cK b M c)(f:a<2)(q:n<=64):wG b r (ed b c h 0 s (k6 b c a k n)):=by
 let g:=uf m d a k n;show(λw hw=> ?_,?_,?_)
 ·let⟨x,_,rfl⟩:=aY.mp hw
  show .gone a x.2 aC f
 ·change((k6 b c a k n).map (·.1)).Nodup
  unfold k6;rw[df];rw[gZ,bN] at*;show g.imp λ{x y} i e=>i ?_;injection e with _ j;injection j with l o;injection o with p _;show gX l p
 ·change(k6 b c a k n).length<=64
  unfold k6;rw[ao,dq];lk
def WA(a:vT v):wG b d (ed b c h 0 e [#[cellKey i j,v]]):=by
 show(λw hw=> ?_,by change [cellKey i j].Nodup;simp,by change 1<=64;lk);rw[bG.mp hw];show .cell i j v a
def uk(h:content r d v=ag x):vT x:=by
 unfold content at h;split at h
 ·rw[<-aJ h];show .none
 ·rw[<-aJ h];show .num _
 ·split at h
  ·rw[<-aJ h];show .Jy _ _ _ _
  ·cases h
 ·split at h
  ·rw[<-aJ h];show .cell _ _ _ _
  ·cases h
 ·cases h
def Hd(m:dv b M)(p:Ez l)(hl:∀x∈l,x∈M x.hand)(s:om b M k v):om b M k (asWritten b l k):=by
 unfold asWritten;split
 ·rename_i u e
  show xW m p hl e
 ·cases s with
  |place g i v h n w=>
   let⟨f,a⟩:=i;let nil:om b M [2*g,f,a] []:=.place g #[f,a] [] h n ([],J,.inl rfl);let o:f=0->om b M [2*g,f,a] [(a:Int),0,(a:Int)]:=λe=>by
    subst e;show .place g #[0,a] _ h n ([#[(a:Int),0,a]],J,.inr (0,a,([],_,J),.inl (J,J)))
   let:g=0\/g=1:=by lk
   rcases this with rfl|rfl
   ·by_cases e:f=0
    ·subst e
     by_cases q:a<b.rows
     ·let:om b M [0,0,a] (if a<b.rows then [(a:Int),0,(a:Int)] else []):=by rw[aH q];show o J
      show this
     ·let:om b M [0,0,a] (if a<b.rows then [(a:Int),0,(a:Int)] else []):=by rw[aD q];show nil
      show this
    ·let⟨j,rfl⟩:∃j,f=j+1:=(f - 1,by lk)
     show nil
   ·by_cases e:f=0
    ·subst e
     by_cases q:a<b.cols
     ·let:om b M [2,0,a] (if a<b.cols then [(a:Int),0,(a:Int)] else []):=by rw[aH q];show o J
      show this
     ·let:om b M [2,0,a] (if a<b.cols then [(a:Int),0,(a:Int)] else []):=by rw[aD q];show nil
      show this
    ·let⟨j,rfl⟩:∃j,f=j+1:=(f - 1,by lk)
     show nil
  |gone g i t h=>
   let:g=0\/g=1:=by lk
   rcases this with rfl|rfl
   ·show .gone 0 i aA h
   ·show .gone 1 i aA h
  |cell r d v h=>show .cell r d _ .none
def P8(l:aa Act)(a:Act):((undoing b l a).map (·.1)).Sublist (a.writes.map (·.1)):=by
 unfold undoing;induction a.writes with
 |nil=>simp
 |cons w r d=>
  rw[fw];split
  ·show Zi _ d
  ·rename_i v e
   let f:v.1=w.1:=by
    split at e
    ·split at e
     ·rw[<-aJ e]
     ·cases e
    ·cases e
   rw[bi,bi,f];show Zh _ d
def Tp(m:dv b M)(d:cK b M c)(k:a∈c.acts):
  wG b (M.ext h (ed b c h l n (undoing b c.acts a))) (ed b c h l n (undoing b c.acts a)):=by
 let f:=m.wr _ a (d.made m k);let i:=P8 (b:=b) c.acts a;show(λw hw=> ?_,i.nodup f.nd,?_)
 ·let j:=hw
  unfold undoing at j;let⟨v,o,e⟩:=iA.mp j;split at e
  ·split at e
   ·rw[<-aJ e]
    show(Hd m ((d.Gi m).sub λ_ g=>(cq.mp g).1) (λx g=>d.made m (cq.mp g).1) (f.Dy v o)).bA λ_ _=>Bx
   ·cases e
  ·cases e
 ·let:=i.length_le
  rw[ao,ao] at this;show bC this f.LB
end
def qi{w:World}{h g:Nat}{c:E5}(a:1<=h)(b:h<=w.copies.length)(d:1<=g):(w.with_ h c).copy g=if g=h then c else w.copy g:=by
 unfold World.with_ LY;simp only;rw[bS,bS,O8];by_cases e:g=h
 ·subst e
  rw[aH J,aH (by lk),aH J];rfl
 ·rw[aD (by lk),aD e]
section
variable{w:World}{M:Made}
theorem o7.with_(W:o7 w M)(f:1<=h)(i:h<=w.base.hands)(k:cK w.base M c)(d:Ej w.base c)(j:countOf c.acts h=(M h).length):o7 (w.with_ h c) M where
 hands:=W.hands
 rows:=W.rows
 cols:=W.cols
 len:=by change(w.copies.set _ _).length=_;rw[pY];show W.len
 made:=W.made
 copy g a b:=by
  rw[qi f (by rw[W.len];show i) a];by_cases e:g=h
  ·rw[aH e];show(k,d)
  ·rw[aD e];show W.copy g a b
 own g a b:=by
  rw[qi f (by rw[W.len];show i) a];by_cases e:g=h
  ·rw[aH e,e];show j
  ·rw[aD e];show W.own g a b
def o7.does(W:o7 w M){h f i:Nat}{j:aa (Key×Val)}(a:1<=h)(b:h<=w.base.hands)
  (hw:wG w.base (M.ext h (ed w.base (w.copy h) h f i j)) (ed w.base (w.copy h) h f i j)):
  o7 (w.with_ h (makes w.base (w.copy h) h f i j)) (M.ext h (ed w.base (w.copy h) h f i j)):=by
 let⟨k,d⟩:=W.copy h a b;let l:=W.own h a b;let n:=Up W.made k a b l hw;show(W.hands,W.rows,W.cols,?_,W.made.ext n,λg c m=> ?_,λg c m=> ?_)
 ·change(w.copies.set _ _).length=_
  rw[pY];show W.len
 ·rw[qi a (by rw[W.len];show b) c]
  by_cases e:g=h
  ·rw[aH e]
   show(k.did W.made n l λg o=>wY o,d.did W.made k n l)
  ·rw[aD e]
   let⟨p,q⟩:=W.copy g c m;show(p.other,q)
 ·rw[qi a (by rw[W.len];show b) c]
  by_cases e:g=h
  ·subst e
   rw[aH J];change countOf ((w.copy g).acts++[_]) g=_;rw[gl,kG J,kF,bt,l];rfl
  ·rw[aD e,qE _ _ e];show W.own g c m
def o7.begin_(j:1<=r/\r<=64)(hc:1<=c/\c<=64)(k:1<=n/\n<=8):o7 ((r,c,n),bR n blank) λ_=>[]:=by
 let f:∀h,1<=h->h<=n->LY ((r,c,n),bR n blank) h=blank:=λh d e=>by
  unfold LY;simp only;rw[bS,nX,aH (by lk)];rfl
 show(k,j,hc,by simp,(λh a b=>(by cases b),λh i a b=>(by simp at b),λh=>pH,λh a b=>(by cases b),λh a b=>(by cases b)),λh d e=> ?_,λh d e=> ?_)
 ·rw[f h d e]
  show((λa b=>(by cases b),λg=>(by simp[blank,ownOf]),λa b=>(by cases b),λa b=>(by cases b),λa b=>(by cases b),pH),λa b=>(by cases b))
 ·rw[f h d e];rfl
def RE:w.hand h=aC↔1<=h/\h<=w.base.hands:=by
 unfold World.hand within;rw[cW,cx,cx]
def k8(e:w.hand h=aC):∃n:Nat,h=n/\1<=n/\n<=w.base.hands:=by
 rw[RE] at e;show(h.toNat,by lk,by lk,by lk)
def iQ:within z lo a=aC↔lo<=z/\z<=a:=by
 unfold within;rw[cW,cx,cx]
end
section
variable{α:Type}
def cnt(p:α->Bool)(L:aa α)(n:Nat):Nat:=((L.take n).filter p).length
def RZ(p:α->Bool)(L:aa α):cnt p L 0=0:=by unfold cnt;rw[ox];rfl
def yB(p:α->Bool)(L:aa α)(h:m<=n):cnt p L m<=cnt p L n:=by
 unfold cnt;show((List.take_sublist_take_left h).filter p).length_le
def R0(p:α->Bool)(L:aa α)(h:L[n]?=ag x):cnt p L (n+1)=cnt p L n+if p x=aC then 1 else 0:=by
 unfold cnt;let⟨b,e⟩:=List.getElem?_eq_some_iff.mp h;rw[yZ b,gH,bt,e]
 congr 1
 by_cases a:p x=aC
 ·rw[aH a];simp[a]
 ·rw[aD a];simp[a]
theorem BJ(f:α×Nat->ae b):∀(l:aa α) n g,(∀x∈l,∀i,f #[x,i]=ag (g i))->(l.zipIdx n).filterMap f=(Bf n l.length).map g
 |[],_,_,_=>rfl
 |x::l,n,g,h=>by
  rw[jw,fw,h x (aQ ..) n,aN,AF,bi];rw[BJ f l (n+1) g λy a=>h y (aM _ a)]
theorem vc(f:α×Nat->ae b):∀(l:aa α) n,(∀x∈l,∀i,f #[x,i]=au)->(l.zipIdx n).filterMap f=[]
 |[],_,_=>rfl
 |x::l,n,h=>by
  rw[jw,fw,h x (aQ ..) n];show vc f l (n+1) λy a=>h y (aM _ a)
end
def TM(c:(L.map (·.2)).Nodup)(p:Place×Id->Bool)(h:m<=n):
  (L.filter p).zipIdx.filterMap (λx=>if(((L.drop m).take (n - m)).map (·.2)).contains x.1.2=aC then ag x.2 else au)=Bf (cnt p L m) (cnt p L n - cnt p L m):=by
 let d:L=L.take m++((L.drop m).take (n - m)++L.drop n):=by
  let:L.drop n=(L.drop m).drop (n - m):=by rw[List.drop_drop];congr 1;lk
  rw[this,gu,gu]
 let g:L.take n=L.take m++(L.drop m).take (n - m):=by
  let:=List.take_add (l:=L) (i:=m) (j:=n - m);rw[show m+(n - m)=n by lk] at this;show this
 generalize t:(L.drop m).take (n - m)=B at*;generalize k:L.take m=A at*;generalize u:L.drop n=C at*;let o:cnt p L m=(A.filter p).length:=by unfold cnt;rw[k]
 let q:cnt p L n=(A.filter p).length+(B.filter p).length:=by unfold cnt;rw[g,gH,bt]
 rw[o,q];rw[d] at c;rw[bz,bz,j7] at c;let⟨v,e,r⟩:=c;rw[j7] at e;let⟨w,y,s⟩:=e;let f:∀x:Place×Id,x.2∉B.map (·.2)->∀a:Nat,(if(B.map (·.2)).contains x.2=aC then ag a else au)=au:=λx b a=>by
  rw[aD];intro z;show b (List.contains_iff_mem.mp z)
 rw[d,gH,gH,Nn,Nn,jK,jK];rw[vc _ (A.filter p) 0 λx b a=>f x (λz=>r x.2 (aY.mpr (x,(cq.mp b).1,J)) x.2 (cw _ z) J) a];rw[vc _ (C.filter p) _ λx b a=>f x (λz=>s x.2 z x.2 (aY.mpr (x,(cq.mp b).1,J)) J) a];rw[BJ _ (B.filter p) _ id λx b a=>by
  change(if(B.map (·.2)).contains x.2=aC then ag a else au)=ag a;rw[aH];show List.contains_iff_mem.mpr (aY.mpr (x,(cq.mp b).1,J))]
 rw[SK,dz,Kb,gE,nY]
def GZ(h:find L i=ag p):∃x,L[p]?=ag x/\x.2=i:=by
 unfold find at h;let⟨a,b,_⟩:=List.findIdx?_eq_some_iff_getElem.mp h;show(L[p],aL a,by simpa using b)
def OA(h:find L i=au):∀x∈L,x.2≠i:=λx a e=>by
 unfold find at h;let:=List.findIdx?_eq_none_iff.mp h x a;simp[e] at this
def Bw(b:(L.map (·.2)).Nodup)(h:L[p]?=ag x):find L x.2=ag p:=by
 unfold find;let⟨a,e⟩:=List.getElem?_eq_some_iff.mp h;show List.findIdx?_eq_some_iff_getElem.mpr (a,by simp[e],λj g=> ?_);let c:j<L.length:=by lk
 intro z;let d:L[j].2=x.2:=by simpa using z
 let f:(L.map (·.2))[j]'(by simpa using c)=(L.map (·.2))[p]'(by simpa using a):=by simp[d,e]
 let:=(AJ b).mp f;lk
def mF(l:aa Act)(a:Nat)(x:Place×Id):Bool:= !gone l a x.2
def zm(f e:Nat):ae (Nat×Nat):=if f<e then ag #[f,e - 1] else au
def Kp(d:((line b l c).map (·.2)).Nodup)(i j:Id):stretch b l c i j=(match find (line b l c) i,find (line b l c) j with
  |some p,ag q=>zm (min (cnt (mF l c) (line b l c) p) (cnt (mF l c) (line b l c) q)) (max (cnt (mF l c) (line b l c) (p+1)) (cnt (mF l c) (line b l c) (q+1)))
  |_,_=>au):=by
 unfold stretch;generalize g:line b l c=L at*;let m:live b l c=L.filter (mF l c):=by unfold live;rw[g];rfl
 dsimp only;cases o:find L i with
 |none=>rfl
 |some p=>
  cases s:find L j with
  |none=>rfl
  |some q=>
   change(match(live b l c).zipIdx.filterMap (λx=>if(((L.drop (min p q)).take (max p q+1 - min p q)).map (·.2)).contains x.1.2=aC then ag x.2 else au) with
    |[]=>au
    |a::r=>ag #[a,(a::r).getLastD a])=_
   rw[m,TM d (mF l c) (by lk)];let n:min (cnt (mF l c) L p) (cnt (mF l c) L q)=cnt (mF l c) L (min p q):=by
    rcases Yj p q with h|h
    ·let:=yB (mF l c) L h
     rw[j6 h,j6 this]
    ·let:=yB (mF l c) L h
     rw[Bd h,Bd this]
   let m2:max (cnt (mF l c) L (p+1)) (cnt (mF l c) L (q+1))=cnt (mF l c) L (max p q+1):=by
    rcases Yj p q with h|h
    ·let:=yB (mF l c) L (L4 h 1)
     rw[SH h,SH this]
    ·let:=yB (mF l c) L (L4 h 1)
     rw[Tf h,Tf this]
   change _=zm (min (cnt (mF l c) L p) (cnt (mF l c) L q)) (max (cnt (mF l c) L (p+1)) (cnt (mF l c) L (q+1)));rw[n,m2];generalize cnt (mF l c) L (min p q)=f at*;generalize cnt (mF l c) L (max p q+1)=e at*;unfold zm;by_cases h:f<e
   ·rw[aH h]
    let⟨k,rfl⟩:∃k,e=f+(k+1):=(e - f - 1,by lk);rw[nY,AF];change ag #[f,(f::Bf (f+1) k).getLastD f]=_;let:(f::Bf (f+1) k).getLastD f=f+k:=by
     rw[<-AF];rw[List.getLastD_eq_getLast?,List.getLast?_range'];simp
    rw[this];rfl
   ·rw[aD h]
    let:e - f=0:=by lk
    rw[this];rfl
def qH(s:aa Act×aa Act)(a:Act):aa Act×aa Act:=if a.kind=1 then #[s.1.dropLast,s.2++[a]] else if a.kind=2 then #[s.1++[a],s.2.dropLast] else #[s.1++[a],[]]
def kJ(l:aa Act):aa Act×aa Act:=l.foldl qH #[[],[]]
def nN(s:aa Nat×aa Nat)(a:Act):aa Nat×aa Nat:=match a.kind with
 |1=> #[s.1.drop 1,a.number::s.2]
 |2=> #[a.number::s.1,s.2.drop 1]
 |_=> #[a.number::s.1,[]]
def Fh(l:aa Act):stacks l=l.foldl nN #[[],[]]:=rfl
def Kt(h:a.kind=1):nN s a= #[s.1.drop 1,a.number::s.2]:=by unfold nN;rw[h];rfl
def Ks(h:a.kind=2):nN s a= #[a.number::s.1,s.2.drop 1]:=by unfold nN;rw[h];rfl
def Ku(b:a.kind≠1)(c:a.kind≠2):nN s a= #[a.number::s.1,[]]:=by
 unfold nN;match e:a.kind with
 |0=>rfl
 |1=>show(b e).elim
 |2=>show(c e).elim
 |n+3=>rfl
def sJ(l:aa Act)(a:Act):kJ (l++[a])=qH (kJ l) a:=by unfold kJ;rw[lO];rfl
def HW(l:aa Act)(a:Act):stacks (l++[a])=nN (stacks l) a:=by rw[Fh,Fh,lO];rfl
def yg(f:a->b)(l:aa a):(l.dropLast.map f).reverse=(l.map f).reverse.drop 1:=by
 rw[List.map_dropLast];generalize l.map f=m;rw[List.drop_one,List.tail_reverse]
def JB:∀l:aa Act,((kJ l).1.map (·.number)).reverse=(stacks l).1/\((kJ l).2.map (·.number)).reverse=(stacks l).2:=by
 show vw (J,J) λl a f=> ?_;let⟨d,e⟩:=f;rw[sJ,HW];unfold qH;by_cases b:a.kind=1
 ·rw[aH b,Kt b]
  show(?_,?_)
  ·change(((kJ l).1.dropLast).map _).reverse=_
   rw[yg,d]
  ·change((((kJ l).2++[a])).map _).reverse=_
   rw[bz,xj,e];rfl
 ·rw[aD b]
  by_cases c:a.kind=2
  ·rw[aH c,Ks c]
   show(?_,?_)
   ·change((((kJ l).1++[a])).map _).reverse=_
    rw[bz,xj,d];rfl
   ·change(((kJ l).2.dropLast).map _).reverse=_
    rw[yg,e]
  ·rw[aD c,Ku b c]
   show(?_,J);rw[bz,xj,d];rfl
def JC:∀l:aa Act,(∀a∈(kJ l).1,a∈l)/\∀a∈(kJ l).2,a∈l:=by
 show vw (λa h=>by simp[kJ] at h,λa h=>by simp[kJ] at h) λl a g=> ?_;let⟨c,d⟩:=g;rw[sJ];unfold qH;by_cases e:a.kind=1
 ·rw[aH e]
  show(λx b=>cw _ (c x ((JX _).mem b)),λx b=> ?_);rcases bO.mp b with z|z
  ·show cw _ (d x z)
  ·show b7 _ z
 ·rw[aD e]
  by_cases f:a.kind=2
  ·rw[aH f]
   show(λx b=> ?_,λx b=>cw _ (d x ((JX _).mem b)));rcases bO.mp b with z|z
   ·show cw _ (c x z)
   ·show b7 _ z
  ·rw[aD f]
   show(λx b=> ?_,λx b=>by simp at b);rcases bO.mp b with z|z
   ·show cw _ (c x z)
   ·show b7 _ z
def vQ(l:aa Act):Prop:=∀i a,l[i]?=ag a->a.kind<=2/\(a.kind=1->(kJ (l.take i)).1≠[])/\(a.kind=2->(kJ (l.take i)).2≠[])
def vQ.nil:vQ []:=λi a h=>by simp at h
def vQ.snoc(k:vQ l)(h:a.kind<=2/\(a.kind=1->(kJ l).1≠[])/\(a.kind=2->(kJ l).2≠[])):vQ (l++[a]):=λi x b=>by
 by_cases c:i<l.length
 ·rw[mR c] at b
  rw[Be (hJ c)];show k i x b
 ·rw[mf (by lk)] at b
  let d:i=l.length:=by
   rcases yP (i - l.length) with z|z
   ·lk
   ·rw[b8 (by simp;lk)] at b;cases b
  subst d;rw[JU] at b;let e:=aJ b;subst e;rw[List.take_left']
  ·show h
  ·rfl
def Eh(m:dv b M)(k:cK b M c)(j:countOf c.acts h=(M h).length)(d:a∈M h):actOf c.acts h a.number=ag a:=by
 unfold actOf;let f:=(m.hand h a d).1;let l:=(k.mem m).mpr (by rw[f];show d,by rw[f,j];show(m.at_ d).2.1);cases e:c.acts.find? (λx=>x.hand==h&&x.number==a.number) with
 |none=>
  let:=xQ.mp e a l;simp[f] at this
 |some x=>
  let g:=pZ e;simp![cW,iF] at g;let i:=k.made m (jS e);rw[g.1] at i;rw[m.Jt i d g.2]
def Ug(k:cK b M c)(a:countOf c.acts h=(M h).length):ownOf c.acts h=M h:=by
 rw[k.pre h,a,cu]
def Tq(m:dv b M)(k:cK b M c)(d:countOf c.acts h=(M h).length):
  ((stacks (ownOf c.acts h)).1.head?.bind λn=>actOf c.acts h n)=(kJ (M h)).1.getLast?/\((stacks (ownOf c.acts h)).2.head?.bind λn=>actOf c.acts h n)=(kJ (M h)).2.getLast?:=by
 rw[Ug k d];let⟨g,i⟩:=JB (M h);let⟨j,m2⟩:=JC (M h);rw[<-g,<-i];let f:∀l:aa Act,(∀a∈l,a∈M h)->((l.map (·.number)).reverse.head?.bind λn=>actOf c.acts h n)=l.getLast?:=λl hl=>by
  rw[List.head?_reverse,List.getLast?_map];cases e:l.getLast? with
  |none=>rfl
  |some a=>
   show Eh m k d (hl a (Ka e))
 show(f _ j,f _ m2)
theorem rN{R:g->g->Prop}(f:∀a,¬R a a)(i:∀a b c,R a b->R b c->R a c):∀{l m:aa g},l.Pairwise R->m.Pairwise R->(∀x,x∈l↔x∈m)->l=m
 |[],[],_,_,_=>rfl
 |[],b::m,_,_,h=>absurd ((h b).mpr (aQ ..)) (by simp)
 |a::l,[],_,_,h=>absurd ((h a).mp (aQ ..)) (by simp)
 |a::l,b::m,hl,n,h=>by
  let⟨j,o⟩:=List.pairwise_cons.mp hl;let⟨k,p⟩:=List.pairwise_cons.mp n;let e:a=b:=by
   rcases aT.mp ((h a).mp (aQ ..)) with z|z
   ·show z
   ·rcases aT.mp ((h b).mpr (aQ ..)) with y|y
    ·show y.symm
    ·show absurd (i _ _ _ (j b y) (k a z)) (f a)
  subst e
  congr 1
  show rN f i o p λx=>(λd=> ?_,λd=> ?_)
  ·rcases aT.mp ((h x).mp (aM _ d)) with z|z
   ·subst z;show absurd (j x d) (f x)
   ·show z
  ·rcases aT.mp ((h x).mpr (aM _ d)) with z|z
   ·subst z;show absurd (k x d) (f x)
   ·show z
def ES(a:Act):¬before a a=aC:=by rw[lT];lk
def Ha(a b c:Act)(h:before a b=aC)(d:before b c=aC):before a c=aC:=by
 rw[lT] at*;lk
def Jz{l m:aa Act}(hl:l.Pairwise λa x=>before a x=aC)(b:m.Pairwise λa x=>before a x=aC)(h:∀x,x∈l↔x∈m):l=m:=rN ES Ha hl b h
def iT(l:aa Act):aa Act:=l.foldl (λm a=>putAct a m) []
def Ec(l:aa Act)(x:Act):x∈iT l↔x∈l:=by
 unfold iT;let b:∀(l m:aa Act),x∈l.foldl (λm a=>putAct a m) m↔x∈m\/x∈l:=by
  intro l;induction l with
  |nil=>intro m;simp
  |cons a l c=>
   intro m;rw[gB,c,oT,aT];constructor
   ·rintro((z|z)|z)
    ·show .inr (.inl z)
    ·show .inl z
    ·show .inr (.inr z)
   ·rintro(z|z|z)
    ·show .inl (.inr z)
    ·show .inl (.inl z)
    ·show .inr z
 rw[b];simp
def Sk(l:aa Act):Prop:=l.Pairwise λa x=>isIt a x=aA
def Fz(b x:Act):isIt b x=isIt x b:=by
 unfold isIt;rw[Vh,Vh (a:=b.number)]
def LK(h:Sk l):(iT l).Pairwise λa x=>before a x=aC:=by
 unfold iT;let e:∀l m,Sk l->(∀a∈m,∀x∈l,isIt x a=aA)->m.Pairwise (λa x=>before a x=aC)->(l.foldl (λm a=>putAct a m) m).Pairwise λa x=>before a x=aC:=by
  intro l;induction l with
  |nil=>intro m _ _ c;show c
  |cons a l f=>
   intro m hl d c;let⟨g,i⟩:=List.pairwise_cons.mp hl;rw[gB];show f _ i (λy j x b=> ?_) (xz c λx b=>d x b a (aQ ..));rcases oT.mp j with z|z
   ·subst z;rw[Fz];show g x b
   ·show d y z x (aM _ b)
 show e l [] h (λa z=>by simp at z) .nil
def cK.acC(m:dv b M)(k:cK b M c):Sk c.acts:=by
 unfold Sk;show jR.mpr λi j n o u=> ?_;cases e:isIt c.acts[i] c.acts[j] with
 |false=>rfl
 |true=>
  exfalso;let d:=lS.mp e;let f:=k.made m (PF n);let p:c.acts[i]=c.acts[j]:=by
   rw[d.1] at f;show m.Jt f (k.made m (PF o)) d.2
  let q:(ownOf c.acts c.acts[j].hand).Nodup:=by
   rw[k.pre];let:(M c.acts[j].hand).Nodup:=by
    show eT (λ{a x} h e=> ?_) (m.inc _);subst e;lk
   show this.sublist (y6 _ _)
  let sub:[c.acts[i],c.acts[j]].Sublist c.acts:=by
   let r:(c.acts.take (i+1))++(c.acts.drop (i+1))=c.acts:=gu _ _;let s:[c.acts[i]].Sublist (c.acts.take (i+1)):=List.singleton_sublist.mpr (List.mem_take_iff_getElem.mpr (i,by lk,J));let t:[c.acts[j]].Sublist (c.acts.drop (i+1)):=List.singleton_sublist.mpr (List.mem_drop_iff_getElem.mpr (j -(i+1),by lk,by congr 1;lk));let:=s.append t;rw[r] at this;show this
  let g:=sub.filter (λa=>a.hand==c.acts[j].hand);let:[c.acts[i],c.acts[j]].filter (λa=>a.hand==c.acts[j].hand)=[c.acts[i],c.acts[j]]:=by simp[d.1]
  rw[this] at g;let l:=q.sublist g;rw[p] at l;simp at l
theorem Ak(b:rZ):∀f c,∃r,(settles b f c).acts=c.acts++r
 |0,c=>([],by rw[dz];rfl)
 |f+1,c=>by
  unfold settles;cases e:c.waits.find? (ready b c.acts) with
  |none=>show([],by rw[dz])
  |some a=>
   let⟨r,d⟩:=Ak b f {acts:=c.acts++[a],waits:=c.waits.filter λx=> !isIt x a};show(a::r,by change(settles b f _).acts=_;rw[d,dO];rfl)
def OH(b:rZ)(c:E5)(a:Act):∃r,(comes b c a).acts=c.acts++r:=by
 unfold comes;split
 ·show([],by rw[dz])
 ·show Ak b _ _
def FJ(b:rZ)(c:E5)(a:Act):c.acts.length<=(comes b c a).acts.length:=by
 let⟨r,h⟩:=OH b c a;rw[h,bt];lk
def w8(b:rZ)(c:E5)(l:aa Act)(a:Act):bringAll b c (l++[a])=comes b (bringAll b c l) a:=by unfold bringAll;rw[lO];rfl
def G8(b:rZ)(c:E5):∀l:aa Act,c.acts.length<=(bringAll b c l).acts.length:=by
 show vw (aS _) λl a d=> ?_;rw[w8];show bC d (FJ b _ a)
structure Sm(n:Nat)(M:Made):Prop where
 len:∀h,(M h).length<=n
 time:∀h,∀a∈M h,a.time<=n
 rq:∀h,∀a∈M h,∀w∈a.writes,w.2.length<=16+200*a.time
structure Good(n:Nat)(w:World)(M:Made):Prop where
 ok:o7 w M
 kd:∀h,vQ (M h)
 bd:Sm n M
def p8(l:aa Act):Nat:=(l.map λx=>x.time).foldl max 0
def MH(l:aa Act)(h:a∈l):a.time<=p8 l:=(ui (l.map λx=>x.time) 0).2 _ (aY.mpr (a,h,J))
def Fw(l:aa Act)(a:Act):p8 (l++[a])=max (p8 l) a.time:=by unfold p8;rw[bz];show Dt _ _
def GS:∀l:aa Act,(∀a∈l,a.time<=n)->p8 l<=n:=by
 show vw (λ_=>bW _) λl a d h=> ?_;rw[Fw];show Nat.max_le.mpr (d λx e=>h x (cw _ e),h a (b7 _ (bG.mpr J)))
def tW(p:Place):(placeVal p).length=3*p.length:=by
 induction p with
 |nil=>rfl
 |cons s p a=>
  change([s.1,(s.2.1:Int),(s.2.2:Int)]++placeVal p).length=_;rw[bt,a];change 3+3*p.length=3*(p.length+1);lk
theorem rJ(d:Nat×Nat):∀p q:Place,(between d p q).length<=p.length+1
 |[],[]=>by unfold between;simp
 |a::p,[]=>by unfold between;simp
 |[],b::q=>by unfold between;simp
 |a::p,b::q=>by
  unfold between;split
  ·simp
  ·split
   ·let:=rJ d p q;simp;lk
   ·let:=rJ d p [];simp;lk
theorem xp(h:Nat):∀n k p q x,x∈spread h n k p q->x.length<=p.length+n
 |0,_,_,_,_,a=>by simp[spread] at a
 |n+1,k,p,q,x,a=>by
  let d:=rJ #[h,k] p q;rcases aT.mp (show x∈between #[h,k] p q::spread h n (k+1) (between #[h,k] p q) q from a) with z|z
  ·subst z;lk
  ·let:=xp h n (k+1) _ q x z;lk
section
variable{b:rZ}{M:Made}{c:E5}{n:Nat}
def Fg(m:dv b M)(e:Sm n M)(f:Ez l)(hl:∀x∈l,x∈M x.hand)(h:standing l k=ag v):v.length<=16+200*p8 l:=by
 let⟨a,d,_,hw⟩:=tI f h;let:=e.rq _ a (hl a d) _ (re hw);let:=MH l d;simp only at*;lk
def Ro(m:dv b M)(i:Sm n M)(a:cK b M c)(j:x∈line b c.acts d):3*x.1.length<=16+200*p8 c.acts:=by
 let h:=(vG (a.Gi m) (a.low m d) x).mp j;unfold placeOf at h;cases e:standing c.acts [2*d,x.2.1,x.2.2] with
 |none=>
  rw[e] at h;simp only at h;split at h
  ·rw[<-aJ h];simp;lk
  ·cases h
 |some v=>
  rw[e] at h;let⟨_,p,f,_⟩:=(xW m (a.Gi m) (λ_ z=>a.made m z) e).pl;cases v with
  |nil=>cases h
  |cons z r=>
   let g:=aJ h;rw[f,mi] at g;rw[<-g,<-tW,<-f];show(Fg m i (a.Gi m) (λ_ z=>a.made m z) e)
def XO(m:dv b M)(a:Sm n M)(d:cK b M c)(f:∀x∈L,x∈line b c.acts g)(k:Nat):3*(at_ L k).length<=16+200*p8 c.acts:=by
 unfold at_;cases e:L[k]? with
 |none=>simp
 |some x=>show Ro m a d (f x (bg e))
def zt(m:dv b M)(a:Sm n M)(d:cK b M c)(e:∀x∈L,x∈line b c.acts axis)(k:Nat):3*(prior L k).length<=16+200*p8 c.acts:=by
 unfold prior;split
 ·simp
 ·show XO m a d e _
def Short(c:E5)(a:aa (Key×Val)):Prop:=∀w∈a,w.2.length<=16+200*(1+p8 c.acts)
def NV(m:dv b M)(d:Sm n M)(f:cK b M c)(l:j<=64):Short c (putting b c h a k j):=λw hw=>by
 unfold putting at hw;simp only at hw;let⟨i,x,g,e⟩:=C9 hw;subst e;let:=xp _ _ _ _ _ _ (bg g);let o:=zt m d f (axis:=a) (L:=line b c.acts a) (λ_ z=>z) ((Option.bind ((live b c.acts a)[k]?) λx=>find (line b c.acts a) x.2).getD (line b c.acts a).length);change(placeVal x).length<=_;rw[tW];lk
def Li(m:dv b M)(f:Sm n M)(g:cK b M c)(p:i<=64):Short c (moving b c h a k i j):=λw hw=>by
 unfold moving at hw;simp only at hw;let⟨⟨x,d⟩,l,e⟩:=aY.mp hw;subst e;let:=xp _ _ _ _ _ _ (lw l).1;let o:=λq=>zt m f g (axis:=a) (L:=(line b c.acts a).filter λx=> !(((live b c.acts a).drop k|>.take i).map λx=>x.2).contains x.2) (λ_ z=>(cq.mp z).1) q;change(placeVal x).length<=_;rw[tW];let:=o (((live b c.acts a)[if j=k then k+i else j]?).bind (λx=>find ((line b c.acts a).filter λx=> !(((live b c.acts a).drop k|>.take i).map λx=>x.2).contains x.2) x.2)|>.getD ((line b c.acts a).filter λx=> !(((live b c.acts a).drop k|>.take i).map λx=>x.2).contains x.2).length);lk
def GI:Short c (k6 b c a k j):=λw hw=>by
 unfold k6 at hw;let⟨x,_,e⟩:=aY.mp hw;subst e;change([1]:aa Int).length<=_;simp![aN,dS];lk
def LG(h:vT v):Short c [#[cellKey r d,v]]:=λw hw=>by
 rw[bG] at hw;subst hw;cases h<;>simp<;>lk
def Ki(m:dv b M)(h:Sm n M)(f:cK b M c)(j:a∈c.acts):Short c (undoing b c.acts a):=λw hw=>by
 unfold undoing at hw;let⟨x,k,e⟩:=iA.mp hw;cases g:winner c.acts x.1 with
 |none=>rw[g] at e;cases e
 |some y=>
  rw[g] at e;simp only at e;split at e
  ·cases e
   change(asWritten b (past c.acts a) x.1).length<=_;let sub:∀z∈past c.acts a,z∈c.acts:=λz d=>(cq.mp d).1;let l:p8 (past c.acts a)<=p8 c.acts:=GS _ λz d=>MH _ (sub z d);unfold asWritten;cases i:standing (past c.acts a) x.1 with
   |some v=>
    let:=Fg m h ((f.Gi m).sub sub) (λz d=>f.made m (sub z d)) i;simp only;lk
   |none=>
    simp only;split<;>(try split)<;>simp<;>lk
  ·cases e
end
theorem Good.does(G:Good n w M)(k:1<=h)(l:h<=w.base.hands)
  (hw:wG w.base (M.ext h (ed w.base (w.copy h) h d j i)) (ed w.base (w.copy h) h d j i))(o:Short (w.copy h) i)
  (p:d<=2/\(d=1->(kJ (M h)).1≠[])/\(d=2->(kJ (M h)).2≠[])):
  Good (n+1) (w.with_ h (makes w.base (w.copy h) h d j i)) (M.ext h (ed w.base (w.copy h) h d j i)):=by
 let⟨q,_⟩:=G.ok.copy h k l;let mt:p8 (w.copy h).acts<=n:=GS _ λa f=>G.bd.time _ a (q.made G.ok.made f);show(G.ok.does k l hw,λg=> ?_,(λg=> ?_,λg a f=> ?_,λg a f x m=> ?_))
 ·by_cases e:g=h
  ·subst e;rw[kF];show(G.kd g).snoc p
  ·rw[qE _ _ e];show G.kd g
 ·by_cases e:g=h
  ·subst e;rw[kF,bt];let:=G.bd.len g;simp;lk
  ·rw[qE _ _ e];let:=G.bd.len g;lk
 ·rcases yo f with z|⟨_,z⟩
  ·let:=G.bd.time g a z;lk
  ·subst z
   change 1+p8 (w.copy h).acts<=_;lk
 ·rcases yo f with z|⟨_,z⟩
  ·show G.bd.rq g a z x m
  ·subst z
   show o x m
def Good.bA(G:Good n w M)(h:n<=m):Good m w M:=(G.ok,G.kd,λg=>bC (G.bd.len g) h,λg a d=>bC (G.bd.time g a d) h,G.bd.rq)
theorem Good.with_(G:Good n w M)(a:1<=h)(e:h<=w.base.hands)(k:cK w.base M c)(d:Ej w.base c)(f:countOf c.acts h=(M h).length):Good n (w.with_ h c) M:=(G.ok.with_ a e k d f,G.kd,G.bd)
theorem Good.begin_(a:1<=r/\r<=64)(hc:1<=c/\c<=64)(d:1<=k/\k<=8):Good n ((r,c,k),bR k blank) λ_=>[]:=
 (o7.begin_ a hc d,λ_=>vQ.nil,λ_=>bW _,λ_ _ h=>(by cases h),λ_ _ h=>(by cases h))
def Eg(f:Sm n M)(d:cK b M c)(g:b.hands<=8):c.acts.length<=8*n:=by
 let i:∀k l,(∀a∈l,1<=a.hand/\a.hand<=k)->(∀h,countOf l h<=n)->l.length<=k*n:=by
  intro k;induction k with
  |zero=>
   intro l hl _;cases l with
   |nil=>simp
   |cons a l=>let:=hl a (aQ ..);lk
  |succ k j=>
   intro l hl hc;let e:l.length=(l.filter λa=>a.hand==k+1).length+(l.filter λa=> !(a.hand==k+1)).length:=by
    rw[<-lx,<-lx];show(y9 (λa:Act=>a.hand==k+1)).trans ?_
    congr 2
    funext a;cases(a.hand==k+1)<;>rfl
   let o:(l.filter λa=>a.hand==k+1).length<=n:=hc (k+1);let p:=j (l.filter λa=> !(a.hand==k+1)) (λa m=>by
    let⟨z,y⟩:=cq.mp m;let:=hl a z;simp at y;lk) λh=>bC (by
     unfold countOf;show(jd.filter _).length_le) (hc h)
   rw[e,JT];lk
 let:=i b.hands c.acts d.hnd λh=>bC (d.DZ h) (f.len h);show bC this (L3 n g)
inductive CR:List Int->Call->Prop
 |begin_ (r c n:Int):CR [1,r,c,n] (.begin_ r c n)
 |put (h a k n:Int):CR [2,h,a,k,n] (.put h a k n)
 |remove (h a k n:Int):CR [3,h,a,k,n] (.remove h a k n)
 |move (h a k n j:Int):CR [4,h,a,k,n,j] (.move h a k n j)
 |set (h r c:Int) (v:List Int):1<=v.length->v.length<=8->CR (5::h::r::c::(v.length:Int)::v) (.set h r c v)
 |undo (h:Int):CR [6,h] (.undo h)
 |redo (h:Int):CR [7,h] (.redo h)
 |bring (h g k:Int):CR [8,h,g,k] (.bring h g k)
 |sync (h g:Int):CR [9,h,g] (.sync h g)
 |sheet (h:Int):CR [10,h] (.sheet h)
 |passed (h:Int):CR [11,h] (.passed h)
 |acts (h:Int):CR [12,h] (.acts h)
def lV(w:World)(c:Call):aa Int:=(step w c).2.v::(step w c).2.l
def zu:World->aa Call->aa (aa Int)
 |_,[]=>[]
 |w,c::l=>lV w c::zu (step w c).1 l
inductive bL{α β:Type}(R:α->β->Prop):List α->List β->Prop
 |nil:bL R [] []
 |cons {a b l m}:R a b->bL R l m->bL R (a::l) (b::m)
def Q7(h:HA kO (p::r)=ag #[c,t])(H:EX (pT c)=aC):
  ∃n x,CR n x/\p::r=n++t/\∀s,jY s (pT c)= #[(step s x).1,lV s x]:=by
 unfold HA at h;let plain:∀n:Nat,kO p=ag #[n,0]->c=[p::r.take n]/\t=r.drop n/\n<=r.length:=λn i=>by
  simp![i] at h;split at h
  ·cases h
  ·rename_i g
   simp![Va] at h;cases h;show(J,J,by lk)
 by_cases j:p=1
 ·subst j
  let⟨rfl,rfl,g⟩:=plain 3 J;match r,g with
  |a::b::d::r,_=>show(_,_,.begin_ a b d,J,λs=>rfl)
 by_cases k:p=2
 ·subst k
  let⟨rfl,rfl,g⟩:=plain 4 J;match r,g with
  |a::b::d::e::r,_=>show(_,_,.put a b d e,J,λs=>rfl)
 by_cases l:p=3
 ·subst l
  let⟨rfl,rfl,g⟩:=plain 4 J;match r,g with
  |a::b::d::e::r,_=>show(_,_,.remove a b d e,J,λs=>rfl)
 by_cases o:p=4
 ·subst o
  let⟨rfl,rfl,g⟩:=plain 5 J;match r,g with
  |a::b::d::e::f::r,_=>show(_,_,.move a b d e f,J,λs=>rfl)
 by_cases q:p=5
 ·subst q
  let i:kO 5=ag #[3,1]:=rfl;simp![i] at h;split at h
  ·cases h
  ·rename_i g
   match r,g with
   |a::b::d::r,_=>
    simp![Va,List.drop_succ_cons,wC] at h;cases r with
    |nil=>simp[J2] at h
    |cons m r=>
     by_cases u:0<=m/\m.toNat<=r.length
     ·simp![J2,aH u] at h
      simp![ni,Et] at h;let⟨rfl,rfl⟩:=h;let v:(oO a&&(oO b&&(oO d&&((r.take m.toNat).all (λz=>oO z)&&(decide (1<=(r.take m.toNat).length)&&decide ((r.take m.toNat).length<=8))))))=aC:=H;simp![cW,cx] at v;let⟨_,_,_,_,I,L⟩:=v;let e:m=((r.take m.toNat).length:Int):=by rw[dq];lk
      show(_,_,.set a b d (r.take m.toNat) I L,?_,λs=>rfl);rw[<-e];change(5:Int)::a::b::d::m::r=5::a::b::d::m::(r.take m.toNat++r.drop m.toNat);rw[gu]
     ·simp![J2,aD u] at h
      cases h
 by_cases w:p=6
 ·subst w
  let⟨rfl,rfl,g⟩:=plain 1 J;match r,g with
  |a::r,_=>show(_,_,.undo a,J,λs=>rfl)
 by_cases y:p=7
 ·subst y
  let⟨rfl,rfl,g⟩:=plain 1 J;match r,g with
  |a::r,_=>show(_,_,.redo a,J,λs=>rfl)
 by_cases A:p=8
 ·subst A
  let⟨rfl,rfl,g⟩:=plain 3 J;match r,g with
  |a::b::d::r,_=>show(_,_,.bring a b d,J,λs=>rfl)
 by_cases B:p=9
 ·subst B
  let⟨rfl,rfl,g⟩:=plain 2 J;match r,g with
  |a::b::r,_=>show(_,_,.sync a b,J,λs=>rfl)
 by_cases C:p=10
 ·subst C
  let⟨rfl,rfl,g⟩:=plain 1 J;match r,g with
  |a::r,_=>show(_,_,.sheet a,J,λs=>rfl)
 by_cases D:p=11
 ·subst D
  let⟨rfl,rfl,g⟩:=plain 1 J;match r,g with
  |a::r,_=>show(_,_,.passed a,J,λs=>rfl)
 by_cases E:p=12
 ·subst E
  let⟨rfl,rfl,g⟩:=plain 1 J;match r,g with
  |a::r,_=>show(_,_,.acts a,J,λs=>rfl)
 exfalso;let i:kO p=au:=by
  unfold kO;rw[aD j,aD k,aD l,aD o,aD q,aD w,aD y,aD A,aD B,aD C,aD D,aD E]
 simp![i] at h;cases h
theorem FS:∀f l a,pV kO f l=ag a->(a.map pT).all EX=aC->
  ∃d b,l=d.flatten/\bL CR d b/\a.length=b.length/\(∀s,EF jY s (a.map pT)=zu s b)/\∀s,Hi s (a.map pT)=((zu s b).map iJ).sum
 |_,[],a,h,_=>by
  let e:a=[]:=by
   unfold pV at h;cases h;rfl
  subst e;show([],[],J,.nil,J,λ_=>rfl,λ_=>rfl)
 |0,p::r,a,h,_=>by simp[pV] at h
 |f+1,p::r,a,h,g=>by
  unfold pV at h;cases e:HA kO (p::r) with
  |none=>rw[e] at h;cases h
  |some k=>
   let⟨c,t⟩:=k;rw[e] at h;simp only at h;cases i:pV kO f t with
   |none=>rw[i] at h;cases h
   |some m=>
    rw[i] at h;let o:=aJ h;subst o;rw[bi,sm,cW] at g;let⟨n,x,hc,hl,j⟩:=Q7 e g.1;let⟨d,b,q,u,v,w,y⟩:=FS f t m i g.2;show(n::d,x::b,?_,.cons hc u,?_,λs=> ?_,λs=> ?_)
    ·rw[iX,<-q];show hl
    ·rw[aN,aN,v]
    ·rw[bi]
     change(jY s _).2::EF _ (jY s _).1 _=_;rw[j s,w];rfl
    ·rw[bi]
     change(jY s _).2.length+Hi (jY s _).1 _=_;rw[j s,y];change _=((lV s x::zu (step s x).1 b).map iJ).sum;rw[bi,Vc]
def Jx(h:uY l=aC):∃b a,l=b.flatten/\bL CR b a/\a.length<=300/\BC l=fN (zu empty a)/\((zu empty a).map iJ).sum<=1000000:=by
 unfold uY at h;cases e:pV kO l.length l with
 |none=>rw[e] at h;cases h
 |some f=>
  rw[e] at h;simp![cW] at h;let⟨⟨⟨d,_⟩,c⟩,_⟩:=h;unfold aa3 at c;simp![cW,cx] at c;let⟨b,a,g,i,j,k,m⟩:=FS _ _ _ e c.1;show(b,a,g,i,?_,?_,?_)
  ·unfold PyFlat.atMost at d
   rw[<-j];show kU d
  ·unfold BC PySw58.calls
   rw[e];change fN (EF jY aa2 (f.map pT))=_;rw[k];rfl
  ·let:=c.2
   rw[m] at this;show this
def NI(l:aa (aa Int))(a:aa Int):fN (l++[a])=fN l++((a.length:Int)::a):=by
 unfold fN;rw[jc];simp
def Qe(l:aa (aa Int)):(fN l).length=l.length+(l.map iJ).sum:=by
 unfold fN;induction l with
 |nil=>rfl
 |cons a l b=>
  rw[O9,bt,b,bi,Vc];simp![aN];lk
def BK(h:writeOf a k=au):qZ k m a=m:=by unfold qZ;rw[h];rfl
def Af(h:(writeOf a k).isSome=aC):qZ k au a=ag a:=by unfold qZ;rw[aH h]
def BL(h:(writeOf a k).isSome=aC)(c:more a b=aC):qZ k (ag b) a=ag a:=by unfold qZ;rw[aH h];simp[c]
def BM(h:(writeOf a k).isSome=aC)(c:more a b=aA):qZ k (ag b) a=ag b:=by unfold qZ;rw[aH h];simp[c]
def vZ(b:Key->ae Act)(k:Key):ae Val:=(b k).bind λa=>writeOf a k
def vC(a:Key->ae Act)(b first:Nat)(i:Id):ae Place:=match vZ a [2*b,i.1,i.2] with
 |some []=>au
 |some v=>ag (stepsOf v)
 |none=>if i.1=0/\i.2<first then ag [#[(i.2:Int),0,i.2]] else au
def vB(l:aa Act)(a first:Nat)(i:Id):vC (winner l) a first i=placeOf l a first i:=rfl
def nZ(b:Key->ae Act)(a:Act)(j:Nat)(k:Key):ae Act:=if k∈(a.writes.take j).map (·.1) then qZ k (b k) a else b k
def Kh(b:Key->ae Act)(a:Act)(k:Key):nZ b a 0 k=b k:=by unfold nZ;simp
def Gc(h:k∉a.writes.map (·.1)):writeOf a k=au:=by
 unfold writeOf;rw[Option.map_eq_none_iff,xQ];intro w hw e;show h (aY.mpr (w,hw,by simpa using e))
def Gb(h:k∈a.writes.map (·.1)):(writeOf a k).isSome=aC:=by
 unfold writeOf;rw[qV,List.find?_isSome];let⟨w,hw,e⟩:=aY.mp h;show(w,hw,by simp[e])
def xk(b:(e.writes.map (·.1)).Nodup)(h:w∈e.writes):writeOf e w.1=ag w.2:=by
 let⟨v,g⟩:=Option.isSome_iff_exists.mp (Gb (a:=e) (k:=w.1) (aY.mpr (w,h,J)));rw[g]
 congr 1
 let j:∀l:aa (Key×Val),(l.map (·.1)).Nodup->∀c v u,#[c,v]∈l-> #[c,u]∈l->v=u:=by
  intro l;induction l with
  |nil=>intro _ c v u h;cases h
  |cons x l m=>
   intro b c v u h1 d;rw[bi,eJ] at b;rcases aT.mp h1 with i|h1<;>rcases aT.mp d with f|d
   ·rw[<-i] at f;show(Prod.mk.inj f).2.symm
   ·show absurd (aY.mpr (_,d,J)) (by rw[<-i] at b;show b.1)
   ·show absurd (aY.mpr (_,h1,J)) (by rw[<-f] at b;show b.1)
   ·show m b.2 c v u h1 d
 show j _ b w.1 v w.2 (re g) h
def Nw(b:Key->ae Act)(a:Act)(k:Key):nZ b a a.writes.length k=qZ k (b k) a:=by
 unfold nZ;rw[cu];by_cases h:k∈a.writes.map (·.1)
 ·rw[aH h]
 ·rw[aD h,BK (Gc h)]
def xl(d:Key->ae Act)(g:(a.writes.map (·.1)).Nodup)(h:a.writes[j]?=ag w)(k:Key):nZ d a (j+1) k=if k=w.1 then qZ k (d k) a else nZ d a j k:=by
 unfold nZ;let⟨f,e⟩:=List.getElem?_eq_some_iff.mp h;rw[yZ f,bz,e];by_cases b:k=w.1
 ·rw[aH b,aH (by rw[b];simp)]
 ·rw[aD b]
  by_cases c:k∈(a.writes.take j).map (·.1)
  ·rw[aH c,aH (cw _ c)]
  ·rw[aD c,aD]
   intro z;rcases bO.mp z with z|z
   ·show c z
   ·show b (by simpa using z)
def Nv(b:Key->ae Act)(d:(a.writes.map (·.1)).Nodup)(h:a.writes[j]?=ag w):nZ b a j w.1=b w.1:=by
 unfold nZ;rw[aD];intro z;let⟨x,e,f⟩:=aY.mp z;let⟨i,g,c⟩:=List.mem_iff_getElem.mp e;rw[dq] at g;rw[List.getElem_take] at c;let⟨l,k⟩:=List.getElem?_eq_some_iff.mp h;let q:(a.writes.map (·.1))[i]'(by rw[ao];lk)=(a.writes.map (·.1))[j]'(by rw[ao];lk):=by
  rw[PH,PH,c,k,f]
 let:=(AJ d).mp q;lk
def Ge(l:aa Act)(a:Act)(k:Key):nZ (winner l) a a.writes.length k=winner (l++[a]) k:=by rw[Nw,vf]
def RF(n:Nat)(l:aa Act)(a:Act)(c:1<=a.hand):((fA n).map λi=>countOf (l++[a]) (i+1))=((fA n).map λi=>countOf l (i+1)).set (a.hand - 1) (countOf l a.hand+1):=by
 apply j9;intro i;rw[aF];by_cases b:i<n
 ·rw[gb b]
  by_cases e:a.hand - 1=i
  ·rw[e,oA (by simpa using b)]
   change ag (countOf (l++[a]) (i+1))=ag _;rw[gl,show i+1=a.hand by lk,kG J]
  ·rw[pG e,aF,gb b]
   change ag (countOf (l++[a]) (i+1))=ag (countOf l (i+1));rw[gl,jA (by lk),Ae]
 ·rw[b8 (by simpa using b),b8 (by simpa using b)]
  rfl
def tX(h:b [2*a,i.1,i.2]=c [2*a,i.1,i.2]):vC b a first i=vC c a first i:=by
 unfold vC vZ;rw[h]
def T7(h:c [2*b,i.1,i.2]=ag a)(hw:writeOf a [2*b,i.1,i.2]=ag (placeVal p)):vC c b first i=if p=[] then au else ag p:=by
 unfold vC vZ;rw[h];change(match writeOf a [2*b,i.1,i.2] with|some []=>au|some v=>ag (stepsOf v)|none=>_)=_;rw[hw];cases p with
 |nil=>rfl
 |cons s p=>
  rw[aD (PJ s p)];change ag (stepsOf (placeVal (s::p)))=_;rw[mi]
end SM
namespace fq
open PySem
abbrev NK:=Sum Int (aa Int)
def jN:NK->Ba
 | .inl i=>.int i
 | .inr a=>.tuple (a.map gz)
def rB(a:aa NK):Ba:=.tuple (a.map jN)
theorem qF:∀a b:aa Int,gS (a.map gz) (b.map gz)=decide (a=b)
 |[],[]=>by simp[gS]
 |[],_::_=>by simp[gS]
 |_::_,[]=>by simp[gS]
 |x::a,y::b=>by
  change(gT (.int x) (.int y)&&gS (a.map gz) (b.map gz))=_;rw[qF a b];change((x==y)&&decide (a=b))=_;by_cases e:x=y<;>by_cases c:a=b<;>simp[e,c]
def Xu:∀a b:NK,gT (jN a) (jN b)=decide (a=b)
 | .inl i,.inl j=>by
  change(i==j)=_;by_cases e:i=j<;>simp[e]
 | .inl i,.inr c=>by
  change gT (.int i) (.tuple _)=_;simp[gT]
 | .inr d,.inl j=>by
  change gT (.tuple _) (.int j)=_;simp[gT]
 | .inr d,.inr c=>by
  change gT (.tuple _) (.tuple _)=_;rw[gT,qF];by_cases e:d=c<;>simp[e]
theorem Jk:∀x y:aa NK,gS (x.map jN) (y.map jN)=decide (x=y)
 |[],[]=>by simp[gS]
 |[],_::_=>by simp[gS]
 |_::_,[]=>by simp[gS]
 |a::x,b::y=>by
  change(gT (jN a) (jN b)&&gS (x.map jN) (y.map jN))=_;rw[Jk x y,Xu];by_cases e:a=b<;>by_cases c:x=y<;>simp[e,c]
theorem Jc:∀a:aa Int,iM (a.map gz)=aC
 |[]=>by simp[iM]
 |x::a=>by simp[iM,u9,Jc a]
def Xi(a:NK):u9 (jN a)=aC:=by
 cases a with
 |inl i=>simp[jN,u9]
 |inr b=>simp[jN,u9,Jc b]
theorem Dg:∀x:aa NK,iM (x.map jN)=aC
 |[]=>by simp[iM]
 |a::x=>by simp[iM,Xi a,Dg x]
theorem FI:∀a:aa Int,kW (a.map gz)=0
 |[]=>by simp[kW]
 |x::a=>by simp[kW,xN,FI a]
def UI(a:NK):xN (jN a)<=1:=by
 cases a with
 |inl i=>simp[jN,xN]
 |inr b=>simp[jN,xN,FI b]
theorem FH:∀x:aa NK,kW (x.map jN)<=1
 |[]=>by simp[kW]
 |a::x=>by
  let b:=UI a;let c:=FH x;simp![bi,kW];lk
section
variable{prog:bq}{w:World}
def SU(prog:bq)(w:World)(h:cT):NK->aE->Prop
 | .inl i,v=>∃t,v=sR i t
 | .inr a,v=>∃b,v=.ref b/\oJ (intKind prog w) h a b
inductive kT(prog:Program)(w:World)(h:Heap):List NK->List Value->Prop
 |nil:kT prog w h [] []
 |cons {k:NK} {v:Value} {ks:List NK} {vs:List Value}:SU prog w h k v->kT prog w h ks vs->kT prog w h (k::ks) (v::vs)
def jB(prog:bq)(w:World)(h:cT)(c:aa NK)(a:az):Prop:=∃o b n,h.get? a=ag o/\o.cls=.type "tuple"/\o.data=.seq b n/\kT prog w h c b.toList
theorem SU.inj(a:SU prog w h x v)(b:SU prog w h y v):x=y:=by
 cases x with
 |inl i=>
  let⟨t,rfl⟩:=a;cases y with
  |inl j=>let(u,e):=b;injection e with f;rw[f]
  |inr g=>let(c,e,_):=b;cases e
 |inr l=>
  let⟨c,rfl,hc⟩:=a;cases y with
  |inl j=>let(u,e):=b;cases e
  |inr g=>
   let⟨d,e,k⟩:=b;injection e with f;subst f;rw[hc.inj k]
theorem kT.inj:∀{x y:aa NK} {c:aa aE},kT prog w h x c->kT prog w h y c->x=y:=by
 intro x y c z;induction z generalizing y with
 |nil=>
  intro q;cases q;rfl
 |cons a r d=>
  intro q;cases q with
  |cons b t=>rw[a.inj b,d t]
theorem SU.keeps{a c}(x:SU prog w h k v)(f:h.get? d=ag o)(g:o.data=.dict a c)(j:fH d h l):SU prog w l k v:=by
 cases k with
 |inl i=>show x
 |inr n=>let(b,e,m):=x;show(b,e,m.keeps f g j)
theorem kT.keeps{e f}(g:h.get? d=ag o)(i:o.data=.dict e f)(j:fH d h k):∀{b:aa NK} {c:aa aE},kT prog w h b c->kT prog w k b c:=by
 intro _ _ z;induction z with
 |nil=>
  show .nil
 |cons a r l=>
  show .cons (a.keeps g i j) (l)
def jB.typeIs{s:br}(x:jB prog w s.heap c a):s.TypeIs (.ref a) "tuple":=let(o,_,_,b,hc,_):=x;(o,b,hc)
def Op:∀{b:aa Int} {c:aa aE},ItemsAre (intKind prog w) b c->∃d,aa6 h c (b.map gz) d:=by
 intro _ _ z;induction z with
 |nil=>
  show(_,.nil)
 | @cons k _ _ _ a r e=>
  let⟨d,f⟩:=e;let⟨t,rfl⟩:=yN a;show(_,.cons (.int k t) f)
def Ra(x:SU prog w h k v):∃a,Reads h v (jN k) a:=by
 cases k with
 |inl i=>let⟨t,rfl⟩:=x;show(_,.int i t)
 |inr g=>
  let⟨b,rfl,o,j,n,c,hc,d,e⟩:=x;let⟨a,f⟩:=Op e;show(_,.tuple c hc d f)
def N6:∀{b:aa NK} {c:aa aE},kT prog w h b c->∃d,aa6 h c (b.map jN) d:=by
 intro _ _ z;induction z with
 |nil=>
  show(_,.nil)
 |cons a r e=>
  let⟨d,f⟩:=Ra a;let⟨i,g⟩:=e;show(_,.cons f g)
def Fu(x:jB prog w h c a):∃b,Reads h (.ref a) (rB c) b:=by
 let⟨o,i,n,d,hc,e,f⟩:=x;let⟨b,g⟩:=N6 f;show(_,.tuple d hc e g)
def Uq(k:A.units+64<fF)(c:jB prog w s.heap x a)(d:jB prog w s.heap y b):Ep A s (.ref a) (.ref b) (decide (x=y)):=by
 let⟨f,g⟩:=Fu c;let⟨h,i⟩:=Fu d;let l:(rB x).depth<=2:=by
  change kW (x.map jN)+1<=2;let:=FH x;lk
 let e:=SeqAt.eqAt_reads (rB x) (rB y) A s _ _ f h g i (by change iM (x.map jN)=aC;show Dg x) (by change iM (y.map jN)=aC;show Dg y)
  (by let:=Te (rB x).depth (rB y).depth;lk)
 let j:gT (rB x) (rB y)=decide (x=y):=by
  change gT (.tuple _) (.tuple _)=_;rw[gT];show Jk x y
 rw[j] at e;show e
def CV(prog:bq)(w:World):NK->Int
 | .inl i=>(intKind prog w).hash i
 | .inr a=>tupleKeyHash (intKind prog w) a
def Bq:NK->Nat
 | .inl _=>1
 | .inr a=>a.length+1
def CW(prog:bq)(w:World)(a:aa NK):Int:=reduceHash (ly (a.map (CV prog w)))
def wg(a:aa NK):Nat:=(a.map Bq).sum+1
def Om(c:A.units<fF)(a:SU prog w s.heap k v)(h:Q (CV prog w k) {s with toks:=s.toks+Bq k}):
  aW (bp prog w) A (U4 v) Q E s:=by
 cases k with
 |inl i=>
  let⟨t,rfl⟩:=a;show X0 h
 |inr e=>
  let⟨b,rfl,d⟩:=a;show wpAny_pyHash_tuple c d h
def N9(l:A.units+64<fF)(i:jB prog w s.heap b a)
  (h:Q (CW prog w b) {s with toks:=s.toks+wg b}):aW (bp prog w) A (U4 (.ref a)) Q E s:=by
 let d:=i.typeIs;let⟨o,H,n,p,_,q,r⟩:=i;unfold U4;first|unfold pyHashByItsType|skip
 show ah (wpAny_cRoomFor_or (.inr (qX (cI _ _) l)) ?_);show ah (lW d tu.lookup ?_);rw[aD (show¬(ag (EW "tuple.__hash__")==ag dJ)=aC by rw[beq_builtin_none];show bH)];show ah (lW d tu.lookup ?_);show ah (wpAny_callSpecialIfBoundUnlessNone?_slot d tu (cO tu d F.entry_tuple_hash ?go (F.args_tuple_hash_1 _)));case go=>
  show ah (m:=xI (.ref a)) (wpAny_tupleItemsOf p q ?_);show ah ?_;rw[<-nL];show qa _ (λj (e:af Int) t=>∃u v,b=u++v/\kT prog w s.heap v j/\e.toList=u.map (CV prog w)/\t={s with toks:=s.toks+(u.map Bq).sum}) _ ?turn ?fin _ _ ([],b,rfl,r,rfl,rfl);case turn=>
   rintro x j e t ⟨u,v,rfl,f,g,rfl⟩;cases f with
   | @cons k _ y _ B C=>
    show ah (Om (by change A.units+1<fF;lk) B ?_);show am (u++[k],y,by simp,C,by simp[g],by simp[V5])
  case fin=>
   rintro e t ⟨u,v,rfl,f,g,rfl⟩;cases f;rw[dz] at h;let z:retInt (ly e.toList)=retInt (ly (u.map (CV prog w))):=by rw[g]
   dsimp only;rw[z];show YQ ?_;let D:({s with toks:=s.toks+wg u}:br)={s with toks:=s.toks+(u.map Bq).sum+1}:=by
    unfold wg;rw[V5]
   rw[D] at h;unfold CW reduceHash at h;generalize ly (u.map (CV prog w))=z at h⊢;change aW (bp prog w) A (if(decide (-(2:Int)^63<=z)&&decide (z<2^63))=aC then _ else _) Q E _;by_cases c:(decide (-(2:Int)^63<=z)&&decide (z<2^63))=aC
   ·rw[aH c] at h⊢
    show am h
   ·rw[aD c] at h⊢
    show ah (jp (am h))
def N8(d:Nat)(c:SU prog w s.heap k v)(h:Q aC s):aW (bp prog w) A (Nf (d+1) v) Q E s:=by
 cases k with
 |inl i=>
  let⟨t,rfl⟩:=c;rw[VZ _ rfl];show am h
 |inr q=>
  let⟨b,rfl,e⟩:=c;let f:=e.typeIs;let⟨o,u,n,j,_,l,m⟩:=e;unfold Nf;show ah (lW f F.slot_tuple_eq.lookup ?_);show ah (lg f Pp ?_);simp![nu,bJ,d8];show ah (fV j l ?_);show ah ?_;rw[<-nL];show qa _ (λg r t=>r.1=au/\t=s/\∀z∈g,carriedByValue z=aC) _ ?turn ?fin _ _ (J,J,m.byValue);case turn=>
   rintro z g r t ⟨a,rfl,all⟩;rw[VZ _ (all z aQ)];show ah (am ?_);simp![nu,bJ,d8];show am (J,J,λy p=>all y (aM _ p))
  case fin=>
   rintro⟨x,B⟩ t ⟨a,rfl,_⟩;simp only at a;subst a;show am h
def Lh(c:jB prog w s.heap f a)(h:Q aC s):aW (bp prog w) A (Nf 8 (.ref a)) Q E s:=by
 let d:=c.typeIs;let⟨o,p,n,g,_,i,j⟩:=c;unfold Nf;show ah (lW d F.slot_tuple_eq.lookup ?_);show ah (lg d Pp ?_);simp![nu,bJ,d8];show ah (fV g i ?_);show ah ?_;rw[<-nL];show qa _ (λe r t=>r.1=au/\t=s/\∃v,kT prog w s.heap v e) _ ?turn ?fin _ _ (J,J,f,j);case turn=>
  rintro z e r t ⟨b,rfl,v,k⟩;cases k with
  |cons l m=>
   show ah (N8 6 l ?_);simp![nu,bJ,d8];show am (J,J,_,m)
 case fin=>
  rintro⟨q,u⟩ t ⟨b,rfl,_⟩;simp only at b;subst b;show am h
def fC(prog:bq)(w:World):aa8 prog w (aa NK) where
 is:=jB prog w
 hash:=CW prog w
 draws:=wg
 room:=λA=>A.units+64<fF
 inj:=λ{h a x y} f g=>by
  let⟨o,l,n,b,_,c,t⟩:=f;let⟨D,E,H,m,_,p,u⟩:=g;rw[b] at m;cases m;rw[c] at p;cases p;show t.inj u
 keeps:=λ{h I k a d o L M} x b c q=>by
  let⟨v,l,n,r,z,s,B⟩:=x;let C:a≠d:=λe=>by
   subst e;rw[r] at b;cases b;rw[s] at c;cases c
  show(v,l,n,(q.2 a C).trans r,z,s,B.keeps b c q)
 pyHash:=λi j h=>N9 i j h
 eqBool:=λi f g h=>Uq i f g _ _ _ _ h
 quiet:=λj h=>Lh j h
def nest_room{A:dG}(h:A.units+65<fF):(fC prog w).room A.in1:=by
 change A.units+1+64<fF;lk
end
end fq
namespace mY
open PySem PyProof.Rows
class Im (α:Type) where
 im:(Keyed->Keyed)->α->α
open Im (im)
instance:Im Nat:=⟨λ_ a=>a⟩
instance:Im Bool:=⟨λ_ a=>a⟩
instance:Im PUnit:=⟨λ_ a=>a⟩
instance(priority:=high) imK:Im (aE×aE):=⟨λf a=>f a⟩
instance{α:Type} [Im α]:Im (ae α):=⟨λf o=>match o with
 |some a=>ag (im f a)
 |none=>au⟩
instance(priority:=high) imA:Im (af (aE×aE)):=⟨λf a=>a.map f⟩
instance{α β:Type} [Im α] [Im β]:Im (α×β):=⟨λf a=> #[im f a.1,im f a.2]⟩
instance imS:Im j0:=⟨λf st=>EV st ((li st).map f)⟩
instance{β:Type} [Im β]:Im (ForInStep β):=⟨λf r=>match r with
 | .done b=>.done (im f b)
 | .yield b=>.yield (im f b)⟩
structure En where
 M:Model
 Γ:Ctx
 s1:Shared
 s2:Shared
 f:Keyed->Keyed
 kd:SortKind
abbrev IM:aE->pW->br->Prop:=λ_ _ _=>False
def Pr(X:En){α:Type} [Im α] (a m2:StateT j0 Pw α):Prop:=∀st,kindOf st=X.kd->∀b c Q,
 oF X.M X.Γ (m2.run (im X.f st)) Q IM c X.s2->oF X.M X.Γ (a.run st) (λr _ d=>(d=X.s1/\kindOf r.2=X.kd)/\∃e,Q #[im X.f r.1,im X.f r.2] e X.s2) IM b X.s1
section
variable{X:En}{α β:Type} [Im α] [Im β]
def Pr.pi{a b:α}(h:b=im X.f a):Pr X (i8 a) (i8 b):=by
 intro st d e g Q c;subst h;rw[StateT.run_pure] at c⊢;simp![iH] at c⊢;show((trivial,d),_,c)
def Pr.lJ{c d:α->StateT j0 Pw β}(h:Pr X e m2)(g:∀a,Pr X (c a) (d (im X.f a))):Pr X (e>>=c) (m2>>=d):=by
 intro st i j k Q b;rw[uu] at b⊢;rw[gC] at b⊢;show r9 _ _ _ ?_ ?_ _ _ (h st i j k _ b)
 ·rintro r l p ⟨⟨rfl,m⟩,n,o⟩
  show g r.1 r.2 m l n Q o
 ·showλ_ _ _ h=>h
def Pr.AS:Pr X (get:StateT j0 Pw j0) get:=by
 intro st b c d Q a;rw[BA] at a⊢;simp![iH] at a⊢;show((trivial,b),_,a)
def Pr.yn(h:∀st,im X.f (b st)=c (im X.f st))(d:∀st,kindOf (b st)=kindOf st):Pr X (modify b:StateT j0 Pw PUnit) (modify c):=by
 intro st e i g Q a;rw[StateT.run_modify] at a⊢;simp![iH] at a⊢;show((trivial,(d st).trans e),g,?_);rw[h];show a
def Pr.HM{a:StateT j0 Pw α}:Pr X a (unsupported w):=by
 intro st c d e Q b;show b.elim
def Pr.uC:Pr X (liftM (rule t):StateT j0 Pw PUnit) (liftM (rule t)):=by
 intro st c f g Q b;let e:∀st:j0,(liftM (rule t):StateT j0 Pw PUnit).run st=(rule t>>=λa=>i8 #[a,st]):=λst=>by
  change(U8 (rule t):StateT j0 Pw PUnit).run st=_;rw[O6]
 rw[e] at b⊢;rw[gC] at b⊢;let d:∀Q p s,oF X.M X.Γ (rule t) Q IM p s=Q () p s:=λQ p s=>by
  unfold rule;simp
 rw[d] at b⊢;simp![iH] at b⊢;show((trivial,c),_,b)
def Pr.EQ [Decidable c] {a b d e:StateT j0 Pw α}(f:Pr X a d)(g:Pr X b e):Pr X (if c then a else b) (if c then d else e):=by
 by_cases h:c
 ·rw[aH h,aH h];show f
 ·rw[aD h,aD h];show g
def Pr.Z1{l:aa Nat}(h:∀i b,Pr X (c i b) (d i (im X.f b))):∀b:β,Pr X (forIn l b c) (forIn l (im X.f b) d):=by
 induction l with
 |nil=>
  intro b;rw[g9,g9];show Pr.pi J
 |cons x l e=>
  intro b;rw[ie,ie];show Pr.lJ (h x b) λr=> ?_;cases r with
  |done a=>show Pr.pi J
  |yield a=>show e a
def Pr.xy{a n:Nat}{b c:β}(d:c=im X.f b)(h:∀i b,Pr X (e i b) (g i (im X.f b))):Pr X (forIn [a:n] b e) (forIn [a:n] c g):=by
 subst d;rw[qP,qP];show Pr.Z1 h b
structure Ht(X:En):Prop where
 lt:∀x y:Keyed,Pr X (lt' x y) (lt' (X.f x) (X.f y))
def x8(f:cY->cY)(a:af cY):(im f a:af cY).size=a.size:=vY
def Pr.vM{i:Nat}:Pr X (elem' a i) (elem' (im X.f a) i):=by
 rw[elem'_eq,elem'_eq];let e:(im X.f a:af cY)[i]?=(a[i]?).map X.f:=L9;rw[e];cases a[i]? with
 |none=>show Pr.HM
 |some x=>show Pr.pi J
def Pr.MI(C:Ht X)(i j:Nat):Pr X (ltAt' i j) (ltAt' i j):=by
 rw[ltAt'_eq];show Pr.lJ Pr.AS λst=> ?_;show Pr.lJ Pr.vM λx=> ?_;show Pr.lJ Pr.vM λy=> ?_;show C.lt x y
def Ri(f:cY->cY)(a:af cY)(i j:Nat):(a.swapIfInBounds i j).map f=(a.map f).swapIfInBounds i j:=by
 apply Array.ext';rw[mE];by_cases b:i<a.size
 ·by_cases c:j<a.size
  ·simp[r6,b,c,V6]
  ·simp[r6,b,c]
 ·simp[r6,b]
theorem zC(f:cY->cY)(u v:Nat->Nat):∀(l:aa Nat) (a:af cY),(l.foldl (λa k=>a.swapIfInBounds (u k) (v k)) a).map f=l.foldl (λa k=>a.swapIfInBounds (u k) (v k)) (a.map f)
 |[],a=>rfl
 |k::l,a=>by rw[gB,gB,zC f u v l,Ri]
def Pr.yf(i j:Nat):Pr X (abG i j) (abG i j):=by
 rw[reverseSlice'_eq];show Pr.yn (λst=> ?_) λst=>rfl;change EV st ((mirror (li st) i j ((j - i)/2)).map X.f)=EV st (mirror ((li st).map X.f) i j ((j - i)/2));unfold mirror;rw[zC X.f (λk=>i+k) (λk=>j - 1 - k)]
def Pr.MV(i j:Nat):Pr X (moveDown' i j) (moveDown' i j):=by
 rw[moveDown'_eq];show Pr.yn (λst=> ?_) λst=>rfl;change EV st ((bubble (li st) i (i - j)).map X.f)=EV st (bubble ((li st).map X.f) i (i - j));unfold bubble;rw[zC X.f (λk=>i - k) (λk=>i - k - 1)]
end
def mL(f:cY->cY)(n:Nat):im f n=n:=rfl
def wq(f:cY->cY)(n:Bool):im f n=n:=rfl
def wn(f:cY->cY)(n:PUnit):im f n=n:=rfl
def o6 [Im α] (f:cY->cY)(a:α):im f (ag a)=ag (im f a):=rfl
def lG [Im α] (f:cY->cY):im f (au:ae α)=au:=rfl
def lE [Im α] [Im β] (f:cY->cY)(a:α)(b:β):im f #[a,b]= #[im f a,im f b]:=rfl
def Bv [Im α] (f:cY->cY)(a:α):im f (uz a)=uz (im f a):=rfl
def yu [Im α] (f:cY->cY)(a:α):im f (jI a)=jI (im f a):=rfl
def zJ [Im α] [Im β] (f:cY->cY)(a:α×β):(im f a).1=im f a.1:=rfl
def zI [Im α] [Im β] (f:cY->cY)(a:α×β):(im f a).2=im f a.2:=rfl
section
variable{X:En}{α β γ:Type} [Im α] [Im β] [Im γ]
def Pr.um{b c:ae α->StateT j0 Pw β}(h:Pr X d m2)(e:∀a,Pr X (b (ag a)) (c (ag (im X.f a))))(g:Pr X (b au) (c au)):Pr X (d>>=b) (m2>>=c):=
 Pr.lJ h λa=>match a with
  |some a=>e a
  |none=>g
def Pr.xD{b d:ae α×γ->StateT j0 Pw β}(h:Pr X e m2)(g:∀a c,Pr X (b #[ag a,c]) (d #[ag (im X.f a),im X.f c]))(i:∀c,Pr X (b #[au,c]) (d #[au,im X.f c])):Pr X (e>>=b) (m2>>=d):=
 Pr.lJ h λa=>match a with
  | #[ag a,c]=>g a c
  | #[au,c]=>i c
end
section
variable{X:En}
def Pr.UQ(C:Ht X)(lo n ok:Nat):Pr X (binarySort' lo n ok) (binarySort' lo n ok):=by
 rw[binarySort'_eq]
 repeat' (first|(with_reducible show Pr.EQ ?_ ?_)|show Pr.pi rfl|(with_reducible show Pr.um (by(with_reducible first|show Pr.MI ‹_› _ _|show Pr.uC|show Pr.yf _ _|show Pr.MV _ _)) (λx=> ?_) ?_)|(with_reducible show Pr.lJ (by(with_reducible first|show Pr.MI ‹_› _ _|show Pr.uC|show Pr.yf _ _|show Pr.MV _ _)) λx=> ?_)|(with_reducible show Pr.xD (Pr.xy rfl λi b=> ?_) (λr b=> ?_) λb=> ?_)|(dsimp only[lE,mL,wq,wn,o6,lG,zJ,zI]))
def Pr.XI(C:Ht X)(lo n:Nat):Pr X (countRun' lo n) (countRun' lo n):=by
 rw[countRun'_eq]
 repeat' (first|(with_reducible show Pr.EQ ?_ ?_)|show Pr.pi rfl|(with_reducible show Pr.um (by(with_reducible first|show Pr.MI ‹_› _ _|show Pr.uC|show Pr.yf _ _|show Pr.MV _ _)) (λx=> ?_) ?_)|(with_reducible show Pr.lJ (by(with_reducible first|show Pr.MI ‹_› _ _|show Pr.uC|show Pr.yf _ _|show Pr.MV _ _)) λx=> ?_)|(with_reducible show Pr.xD (Pr.xy rfl λi b=> ?_) (λr b=> ?_) λb=> ?_)|(dsimp only[lE,mL,wq,wn,o6,lG,zJ,zI]))
end
open Im (im)
section
variable{X:En}{α β:Type} [Im α] [Im β]
def Pr.aag{b c:j0->StateT j0 Pw β}(e:∀st,kindOf st=X.kd->Pr X (b st) (c (im X.f st))):Pr X (get>>=b) (get>>=c):=by
 intro st d g h Q a;rw[uu,BA] at a⊢;simp![gC,iH] at a⊢;show e st d st d g h Q a
def Pr.ack(h:c=im X.f b)(d:kindOf b=X.kd):Pr X (set b:StateT j0 Pw PUnit) (set c):=by
 intro st e g i Q a;subst h;rw[StateT.run_set] at a⊢;simp![iH] at a⊢;show((trivial,d),_,a)
def Bu(f:cY->cY)(a:af cY)(x:cY):im f (a.push x)=(im f a).push (im f x):=Array.map_push
def wu(f:cY->cY)(a b:af cY):im f (a++b)=im f a++im f b:=Array.map_append
def qD(f:cY->cY)(a:af cY)(i j:Nat):im f (a.extract i j)=(im f a).extract i j:=by
 change(a.extract i j).map f=(a.map f).extract i j;rw[Array.map_extract]
def uh(f:cY->cY)(a:af cY):im f a.reverse=(im f a).reverse:=by
 change a.reverse.map f=(a.map f).reverse;rw[Array.map_reverse]
def rC(f:cY->cY)(x:cY):im f (#[x]:af cY)= #[im f x]:=by
 change(#[x]:af cY).map f= #[f x];simp
def wo(f:cY->cY)(st:j0):aaW (im f st)=aaW st:=rfl
def Ht.Yu(C:Ht X)(x y:cY):Pr X (lt' x y) (lt' (im X.f x) (im X.f y)):=C.lt x y
def Pr.UR(C:Ht X)(left:Bool)(a:cY)(c:af cY)(base i:Nat):Pr X (beyond' left a c base i) (beyond' left (im X.f a) (im X.f c) base i):=by
 unfold beyond';show Pr.lJ Pr.vM λx=> ?_;show Pr.EQ (C.lt x a) ?_;show Pr.um (C.lt a x) (λb=> ?_) ?_
 ·show Pr.pi J
 ·show Pr.pi J
end
section
variable{X:En}
def Pr.rD(C:Ht X)(left:Bool)(a:cY)(c:af cY)(base n hint:Nat):Pr X (gallop' left a c base n hint) (gallop' left (im X.f a) (im X.f c) base n hint):=by
 rw[gallop'_eq,gallop'_eq]
 repeat' (first|(with_reducible show Pr.EQ ?_ ?_)|show Pr.pi rfl|(with_reducible show Pr.um (by(with_reducible first|show Pr.UR ‹_› _ _ _ _ _|show Pr.AS|show Pr.uC)) (λx=> ?_) ?_)|(with_reducible show Pr.xD (Pr.xy rfl λi b=> ?_) (λr b=> ?_) λb=> ?_)|(dsimp only[lE,mL,wq,wn,o6,lG,zJ,zI]))
def Pr.oV(g:Nat):Pr X (abF g) (abF g):=by
 rw[setMinGallop'_eq];show Pr.yn (λst=>rfl) λst=>rfl
def Pr.lo_(C:Ht X)(a b:af cY):Pr X (mergeLo' a b) (mergeLo' (im X.f a) (im X.f b)):=by
 rw[mergeLo'_eq,mergeLo'_eq,x8,x8]
 repeat' (first|(with_reducible show Pr.EQ ?_ ?_)|(with_reducible show Pr.pi ?_;first|with_reducible rfl|(simp![Bv,yu,lE,o6,lG,wu,Bu,qD,uh,rC,mL];done)|(simp![Bv,yu,lE,o6,lG,wu,Bu,qD,uh,rC,mL];rfl))|(with_reducible show Pr.um (by(with_reducible first|show Pr.vM|show Ht.Yu ‹_› _ _|show Pr.AS|show Pr.uC|show Pr.rD ‹_› _ _ _ _ _ _|show Pr.oV _)) (λx=> ?_) ?_)|(with_reducible show Pr.lJ (by(with_reducible first|show Pr.vM|show Ht.Yu ‹_› _ _|show Pr.AS|show Pr.uC|show Pr.rD ‹_› _ _ _ _ _ _|show Pr.oV _)) λx=> ?_)|(with_reducible first|show Pr.vM|show Ht.Yu ‹_› _ _|show Pr.AS|show Pr.uC|show Pr.rD ‹_› _ _ _ _ _ _|show Pr.oV _)|(with_reducible show Pr.HM)|(with_reducible show Pr.xD (Pr.xy (by first|rfl|(simp![lE,lG,rC,mL,wo];done)|(simp![lE,lG,rC,mL,wo];rfl)) λi b=> ?_) (λr b=> ?_) λb=> ?_)|(dsimp only[lE,mL,wq,wn,o6,lG,zJ,zI]))
def Pr.hi_(C:Ht X)(a b:af cY):Pr X (mergeHi' a b) (mergeHi' (im X.f a) (im X.f b)):=by
 rw[mergeHi'_eq,mergeHi'_eq,x8,x8]
 repeat' (first|(with_reducible show Pr.EQ ?_ ?_)|(with_reducible show Pr.pi ?_;first|with_reducible rfl|(simp![Bv,yu,lE,o6,lG,wu,Bu,qD,uh,rC,mL];done)|(simp![Bv,yu,lE,o6,lG,wu,Bu,qD,uh,rC,mL];rfl))|(with_reducible show Pr.um (by(with_reducible first|show Pr.vM|show Ht.Yu ‹_› _ _|show Pr.AS|show Pr.uC|show Pr.rD ‹_› _ _ _ _ _ _|show Pr.oV _)) (λx=> ?_) ?_)|(with_reducible show Pr.lJ (by(with_reducible first|show Pr.vM|show Ht.Yu ‹_› _ _|show Pr.AS|show Pr.uC|show Pr.rD ‹_› _ _ _ _ _ _|show Pr.oV _)) λx=> ?_)|(with_reducible first|show Pr.vM|show Ht.Yu ‹_› _ _|show Pr.AS|show Pr.uC|show Pr.rD ‹_› _ _ _ _ _ _|show Pr.oV _)|(with_reducible show Pr.HM)|(with_reducible show Pr.xD (Pr.xy (by first|rfl|(simp![lE,lG,rC,mL,wo];done)|(simp![lE,lG,rC,mL,wo];rfl)) λi b=> ?_) (λr b=> ?_) λb=> ?_)|(dsimp only[lE,mL,wq,wn,o6,lG,zJ,zI]))
end
open Im (im)
def Dm(f:cY->cY)(st:j0):lh (im f st)=lh st:=rfl
def Ry(f:cY->cY)(st:j0):li (im f st)=im f (li st):=rfl
def Yx(f:cY->cY)(st:j0):Em (im f st)=Em st:=rfl
theorem Db(f:cY->cY)(b:Nat):∀(l:aa (cY×Nat)) (a:af cY),(l.foldl (λa #[p,j]=>a.setIfInBounds (b+j) p) a).map f=(l.map λq=> #[f q.1,q.2]).foldl (λa #[p,j]=>a.setIfInBounds (b+j) p) (a.map f)
 |[],a=>rfl
 |q::l,a=>by
  rw[gB,bi,gB,Db f b l]
  congr 1
  simp
theorem P0(f:cY->cY):∀(l:aa cY) n,(l.zipIdx n).map (λq=> #[f q.1,q.2])=(l.map f).zipIdx n
 |[],_=>rfl
 |x::l,n=>by rw[jw,bi,bi,jw,P0 f l]
def UA(f:cY->cY)(a:af cY):(im f a:af cY).toList=a.toList.map f:=mE
section
variable{X:En}
def Pr.ZQ(b:Nat)(merged:af cY):Pr X (modify λs=>EV s (merged.toList.zipIdx.foldl (λa #[p,j]=>a.setIfInBounds (b+j) p) (li s)):StateT j0 Pw PUnit)
  (modify λs=>EV s ((im X.f merged).toList.zipIdx.foldl (λa #[p,j]=>a.setIfInBounds (b+j) p) (li s))):=by
 show Pr.yn (λst=> ?_) λst=>rfl;let e:=Db X.f b merged.toList.zipIdx (li st);rw[P0] at e;rw[UA];show eI (EV st) e
def Pr.at_(C:Ht X)(i:Nat):Pr X (mergeAt' i) (mergeAt' i):=by
 rw[mergeAt'_eq];show Pr.aag λs c=> ?_;dsimp only[Dm,Ry];cases d:(lh s)[i]? with
 |none=>show Pr.HM
 |some a=>
  cases e:(lh s)[i+1]? with
  |none=>show Pr.HM
  |some b=>
   let⟨f,g,h⟩:=a;let⟨j,l,n⟩:=b;dsimp only;show Pr.lJ (Pr.ack J c) λ_=> ?_;show Pr.lJ Pr.vM λx=> ?_;show Pr.um (Pr.rD C _ _ _ _ _ _) (λk=> ?_) (Pr.pi J);dsimp only[mL];show Pr.EQ (Pr.pi J) ?_;show Pr.lJ Pr.vM λy=> ?_;show Pr.um (Pr.rD C _ _ _ _ _ _) (λo=> ?_) (Pr.pi J);dsimp only[mL];show Pr.EQ (Pr.pi J) ?_;simp![<-qD];show Pr.EQ ?_ ?_
   ·show Pr.lJ (Pr.lo_ C _ _) λm=> ?_
    show Pr.lJ (Pr.ZQ _ _) λ_=> ?_;show Pr.lJ Pr.AS λst=>Pr.pi J
   ·show Pr.lJ (Pr.hi_ C _ _) λm=> ?_
    show Pr.lJ (Pr.ZQ _ _) λ_=> ?_;show Pr.lJ Pr.AS λst=>Pr.pi J
local macro_rules| `(tactic|fail "i")=> `(tactic|repeat' (first|(with_reducible refine Pr.EQ ?_ ?_)|exact Pr.pi rfl|(with_reducible refine Pr.um (Pr.XI ‹_› _ _) (λx=> ?_) ?_)|(with_reducible refine Pr.lJ (by with_reducible first|exact Pr.uC|exact Pr.UQ ‹_› _ _ _|exact Pr.at_ ‹_› _) λx=> ?_)|(refine Pr.lJ (Pr.yn (λ_=>rfl) λ_=>rfl) λx=> ?_)|(with_reducible refine Pr.xD (Pr.xy rfl λi b=> ?_) (λr b=> ?_) λb=> ?_)|(with_reducible refine Pr.lJ Pr.AS λst=> ?_)|(dsimp only[lE,mL,wq,wn,o6,lG,zJ,zI,Dm])))
def Pr.ZG(C:Ht X):Pr X sortRuns' sortRuns':=by
 rw[sortRuns'_eq];show Pr.lJ Pr.AS λs=> ?_;dsimp only[Ry];simp![x8];show Pr.xD (Pr.xy J λi b=> ?_) (λr b=> ?_) λb=> ?_
 ·fail "i"
  ·rename_i st
   generalize(lh st).back?=o;cases o with
   |none=>fail "i"
   |some o=>
    fail "i"
    rename_i a;generalize(if(lh a).size>1 then(lh a)[(lh a).size - 2]? else au)=c;cases c with
    |none=>fail "i"
    |some c=>fail "i"
  ·rename_i st
   generalize(lh st).back?=o;cases o with
   |none=>fail "i"
   |some o=>
    fail "i"
    rename_i a;generalize(if(lh a).size>1 then(lh a)[(lh a).size - 2]? else au)=c;cases c with
    |none=>fail "i"
    |some c=>fail "i"
 ·fail "i"
 ·fail "i"
end
open Im (im)
def Ln(b:Bool)(x y:aE):JL (lN b) x y=(do
  let a<-iK x;let c<-iK y
  for #[#[p,q],i] in (a.toList.zip c.toList).zipIdx do
   if !(<-JN p q) then return<-oneLt' (b&&i==0) p q
  return a.size<c.size):=rfl
def Ma(i:Nat):Eu:={cls:=.type "tuple",data:=.seq (Bi i dJ) 0}
def vi(n:Nat):cT:={objs:=((fA n).map Ma).toArray}
def xo(h:i<n):(vi n).get? i=ag (Ma i):=by
 unfold Heap.get? vi;let e:(((fA n).map Ma).toArray)[i]?=ag (Ma i):=by
  rw[List.getElem?_toArray,aF,gb h];rfl
 simp![e];rfl
section
variable{M:SI}{Γ:Ctx}{E:aE->pW->br->Prop}{s:br}{n:Nat}
def BN(c:s.heap.get? a=ag o)(d:o.data=.seq f k):
  oF M Γ (iK (.ref a)) Q E p s=Q f p s:=by
 let ld:∀R,oF M Γ (load a) R E p s=R o p s:=λR=>by
  change(∃b,s.heap.get? a=ag b/\R b p s)=R o p s;rw[c];show propext (λ(b,e,h)=>by rw[aJ e];show h,λh=>(o,J,h))
 unfold iK Nd;simp![gC,ld,d,iH]
def wR:oF M Γ (iK .none) Q E p s=False:=by
 unfold iK Nd;simp![gC,iH];let e:∀R,(∀p s,R () p s=False)->∀p s,oF M Γ (notAStandIn dJ) R E p s=False:=by
  intro R a p s;unfold notAStandIn;simp[a]
 show e _ (λp s=>by simp[unsupported]) p s
def Kg:oF M Γ (JN .none .none) Q E p s=Q aC p s:=by
 unfold JN;rw[Sem.wp_holding,aH (by rfl)];simp[rule]
def PY(i j:Nat):(Bi i dJ).toList.zip (Bi j dJ).toList=bR (min i j) #[dJ,dJ]:=by
 rw[Hm,Hm,List.zip_replicate]
def HG(a:i<n)(c:j<n):
  oF M Γ (JL (lN b) (.ref i) (.ref j)) Q E p {s with heap:=vi n}=Q (decide (i<j)) p {s with heap:=vi n}:=by
 rw[Ln,gC,BN (xo a) J,gC,BN (xo c) J,PY];let d:∀m k R p s,oF M Γ (forIn ((bR m #[dJ,dJ]).zipIdx k) (#[au,()]:ae Bool×Unit) λx r=>do
   let __do_lift<-JN x.1.1 x.1.2
   if(!__do_lift)=aC then do
     let __do_lift<-oneLt' (b&&x.2==0) x.1.1 x.1.2
     i8 (uz #[ag __do_lift,()])
    else i8 (jI #[au,()])) R E p s=R #[au,()] p s:=by
  intro m;induction m with
  |zero=>intro k R p s;simp
  |succ m e=>
   intro k R p s;rw[ja,jw,ie];simp![gC,Kg,nu,bJ,d8,iH];show e (k+1) R p s
 rw[gC];show(d (min i j) 0 _ p _).trans ?_;rw[JY,JY,iH]
def E8(h:x=.none\/(∃i,x=.ref i/\i<n/\y=.none)):
  oF M Γ (JL (lN b) x y) Q E p {s with heap:=vi n}=False:=by
 rw[Ln,gC];rcases h with rfl|⟨i,rfl,a,rfl⟩
 ·rw[wR]
 ·rw[BN (xo a) J,gC,wR]
def We(x y:cY)(st:j0):
  oF M Γ ((lt' x y).run st) Q E p s=oF M Γ (JL (kindOf st) x.1 y.1) (λb=>Q #[ag b,st]) (λe=>Q #[au,BB (kindOf st) (li st) (lh st) (aaW st) (ag e)]) p s:=by
 rw[lt'_eq,uu,BA,gC,iH];rw[uu,gC];change oF M Γ ((U8 (JL (kindOf st) x.1 y.1).attempt:StateT j0 Pw _).run st) _ E p s=_;rw[O6,gC,Sem.wp_attempt];simp![iH];rfl
end
structure AA(M:Model)(Γ:Ctx)(s:Shared)(b:Bool)(n:Nat)(rk:Value->Option Nat):Prop where
 lt:∀v r,rk v=some r->r<n
 cmp:∀(x y:Value) (i j:Nat) (p:Pos) (Q:Bool->Pos->Shared->Prop),rk x=some i->rk y=some j->(∀p',Q (decide (i<j)) p' s)->Sem.wp M Γ (keyLt' (tuples' b) x y) Q IM p s
def kf(a:aE->ae Nat)(k:cY):cY:= #[match a k.1 with
 |some r=>.ref r
 |none=>.none,k.2]
abbrev OC(M:SI)(Γ:Ctx)(s:br)(b:Bool)(n:Nat)(rk:aE->ae Nat):En:=(M,Γ,s,{s with heap:=vi n},kf rk,lN b)
def AA.acQ(R:AA M Γ s b n a):Ht (OC M Γ s b n a):=by
 show⟨λx y st l q r Q d=> ?_⟩;rw[We] at d⊢;let t:kindOf (im (kf a) st)=lN b:=l;rw[t] at d;rw[l];cases e:a x.1 with
 |none=>
  let g:(kf a x).1=.none:=by unfold kf;simp![e]
  rw[show((OC M Γ s b n a).f x).1=.none from g,E8 (.inl rfl)] at d;show d.elim
 |some i=>
  let g:(kf a x).1=.ref i:=by unfold kf;simp![e]
  let o:=R.lt _ _ e;cases k:a y.1 with
  |none=>
   let m:(kf a y).1=.none:=by unfold kf;simp![k]
   rw[show((OC M Γ s b n a).f x).1=.ref i from g,show((OC M Γ s b n a).f y).1=.none from m,E8 (.inr (i,J,o,J))] at d;show d.elim
  |some j=>
   let m:(kf a y).1=.ref j:=by unfold kf;simp![k]
   rw[show((OC M Γ s b n a).f x).1=.ref i from g,show((OC M Γ s b n a).f y).1=.ref j from m,HG o (R.lt _ _ k)] at d;show r9 _ _ _ ?_ ?_ _ _ (R.cmp x.1 y.1 i j q (λc _ p=>c=decide (i<j)/\p=s) e k λ_=>(J,J))
   ·rintro c u p ⟨rfl,rfl⟩
    show((J,l),r,d)
   ·showλ_ _ _ h=>h.elim
@[reducible] def tG (n:Nat):KeyKind where
 α:=Nat
 blt a b:=decide (a<b)
 irrefl a:=by simp
 trans a b c d e:=by simp![cx] at*;lk
 negTrans a b c h:=by simp![cx] at*;lk
 total a b d e:=by simp![decide_eq_false_iff_not] at*;lk
 keyOf v:=match v with
  | .ref a=>if a<n then ag a else au
  |_=>au
 dflt:=0
def Zo{s:br}:G.LtAt m w {s with heap:=vi n} (tG n) (lN b):=by
 intro A E x y i j Q e f g Γ p o;let d:∀v i,(tG n).keyOf v=ag i->v=.ref i/\i<n:=by
  intro v i h;cases v with
  |ref a=>
   let c:(if a<n then ag a else au)=ag i:=h;split at c
   ·cases c;show(J,by assumption)
   ·cases c
  |_=>cases h
 let⟨rfl,k⟩:=d x i e;let⟨rfl,l⟩:=d y j f;rw[HG k l];show g
open Im (im)
def gR(q:Nat×aE):cY:= #[.ref q.1,q.2]
def gI(k:cY):Nat×aE:= #[match k.1 with
 | .ref r=>r
 |_=>0,k.2]
def aai(q:Nat×aE):gI (gR q)=q:=rfl
def VL{a:aa (Nat×aE)}(e:b.toList=a.map gR)(c:∀q∈a,q.1<n)(h:a[i]?=ag q):KK (tG n) b i=q.1:=by
 unfold KK;let d:b[i]?=ag (gR q):=by
  rw[<-il,e,aF,h];rfl
 rw[d];change(if q.1<n then ag q.1 else au).getD 0=q.1;rw[aH (c q (bg h))];rfl
def TV{Q:j0->Prop}
  (R:AA (bp v z) Γ h b c a)(M:Γ.In aaE)(N:d.toList.map (kf a)=f.map gR)(A:∀q∈f,q.1<c)(O:2<=d.size)
  (T:∀e (l:aa (Nat×aE)),(li e).toList.map (·.2)=l.map (·.2)->l.Perm f->l.Pairwise (λx y=>x.1<=y.1)->Em e=au->Q e):
  oF (bp v z) Γ (sortRuns'.run (BB (lN b) d #[] 7 au)) (λr _ B=>B=h/\Q r.2) IM p h:=by
 let m:(d.map (kf a)).toList=f.map gR:=by rw[mE];show N
 let U:KeysOf (tG c) (d.map (kf a)):=by
  intro q g;rw[m] at g;let⟨r,Y,rfl⟩:=aY.mp g;show(r.1,by change(if r.1<c then ag r.1 else au)=ag r.1;rw[aH (A r Y)])
 let run:=G.wpS_sortRunsSt (prog:=v) (w:=z) (E:=λ_ _=>False) (s:={h with heap:=vi c}) (κ:=tG c) (st:=BB (lN b) (d.map (kf a)) #[] 7 au)
  (Q:=λ_ e=>(li e).Perm (d.map (kf a))/\Em e=au/\SortedToK (tG c) (li e) (d.map (kf a)).size) Zo U (ab4 _,J,J) J (Stable.refl _) (by rw[vY];show O)
  (λe a1 a2 a3 _=>(a1,a2,a3)) Γ p M
 show r9 _ _ _ ?_ ?_ _ _ (Pr.ZG R.acQ (BB (lN b) d #[] 7 au) J p p _ run)
 ·rintro r p' B ⟨⟨rfl,_⟩,p3,_,hp,hf,hs⟩
  show(J,?_);let C:((li r.2).map (kf a)).toList.Perm (f.map gR):=by rw[<-m];show Array.perm_iff_toList_perm.mp hp
  let eL:∀k∈((li r.2).map (kf a)).toList,gR (gI k)=k:=λk o=>by
   let⟨q,_,rfl⟩:=aY.mp (C.mem_iff.mp o);rfl
  let D:(((li r.2).map (kf a)).toList.map gI).map gR=((li r.2).map (kf a)).toList:=by
   rw[df];show(jb λk o=>eL k o).trans (Kb _)
  let t:(((li r.2).map (kf a)).toList.map gI).Perm f:=by
   let:=C.map gI;rw[df] at this;show this.trans (adk ((jb λq _=>aai q).trans (Kb _)))
  show T r.2 (((li r.2).map (kf a)).toList.map gI) ?_ t ?_ hf
  ·rw[df,mE,df]
   rfl
  ·let H:∀q∈((li r.2).map (kf a)).toList.map gI,q.1<c:=λq g=>A q (t.mem_iff.mp g)
   rw[jR];intro u j hi I hij;let hsz:(d.map (kf a)).size=(((li r.2).map (kf a)).toList.map gI).length:=by
    rw[t.length_eq,<-ft,m,ao]
   let:=hs u j (hJ hij) (by rw[hsz];show I);let L:(tG c).blt (KK (tG c) ((li r.2).map (kf a)) j) (KK (tG c) ((li r.2).map (kf a)) u)=aA:=this;rw[(VL (n:=c) D.symm H (i:=u) (aL hi)),(VL (n:=c) D.symm H (i:=j) (aL I))] at L;let:=abH L;lk
 ·showλ_ _ _ aaC=>aaC
open Im (im)
def St(d:aa az)(s e:br):Prop:=∃c f,e={s with heap:=c,toks:=f}/\∀b o,b∉d->s.heap.get? b=ag o->c.get? b=ag o
def St.refl(c:aa az)(s:br):St c s s:=(s.heap,s.toks,J,λ_ _ _ e=>e)
def St.trans(x:St c s d)(y:St c d f):St c s f:=by
 let⟨k,l,rfl,g⟩:=x;let⟨h,i,rfl,j⟩:=y;show(h,i,J,λb o n e=>j b o n (g b o n e))
def Back(s:br)(k:aE)(h:cT)(r:aE)(d:br):Prop:=r=k/\∃c e,d={s with heap:=c,toks:=e}/\∀b o,h.get? b=ag o->c.get? b=ag o
section
universe b
variable{a:az}{vs ks:aa aE}{rs:aa Nat}{rk:aE->ae Nat}{b:Bool}{n m:Nat}{P:YV->br->Prop}
def WF(hl:ks.length=vs.length)(c:ks.map rk=rs.map ag):(ks.toArray.zip vs.toArray).toList.map (kf rk)=(rs.zip vs).map gR:=by
 let e:(ks.toArray.zip vs.toArray).toList=ks.zip vs:=by simp
 rw[e];clear e;induction ks generalizing vs rs with
 |nil=>
  cases rs with
  |nil=>rfl
  |cons r rs=>simp at c
 |cons k ks d=>
  cases vs with
  |nil=>simp at hl
  |cons v vs=>
   cases rs with
   |nil=>simp at c
   |cons r rs=>
    simp![bi,dL] at c;rw[jH,jH,bi,bi,d (by simpa using hl) c.2]
    congr 1
    change #[(match rk k with|some r=>aK r|none=>dJ),v]= #[aK r,v];rw[c.1]
def Ia(M:s.heap.get? g=ag (eP "list" ks.toArray e))(N:s.heap.get? a=ag (eP "list" #[] j))(O:g≠a)(hl:ks.length=vs.length)(T:vs.length<=bf)
  (U:2<=ks.length->∀B:Eo->br->Prop,B (lN b) s->aW (bp prog w) A (El ks.toArray) B E s)
  (R:∀i:Ctx,i.In A->AA (bp prog w) i s b m rk)(C:ks.map rk=rs.map ag)(Y:∀r∈rs,r<m)
  (h:∀k D c (d:aa (Nat×aE)),k.get? a=ag (eP "list" D c)->(∀x o,x≠a->x≠g->s.heap.get? x=ag o->k.get? x=ag o)->D.toList=d.map (·.2)->d.Perm (rs.zip vs)->
   d.Pairwise (λx y=>x.1<=y.1)->P (.done (.ret .none)) {s with heap:=k}):aW (bp prog w) A (ksk_end a aA vs.toArray j (.ref g) ks.toArray) P E s:=by
 let hrl:rs.length=ks.length:=by
  let:=eI iJ C;simpa using this.symm
 let hz2:=T;rw[dN] at hz2;let H:∀st (d:aa (Nat×aE)),(li st).toList.map (·.2)=d.map (·.2)->d.Perm (rs.zip vs)->d.Pairwise (λx y=>x.1<=y.1)->Em st=au->
   aW (bp prog w) A (ksk_tail a aA j (.ref g) st) P E s:=by
  intro st d I f h3 h4;let hsz:((li st).map (·.2)).size=vs.length:=by
   let:=eI iJ I;rw[ao,ao,f.length_eq,pX,ft] at this;rw[vY];lk
  let l:=((eQ s.heap g (iE λ_=>(#[]:af aE))).2 a O.symm).trans N;unfold ksk_tail;try dsimp only
  show ah (qj M J ?_ (by rw[bj,dN];lk) (bW _));show ah (qL ?_);show ah (Sx l J ?_);show ah (qj l J ?_ (bW _) (by simp![bJ,d8];rw[hsz,dN];lk));rw[h4];simp![bne_self_eq_false,bJ,d8];show am (h _ _ _ d (lY l λ_=>(li st).map λx=>x.2) (λx o n1 n2 q=> ?_) (by rw[mE];show I) f h3);rw[fz _ _ _ _ n1,fz _ _ _ _ n2];show q
 unfold ksk_end;simp![bJ,d8];by_cases f:vs.toArray.size<2
 ·rw[aH f,aH f]
  show ah (am ?_);show ah (am ?_);rw[bj] at f;let hlz:(rs.zip vs).length<2:=by rw[pX];lk
  show H _ (rs.zip vs) ?_ (adj _) ?_ rfl
  ·change(ks.toArray.zip vs.toArray).toList.map (·.2)=_
   let e:(ks.toArray.zip vs.toArray).toList=ks.zip vs:=by simp
   rw[e];let j:(ks.zip vs).map yW=vs:=AI (by lk);let e2:(rs.zip vs).map yW=vs:=AI (by lk);show j.trans e2.symm
  ·match rs.zip vs,hlz with
   |[],_=>show pH
   |[x],_=>show sV _ _
   |_::_::_,q=>show absurd q (by simp![aN];lk)
 ·rw[aD f,aD f]
  rw[bj] at f;show ah (U (by lk) _ ?_);show ah ?_;intro i aaE L;let hb:∀q∈rs.zip vs,q.1<m:=λq hq=>Y q.1 (lw hq).1;let run:=TV (Γ:=i) (p:=aaE)
   (Q:=λst=>∃d:aa (Nat×aE),(li st).toList.map (·.2)=d.map (·.2)/\d.Perm (rs.zip vs)/\d.Pairwise (λx y=>x.1<=y.1)/\Em st=au) (R i L) L (WF hl C) hb (by simp;lk)
   λst d t u v z=>(d,t,u,v,z)
  show r9 _ _ _ ?_ ?_ _ _ run
  ·rintro⟨⟨⟩,st⟩ p' s' ⟨rfl,d,t,u,v,z⟩
   show H st d t u v z
  ·showλ_ _ _ aaG=>aaG.elim
def NO(O:s.heap.get? g=ag (eP "list" #[] 0))(T:s.heap.get? a=ag (eP "list" #[] B))(C:g≠a)(hl:ks.length=vs.length)(D:vs.length<=bf)
  (turn:∀(i:Nat) v k,vs[i]?=ag v->ks[i]?=ag k->∀d:br,St [a,g] s d->aW (bp prog w) A (call f [v]) (Back s k d.heap) (λ_ _=>False) d)
  (U:2<=ks.length->∀d:br,St [a,g] s d->∀Q:Eo->br->Prop,Q (lN b) d->aW (bp prog w) A (El ks.toArray) Q E d)
  (R:∀p d,p.In A->St [a,g] s d->AA (bp prog w) p d b m rk)(Y:ks.map rk=rs.map ag)(hm:∀aav∈rs,aav<m)
  (aax:∀d r c (h:aa (Nat×aE)),St [a,g] s d->d.heap.get? a=ag (eP "list" r c)->r.toList=h.map (·.2)->h.Perm (rs.zip vs)->
   h.Pairwise (λx y=>x.1<=y.1)->P (.done (.ret .none)) d):aW (bp prog w) A (Sz a f aA vs.toArray B (.ref g)) P E s:=by
 let hz2:=D;rw[dN] at hz2;unfold Sz;show ah (jp ?_);first
  |rw[qR]
  |(rw[<-nL];simp![L5])
 show ah (ksk_fold (λi d=>St [a,g] s d/\d.heap.get? a=ag (eP "list" #[] B)/\∃c,d.heap.get? g=ag (eP "list" (ks.take i).toArray c)) vs 0 s (St.refl _ _,T,0,O) ?turn ?fin);case turn=>
  rintro j x d H ⟨S,t,c,hc⟩;rw[gE] at hc⊢;let hj:j<vs.length:=(List.getElem?_eq_some_iff.mp H).1;let⟨k,I⟩:∃k,ks[j]?=ag k:=(_,aL (by lk));show ah (iV (eO (turn j x k H I d S) (λv s'' q=> ?_) λ_ _ z=>z.elim));let⟨rfl,l,t2,rfl,u⟩:=q;let L:=u _ _ hc;let ek:ks.take (j+1)=ks.take j++[v]:=by rw[cE,I];rfl
  let aaV:(ks.take j).length<=vs.length:=by rw[dq];lk
  show ah (qj L rfl ?_ (by rw[bj,dN];lk) (by rw[Bh,bj,dN];lk));let M:=lY L λz=>z.push v;let e2:(ks.take j).toArray.push v=(ks.take j++[v]).toArray:=by simp
  rw[e2] at M;show am (rfl,?_,?_,_,by rw[ek];show M)
  ·let⟨N,t1,rfl,k1⟩:=S
   show(_,t2,rfl,λy o n e=> ?_);rw[fz _ _ _ _ (λz=>n (by rw[z];simp))];show u y o (k1 y o n e)
  ·change(l.update g _).get? a=_
   rw[fz _ _ _ _ C.symm];show u _ _ t
 case fin=>
  rintro d ⟨S,t,c,hc⟩;rw[gE,oy (by lk)] at hc;show ah (rS hc J ?_);show Ia hc t C hl D (λl Q q=>U l d S Q q) (λp hΓ=>R p d hΓ S) Y hm λh' r c' h N l h3 h4 h5=> ?_;show aax _ r c' h (S.trans (h',d.toks,J,λy o n e=>l y o (λz=>n (by rw[z];simp)) (λz=>n (by rw[z];simp)) e)) N h3 h4 h5
def NN(l:s.heap.get? a=ag (eP "list" vs.toArray n))(hl:ks.length=vs.length)(H:vs.length<=bf)
  (N:∀(i:Nat) v k,vs[i]?=ag v->ks[i]?=ag k->∀d:br,St [a] s d->aW (bp prog w) A (call f [v]) (Back s k d.heap) (λ_ _=>False) d)
  (O:2<=ks.length->∀d:br,St [a] s d->∀Q:Eo->br->Prop,Q (lN b) d->aW (bp prog w) A (El ks.toArray) Q E d)
  (R:∀p d,p.In A->St [a] s d->AA (bp prog w) p d b m rk)(T:ks.map rk=rs.map ag)(U:∀r∈rs,r<m)
  (h:∀d t c (j:aa (Nat×aE)),St [a] s d->d.heap.get? a=ag (eP "list" t c)->t.toList=j.map (·.2)->j.Perm (rs.zip vs)->
   j.Pairwise (λx y=>x.1<=y.1)->P (.done (.ret .none)) d):aW (bp prog w) A (yJ a f aA) P E s:=by
 let Y:=H;rw[dN] at Y;let I:=lY l λ_=>(#[]:af aE);unfold yJ;show ah (rS l J ?_);show ah (qj l J ?_ (by rw[bj,dN];lk) (bW _));show ah (Sx I J ?_);show ah (sO ?_ (by change vs.length<=_;rw[dN];lk));show ah (uP ?_ (bW _));show dD ?_;generalize B:((s.heap.update a (iE λ_=>(#[]:af aE))).push (eP "tuple" vs.toArray 0))=g;let L:g.objs.size=s.heap.objs.size+1:=by rw[<-B,U3,AL]
 let hga:g.get? a=ag (eP "list" #[] (if(#[]:af aE).size==vs.toArray.size then n else n+1)):=by rw[<-B];show al _ I
 let hgo:∀y o,y≠a->s.heap.get? y=ag o->g.get? y=ag o:=λy o u e=>by
  rw[<-B];show al _ ?_;rw[fz _ _ _ _ u];show e
 let lift:∀d:br,St [a,g.objs.size] {s with heap:=g.push (eP "list" #[] 0)} d->St [a] s d:=λd x=>by
  let⟨C,t1,rfl,k1⟩:=x;show(C,t1,J,λy o u e=>k1 y o (λz=> ?_) (al _ (hgo y o (by simpa using u) e)));let q:=aI e;rcases aT.mp z with z|z
  ·show u (by rw[z];simp)
  ·let M:=bG.mp z
   rw[L] at M;rw[M] at q;show absurd q (Nat.not_lt.mpr (kX _))
 show NO (aG _ rfl) (al _ hga) (by rw[L];show cZ (oH (aI l))) hl H
  (λi v k C D d S=> ?_) (λD d S=>O D d (lift d S)) (λp d hΓ S=>R p d hΓ (lift d S)) T U λd t c j S=>h d t c j (lift d S)
 show eO (N i v k C D d (lift d S)) (λr s'' q=>q) λ_ _ z=>z
end
open Im (im)
section
universe b
variable{a:az}{vs:aa aE}{rs:aa Nat}{b:Bool}{n m:Nat}{P:YV->br->Prop}
def KD(p:Nat->aE->cT->Prop)(O:∀i k h l,p i k h->(∀b o,b≠a->b≠g->h.get? b=ag o->l.get? b=ag o)->p i k l)
  (hk:s.heap.get? g=ag (eP "list" #[] 0))(ha:s.heap.get? a=ag (eP "list" #[] T))(U:g≠a)(Y:vs.length<=bf)
  (turn:∀i v,vs[i]?=ag v->∀d:br,St [a,g] s d->g<d.heap.objs.size->aW (bp prog w) A (call aaC [v]) (λr H=>p i r H.heap/\∃l tk,H={s with heap:=l,toks:=tk}/\∀b o,d.heap.get? b=ag o->l.get? b=ag o) (λ_ _=>False) d)
  (fin:∀(f:aa aE) d,St [a,g] s d->f.length=vs.length->(∀i k,f[i]?=ag k->p i k d.heap)->∃I:aE->ae Nat,
   (2<=f.length->∀Q:Eo->br->Prop,Q (lN b) d->aW (bp prog w) A (El f.toArray) Q E d)/\(∀Γ:Ctx,Γ.In A->AA (bp prog w) Γ d b m I)/\f.map I=rs.map ag)(hm:∀r∈rs,r<m)
  (h:∀d u c (t:aa (Nat×aE)),St [a,g] s d->d.heap.get? a=ag (eP "list" u c)->u.toList=t.map (·.2)->t.Perm (rs.zip vs)->
   t.Pairwise (λx y=>x.1<=y.1)->P (.done (.ret .none)) d):aW (bp prog w) A (Sz a aaC aA vs.toArray T (.ref g)) P E s:=by
 let hz2:=Y;rw[dN] at hz2;unfold Sz;show ah (jp ?_);first
  |rw[qR]
  |(rw[<-nL];simp![L5])
 show ah (ksk_fold (λi d=>St [a,g] s d/\d.heap.get? a=ag (eP "list" #[] T)/\∃f c,f.length=i/\(∀j k,f[j]?=ag k->p j k d.heap)/\d.heap.get? g=ag (eP "list" f.toArray c)) vs 0 s (St.refl _ _,ha,[],0,rfl,(λj k e=>by simp at e),hk) ?turn ?fin);case turn=>
  rintro j x d hx ⟨S,L,f,c,hl,M,hc⟩;rw[gE] at hl⊢;let hj:j<vs.length:=(List.getElem?_eq_some_iff.mp hx).1;show ah (iV (eO (turn j x hx d S (aI hc)) (λv H q=> ?_) λ_ _ z=>z.elim));let⟨hv,B,t2,rfl,C⟩:=q;let hc2:=C _ _ hc;show ah (qj hc2 rfl ?_ (by rw[bj,dN];lk) (by rw[Bh,bj,dN];lk));let hc3:=lY hc2 λz=>z.push v;let e2:f.toArray.push v=(f++[v]).toArray:=by simp
  rw[e2] at hc3;let D:∀b o,b≠g->B.get? b=ag o->(B.update g (iE λz=>z.push v)).get? b=ag o:=λb o n e=>by
   rw[fz _ _ _ _ n];show e
  show am (rfl,?_,?_,f++[v],_,by rw[bt,hl];rfl,λi k e=> ?_,hc3)
  ·let⟨h1,t1,rfl,k1⟩:=S
   show(_,t2,rfl,λy o n e=>D y o (λz=>n (by rw[z];simp)) (C y o (k1 y o n e)))
  ·show D _ _ U.symm (C _ _ L)
  ·by_cases hi:i<f.length
   ·rw[mR hi] at e
    show O i k _ _ (M i k e) λb o n1 N q=>D b o N (C b o q)
   ·rw[mf (by lk)] at e
    let hi0:i=f.length:=by
     rcases yP (i - f.length) with z|z
     ·lk
     ·rw[b8 (by simp;lk)] at e;cases e
    subst hi0;rw[JU] at e;let e':=aJ e;subst e';rw[hl];show O j v _ _ hv λb o n1 N q=>D b o N q
 case fin=>
  rintro d ⟨S,L,f,c,hl,M,hc⟩;rw[gE] at hl;let⟨I,hkk,R,hr⟩:=fin f d S hl M;show ah (rS hc J ?_);show Ia hc L U hl Y hkk R hr hm λl u c' t h1 B h3 h4 h5=> ?_;show h _ u c' t (S.trans (l,d.toks,J,λy o n e=>B y o (λz=>n (by rw[z];simp)) (λz=>n (by rw[z];simp)) e)) h1 h3 h4 h5
def KC(j:Nat->aE->cT->Prop)(u:s.heap.get? a=ag (eP "list" vs.toArray n))(L:vs.length<=bf)
  (U:∀i k h l,j i k h->(∀b o,b≠a->b≠s.heap.objs.size+1->h.get? b=ag o->l.get? b=ag o)->j i k l)
  (Y:∀i (v:aE),vs[i]?=ag v->∀d:br,St [a] s d->s.heap.objs.size+1<d.heap.objs.size->aW (bp prog w) A (call aav [v]) (λr H=>j i r H.heap/\∃l tk,H={s with heap:=l,toks:=tk}/\∀b o,d.heap.get? b=ag o->l.get? b=ag o) (λ_ _=>False) d)
  (fin:∀(f:aa aE) d,St [a] s d->f.length=vs.length->(∀i k,f[i]?=ag k->j i k d.heap)->∃M:aE->ae Nat,
   (2<=f.length->∀Q:Eo->br->Prop,Q (lN b) d->aW (bp prog w) A (El f.toArray) Q E d)/\(∀N:Ctx,N.In A->AA (bp prog w) N d b m M)/\f.map M=rs.map ag)(hm:∀r∈rs,r<m)
  (h:∀d B c (p:aa (Nat×aE)),St [a] s d->d.heap.get? a=ag (eP "list" B c)->B.toList=p.map (·.2)->p.Perm (rs.zip vs)->
   p.Pairwise (λx y=>x.1<=y.1)->P (.done (.ret .none)) d):aW (bp prog w) A (yJ a aav aA) P E s:=by
 let hz2:=L;rw[dN] at hz2;let O:=lY u λ_=>(#[]:af aE);unfold yJ;show ah (rS u J ?_);show ah (qj u J ?_ (by rw[bj,dN];lk) (bW _));show ah (Sx O J ?_);show ah (sO ?_ (by change vs.length<=_;rw[dN];lk));show ah (uP ?_ (bW _));show dD ?_;generalize I:((s.heap.update a (iE λ_=>(#[]:af aE))).push (eP "tuple" vs.toArray 0))=g;let C:g.objs.size=s.heap.objs.size+1:=by rw[<-I,U3,AL]
 let hga:g.get? a=ag (eP "list" #[] (if(#[]:af aE).size==vs.toArray.size then n else n+1)):=by rw[<-I];show al _ O
 let hgo:∀y o,y≠a->s.heap.get? y=ag o->g.get? y=ag o:=λy o D e=>by
  rw[<-I];show al _ ?_;rw[fz _ _ _ _ D];show e
 let lift:∀d:br,St [a,g.objs.size] {s with heap:=g.push (eP "list" #[] 0)} d->St [a] s d:=λd x=>by
  let⟨t,t1,rfl,k1⟩:=x;show(t,t1,J,λy o D e=>k1 y o (λz=> ?_) (al _ (hgo y o (by simpa using D) e)));let q:=aI e;rcases aT.mp z with z|z
  ·show D (by rw[z];simp)
  ·let T:=bG.mp z
   rw[C] at T;rw[T] at q;show absurd q (Nat.not_lt.mpr (kX _))
 show KD j (λi k h0 t x y=>U i k h0 t x λb o n1 n2=>y b o n1 (by rw[C];show n2)) (aG _ rfl) (al _ hga) (by rw[C];show cZ (oH (aI u))) L
  (λi v t d S hl=> ?_) (λf d S=>fin f d (lift d S)) hm λd B c p S=>h d B c p (lift d S)
 show eO (Y i v t d (lift d S) (by rw[<-C];show hl)) (λr H q=>q) λ_ _ z=>z
end
end mY
namespace L2
open PySem PySem.Spec PyProof.Rows
abbrev Key:=Sum Int cX
def As:Key->aE->Bool
 | .inl k,v=>rL k v
 | .inr x,v=>Ta x v
def acv(w:World):Key->Int
 | .inl k=>hashInt k
 | .inr x=>hashStr w x
def jl:∀{k:Key} {v:aE},As k v=aC->(∃i t,k=cy i/\v=sR i t)\/(∃x t,k=zX x/\v=zW x t)
 | .inl i,v,h=>by
  let⟨t,e⟩:=yN (k:=i) (v:=v) h;show .inl (i,t,J,e)
 | .inr x,v,h=>by
  let⟨t,e⟩:=Value.isStrOf_shape (x:=x) (v:=v) h;show .inr (x,t,J,e)
def Oi(i:Int)(t:V3):As (.inl i) (.int i t)=aC:=by simp[As,rL]
def Oh(x:cX)(t:V3):As (.inr x) (.str x t)=aC:=by simp[As,Ta]
def Xn(a b:Int):decide ((cy a:Key)=cy b)=(a==b):=by
 by_cases e:a=b
 ·subst e;simp
 ·let h:¬(cy a:Key)=cy b:=λq=>e (Hk q)
  rw[decide_eq_false h];show(beq_eq_false_iff_ne.mpr e).symm
def Xk(a b:cX):decide ((zX a:Key)=zX b)=decide (a=b):=by
 by_cases e:a=b
 ·subst e;simp
 ·let h:¬(zX a:Key)=zX b:=λq=>e (Sum.inr.inj q)
  rw[decide_eq_false h,decide_eq_false e]
def Xm(a:Int)(b:cX):decide ((cy a:Key)=zX b)=aA:=decide_eq_false (λq=>nomatch q)
def Xl(a:cX)(b:Int):decide ((zX a:Key)=cy b)=aA:=decide_eq_false (λq=>nomatch q)
def iO(prog:bq)(w:World):PySem.KeyKind prog w Key where
 is:=As
 hash:=acv w
 inj:=λv a b B z=>by
  rcases jl B with⟨i,t,rfl,rfl⟩|⟨x,t,rfl,rfl⟩
  ·rcases jl z with⟨j,u,rfl,e⟩|⟨y,u,rfl,e⟩
   ·injection e with n _;rw[n]
   ·show nomatch e
  ·rcases jl z with⟨j,u,rfl,e⟩|⟨y,u,rfl,e⟩
   ·show nomatch e
   ·injection e with n _;rw[n]
 byValue:=λk v h=>by
  rcases jl h with⟨i,t,rfl,rfl⟩|⟨x,t,rfl,rfl⟩<;>rfl
 pyHash:=λq h=>by
  rcases jl q with⟨i,t,rfl,rfl⟩|⟨x,t,rfl,rfl⟩
  ·show X0 h
  ·show wpAny_pyHash_str h
 eqBool:=λD q h=>by
  rcases jl D with⟨i,t,rfl,rfl⟩|⟨x,t,rfl,rfl⟩
  ·rcases jl q with⟨j,u,rfl,rfl⟩|⟨y,u,rfl,rfl⟩
   ·rw[Xn] at h;show wpAny_eqBool_int h
   ·rw[Xm] at h;show FZ i t y u _ _ _ _ h
  ·rcases jl q with⟨j,u,rfl,rfl⟩|⟨y,u,rfl,rfl⟩
   ·rw[Xl] at h;show FY x t j u _ _ _ _ h
   ·rw[Xk] at h;show wpAny_eqBool_str h
 «strs»:=λk x t v h=>by
  rcases jl h with⟨i,u,rfl,e⟩|⟨y,u,rfl,e⟩
  ·show nomatch e
  ·injection e with n _
   subst n;cases v<;>rfl
def IU(prog:bq)(w:World)(i:Int)(t:V3):(iO prog w).is (.inl i) (.int i t)=aC:=Oi i t
def IT(prog:bq)(w:World)(x:cX)(t:V3):(iO prog w).is (.inr x) (.str x t)=aC:=Oh x t
inductive V where
 |jn|bl(b:Bool)|int(i:Int)|str(x:Str)|Hr(b:Array UInt8)|flt(b:UInt64)|ref(a:Addr)|ty(n:String)
 deriving DecidableEq
def RelV:V->aE->Prop
 | .jn,u=>u=dJ
 | .bl b,u=>u=oX b
 | .int i,u=>∃t,u=sR i t
 | .str x,u=>∃t,u=zW x t
 | .Hr b,u=>∃t,u=V2 b t
 | .flt b,u=>∃t,u=V1 b t
 | .ref a,u=>u=aK a
 | .ty n,u=>u=ke n
abbrev eD:aa V->aa aE->Prop:=fG RelV
theorem eD.length(r:eD xs j):xs.length=j.length:=c9 r
def eD.get:∀{xs:aa V} {j:aa aE} {i:Nat} {x:V},eD xs j->xs[i]?=ag x->∃u,j[i]?=ag u/\RelV x u:=by
 intro xs j i x z;induction z generalizing i with
 |nil=>
  intro e;simp at e
 |cons r t n=>
  intro e;cases i with
  |zero=>
   simp at e;subst e;show(_,J,r)
  |succ i=>
   let⟨u,h1,h2⟩:= @n i (by simpa using e);show(u,by simpa using h1,h2)
theorem eD.set(r:RelV x u):∀{xs:aa V} {j:aa aE} (i:Nat),eD xs j->eD (xs.set i x) (j.set i u)
 |_,_,_,.nil=>.nil
 |_,_,0,.cons _ t=>.cons r t
 |_,_,i+1,.cons q t=>.cons q (eD.set r i t)
def eD.append:∀{xs ys:aa V} {j n:aa aE},eD xs j->eD ys n->eD (xs++ys) (j++n):=by
 intro _ _ _ _ z;induction z with
 |nil=>
  intro s;show s
 |cons r t q=>
  intro s;show .cons r (q s)
theorem eD.take:∀{xs:aa V} {j:aa aE} (n:Nat),eD xs j->eD (xs.take n) (j.take n)
 |_,_,0,_=>.nil
 |_,_,_+1,.nil=>.nil
 |_,_,n+1,.cons r t=>.cons r (eD.take n t)
theorem eD.drop:∀{xs:aa V} {j:aa aE} (n:Nat),eD xs j->eD (xs.drop n) (j.drop n)
 |_,_,0,r=>r
 |_,_,_+1,.nil=>.nil
 |_,_,n+1,.cons _ t=>eD.drop n t
def nE:ae V->ae aE->Prop
 |some v,ag u=>RelV v u
 |none,au=>True
 |_,_=>False
def KV{κ:Type}:aa (κ×V)->aa (κ×aE)->Prop:=fG λp q=>p.1=q.1/\RelV p.2 q.2
def kV:Key->V
 | .inl i=>.int i
 | .inr x=>.str x
inductive HO where
 |bZ(xs:List V)
 |dC(xs:List V)
 |dK(kvs:List (Key×V))|dT(kvs:List (List fq.NK×V))
 |set(S:Int->Bool)(n:Nat)
 |lM(C dx:Addr)(fs:List (Str×V))
 |own(x:Addr)
 |xd(fs:List (Str×V))
 |met(f x:Addr)
 |rng(lo hi:Int)
 |lH(o:Obj)(u:HO)
 |oY(ps:Array Value)
 |ext(φ:Heap->Prop)
abbrev Hp:=az->ae HO
def Se(H:Hp):fq.NK->V->Prop
 | .inl i,v=>v=.int i
 | .inr j,v=>∃b,v=.ref b/\H b=ag (.dC (j.map V.int))
def jo(H:Hp)(ks:aa fq.NK)(a:az):Prop:=∃j,H a=ag (.dC j)/\fG (Se H) ks j
def Se.bA(j:∀b xs,H b=ag (.dC xs)->U b=ag (.dC xs)):∀{k:fq.NK} {v:V},Se H k v->Se U k v
 | .inl _,_,x=>x
 | .inr _,_,(b,e,h)=>(b,e,j b _ h)
theorem acZ.bA(n:∀b xs,H b=ag (.dC xs)->U b=ag (.dC xs)):∀{ks:aa fq.NK} {j:aa V},fG (Se H) ks j->fG (Se U) ks j:=by
 intro _ _ z;induction z with
 |nil=>
  show .nil
 |cons a r q=>
  show .cons (a.bA n) (q)
theorem jo.bA(j:∀b xs,H b=ag (.dC xs)->U b=ag (.dC xs))(x:jo H ks a):jo U ks a:=let(n,h,r):=x;(n,j a _ h,acZ.bA j r)
def bD(H:Hp)(a:az)(o:HO):Hp:=λb=>if b=a then ag o else H b
def aw:bD H a o a=ag o:=by unfold bD;rw[aH J]
def aZ(h:b≠a):bD H a o b=H b:=by unfold bD;rw[aD h]
def tF:bD (bD H a o) a u=bD H a u:=by
 funext b;unfold bD;split<;>rfl
def Fv{H:Hp}(h:H a=ag o)(h':H b=ag u)(d:o≠u):a≠b:=by
 intro e;subst e;rw[h] at h';show d (aJ h')
def bI{H:Hp}(h:H a=ag o)(h':H b=au):a≠b:=by
 intro e;subst e;rw[h] at h';cases h'
section
variable(P:bq)(w:World)
def fP(H:Hp)(h:cT)(a:az):HO->Prop
 | .bZ xs=>xs.length<=bf/\∃afH n,eD xs afH/\h.get? a=ag {cls:=.type "list",data:=.seq afH.toArray n}
 | .dC xs=>xs.length<=bf/\∃afH:aa aE,eD xs afH/\yQ h a afH.toArray
 | .dK kvs=>kvs.length<=bf/\(a==dM)=aA/\∃z,KV kvs z/\h.DictOf (iO P w) a z
 | .dT kvs=>kvs.length<=bf/\(a==dM)=aA/\∃xs:aa (aa fq.NK×az×aE),
   fG (λp q=>p.1=q.1/\jo H p.1 q.2.1/\RelV p.2 q.2.2) kvs xs/\
   ∃o es ep,h.get? a=ag o/\o.ExactDict/\o.data=.dict es ep/\es.toList=xs.map (JO (fq.fC P w))/\(xs.map (·.1)).Nodup
 | .set S n=>h.SetOf (intKind P w) a S n
 | .lM C dx fs=>H dx=ag (.own a)/\fs.length<=1000/\dx≠a/\h.get? a=ag (jM C dx)/\
   ∃mA,h.Ns1 dx mA/\(∀f,nE (fs.lookup f) (mA f))/\Hl mA (fs.map (·.1))
 | .own _=>∃o,h.get? a=ag o
 | .xd fs=>∃mA,h.Ns1 a mA/\∀f,nE (fs.lookup f) (mA f)
 | .rng lo hi=>∃t u v,h.get? a=ag {cls:=.type "range",data:=.fields (List.toArray [.int lo t,.int hi u,.int 1 v])}
 | .lH o u=>h.get? a=ag o/\fP H h a u
 | .oY ps=>h.get? a=ag {cls:=.none,data:=.fields ps}
 | .met f x=>h.get? a=ag (W.methodObj (.ref f) (.ref x))
 | .ext j=>j h/\(∃o,h.get? a=ag o)/\∀h1 h2:cT,j h1->(∀o,h1.get? a=ag o->h2.get? a=ag o)->j h2
def sL(H:Hp)(h:cT):Prop:=∀a o,H a=ag o->fP P w H h a o
end
section
variable{P:bq}{w:World}{H U:Hp}{h h':cT}{a:az}{o:HO}
theorem fP.lt(x:fP P w H h a o):a<h.objs.size:=by
 cases o with
 |bZ xs=>let⟨_,_,_,_,e⟩:=x;show aI e
 |dC xs=>let⟨_,_,_,p⟩:=x;show p.lt
 |dK kvs=>let⟨_,_,_,_,o,_,_,e,_⟩:=x;show aI e
 |dT kvs=>let⟨_,_,_,_,o,_,_,e,_⟩:=x;show aI e
 |set S n=>let⟨o,_,_,_,e,_⟩:=x;show aI e
 |lM C dx fs=>let⟨_,_,_,e,_⟩:=x;show aI e
 |own y=>let⟨_,e⟩:=x;show aI e
 |xd fs=>let⟨_,⟨_,_,_,e,_⟩,_⟩:=x;show aI e
 |rng lo hi=>let⟨_,_,_,e⟩:=x;show aI e
 |lH j u=>let⟨e,_⟩:=x;show aI e
 |oY ps=>show aI (show h.get? a=ag _ from x)
 |met f y=>show aI (show h.get? a=ag _ from x)
 |ext q=>let⟨_,⟨_,e⟩,_⟩:=x;show aI e
def Paired.Rj:∀{j:aa B} {n:aa D},fG F j n->(∀a b,F a b->G a b)->fG G j n:=by
 intro _ _ z;induction z with
 |nil=>
  intro _;show .nil
 |cons r t q=>
  intro f;show .cons (f _ _ r) (q f)
def fP.qT(x:fP P w H h a o)(k:∀b u,(b=a\/H b=ag (.own a))->h.get? b=ag u->h'.get? b=ag u)
  (D:∀b,H b=ag (.own a)->U b=ag (.own a))(I:∀b xs,H b=ag (.dC xs)->U b=ag (.dC xs)):fP P w U h' a o:=by
 induction o with
 |bZ xs=>let⟨z,afH,n,r,e⟩:=x;show(z,afH,n,r,k _ _ (.inl rfl) e)
 |dC xs=>let⟨z,afH,r,j,e,c⟩:=x;show(z,afH,r,j,k _ _ (.inl rfl) e,c)
 |dK kvs=>let⟨z,y,L,r,j,es,ep,e,c⟩:=x;show(z,y,L,r,j,es,ep,k _ _ (.inl rfl) e,c)
 |dT kvs=>
  let⟨z,y,xs,r,j,es,ep,e,c⟩:=x;show(z,y,xs,Paired.Rj r λp q z=>(z.1,jo.bA I z.2.1,z.2.2),j,es,ep,k _ _ (.inl rfl) e,c)
 |set S n=>let⟨j,es,ep,t,e,c⟩:=x;show(j,es,ep,t,k _ _ (.inl rfl) e,c)
 |lM C dx fs=>
  let⟨d,z,M,e,mA,⟨B,es,ep,N,c⟩,r⟩:=x;show(D _ d,z,M,k _ _ (.inl rfl) e,mA,(B,es,ep,k _ _ (.inr d) N,c),r)
 |own y=>let⟨j,e⟩:=x;show(j,k _ _ (.inl rfl) e)
 |xd fs=>let⟨mA,⟨B,es,ep,e,c⟩,r⟩:=x;show(mA,(B,es,ep,k _ _ (.inl rfl) e,c),r)
 |rng lo hi=>let⟨t,u,v,e⟩:=x;show(t,u,v,k _ _ (.inl rfl) e)
 |lH j u ih=>let⟨e,q⟩:=x;show(k _ _ (.inl rfl) e,ih q)
 |oY ps=>
  let e:=x;show k a _ (.inl rfl) e
 |met f y=>
  let e:=x;show k a _ (.inl rfl) e
 |ext φ=>let⟨p,⟨o,e⟩,st⟩:=x;show(st _ _ p λo q=>k _ _ (.inl rfl) q,(o,k _ _ (.inl rfl) e),st)
theorem sL.lt(x:sL P w H h)(e:H a=ag o):a<h.objs.size:=(x a o e).lt
def sL.fresh(x:sL P w H h)(e:h.objs.size<=a):H a=au:=by
 cases q:H a with
 |none=>rfl
 |some u=>show absurd (bu (x.lt q) e) (gY _)
def sL.nV(x:sL P w H h)(k:∀b u,h.get? b=ag u->h'.get? b=ag u):sL P w H h':=λa o e=>
 (x a o e).qT (λb u _ q=>k b u q) (λ_ q=>q) λ_ _ q=>q
def sL.pL(x:sL P w H h)(k:∀b u,h.get? b=ag u->h'.get? b=ag u)(z:h.objs.size<=a)(B:fP P w (bD H a o) h' a o):sL P w (bD H a o) h':=λb u e=>by
 let j:=x.fresh z;by_cases n:b=a
 ·subst n;rw[aw] at e;cases e;show B
 ·rw[aZ n] at e
  show(x b u e).qT (λc v _ q=>k c v q) (λc q=>by rw[aZ (bI q j)];show q) λc xs q=>by rw[aZ (bI q j)];show q
end
def Rd(H:Hp)(a:az)(u:HO):Prop:=H a=ag u\/∃o,H a=ag (.lH o u)
def Rd.ok(r:Rd H a u)(x:sL P w H h):fP P w H h a u:=by
 rcases r with r|⟨o,r⟩
 ·show x a u r
 ·let⟨_,q⟩:=x a _ r
  show q
def UU:ae HO->Prop
 |some (.bZ _)=>True
 |some (.dK _)=>True
 |some (.dT _)=>True
 |some (.set _ _)=>True
 |some (.lM _ _ _)=>True
 |some (.ext _)=>True
 |_=>False
section
variable{P:bq}{w:World}{H:Hp}{h h':cT}{x e:az}{o':HO}
def sL.pQ(ok:sL P w H h)(j:UU (H x))(D:e=x\/H e=ag (.own x))(k:∀b u,b≠e->h.get? b=ag u->h'.get? b=ag u)(M:∃u,h'.get? e=ag u)
  (N:fP P w (bD H x o') h' x o'):sL P w (bD H x o') h':=λb u q=>by
 let I:∀c y,H c=ag (.own y)->c≠x:=λc y r z=>by subst z;rw[r] at j;show j
 let aav:∀c xs,H c=ag (.dC xs)->c≠x:=λc xs r z=>by subst z;rw[r] at j;show j
 by_cases n:b=x
 ·subst n;rw[aw] at q;cases q;show N
 ·rw[aZ n] at q
  by_cases B:b=e
  ·let L:H b=ag (.own x):=by
    rcases D with z|z
    ·show absurd (B.trans z) n
    ·rw[B];show z
   rw[q] at L;cases L;let⟨v,hv⟩:=M;show(v,by rw[B];show hv)
  ·show(ok b u q).qT (λc v hc r=>k c v ?_ r) (λc r=>by rw[aZ (I c b r)];show r) λc xs r=>by rw[aZ (aav c xs r)];show r
   rcases hc with rfl|hc
   ·show B
   ·rintro rfl
    rcases D with z|z
    ·show I c b hc z
    ·rw[hc] at z;cases z;show n J
end
structure Un(fs ex:List Addr)(H U:Hp)(h h':Heap):Prop where
 keep:∀b o,h.get? b=some o->H b=none->b∉fs->b∉ex->h'.get? b=some o
 slot:∀b o,h.get? b=some o->H b=none->b∈fs->b∉ex->∃sl,h'.get? b=some {o with slots:=sl}
 free:∀b o,h.get? b=some o->H b=none->b∉ex->U b=none
 there:∀b o,h.get? b=some o->b∉ex->∃o',h'.get? b=some o'
 tups:∀b xs,H b=some (.dC xs)->U b=some (.dC xs)
 frzs:∀b o u,H b=some (.lH o u)->U b=some (.lH o u)
 tbls:∀b ps,H b=some (.oY ps)->∃more,U b=some (.oY (ps++more))
section
variable{fs af2 ex af4:aa az}{H O H2:Hp}{h h1 h2 h':cT}{a x e:az}{o:HO}
def Un.any(u:Un fs ex H O h h1)(q:h.get? b=ag j)(n:H b=au)(z:b∉ex):∃D,h1.get? b=ag {j with slots:=D}:=by
 by_cases B:b∈fs
 ·show u.slot b j q n B z
 ·show(j.slots,u.keep b j q n B z)
def Un.nV(k:∀b u,h.get? b=ag u->h'.get? b=ag u):Un fs ex H H h h':=
 (λb j q _ _ _=>k b j q,λb j q _ _ _=>(j.slots,k b j q),λ_ _ _ n _=>n,λb j q _=>(j,k b j q),λ_ _ q=>q,λ_ _ _ q=>q,λ_ ps q=>(#[],by rw[q];simp))
def Un.refl:Un fs ex H H h h:=Un.nV λ_ _ q=>q
def Un.pL(k:∀b u,h.get? b=ag u->h'.get? b=ag u)(z:h.objs.size<=a)(j:H a=au):Un fs ex H (bD H a o) h h' where
 keep:=λb u q _ _ _=>k b u q
 slot:=λb u q _ _ _=>(u.slots,k b u q)
 free:=λb u q n _=>by rw[aZ (bw (bu (aI q) z))];show n
 there:=λb u q _=>(u,k b u q)
 tups:=λb xs q=>by rw[aZ (bI q j)];show q
 frzs:=λb u xs q=>by rw[aZ (bI q j)];show q
 tbls:=λb ps q=>(#[],by rw[aZ (bI q j),q];simp)
def Un.pQ(j:UU (H x))(M:e=x\/H e=ag (.own x))(k:∀b u,b≠e->h.get? b=ag u->h'.get? b=ag u)(N:∃u,h'.get? e=ag u):Un fs ex H (bD H x o) h h':=by
 let D:∀b,H b=au->b≠x:=λb n z=>by subst z;rw[n] at j;show j
 let I:∀b,H b=au->b≠e:=λb n z=>by
  subst z;rcases M with r|r
  ·show D b n r
  ·rw[n] at r;cases r
 let B:∀b u,H b=ag u->¬UU (ag u)->b≠x:=λb u q nm z=>by subst z;rw[q] at j;show nm j
 show(λb u q n _ _=>k b u (I b n) q,λb u q n _ _=>(u.slots,k b u (I b n) q),λb u q n _=>by rw[aZ (D b n)];show n,λb u q _=> ?_,
  λb xs q=>by rw[aZ (B b _ q λz=>z)];show q,λb u xs q=>by rw[aZ (B b _ q λz=>z)];show q,λb ps q=>(#[],by rw[aZ (B b _ q λz=>z),q];simp))
 by_cases L:b=e
 ·subst L;show N
 ·show(u,k b u L q)
end
def trk(h:cT)(H:Hp):aa az:=(fA h.objs.size).filter λa=>(H a).isSome
def Do(h:cT)(H:Hp):cT:=W.hideAll h (trk h H)
def Oq(h:cT)(H:Hp):(Do h H).objs.size=h.objs.size:=W.hideAll_size _ _
def RD(e:h.get? b=ag o)(n:H b=au):(Do h H).get? b=ag o:=
 W.hideAll_get _ e λj=>by
  let q:(H b).isSome=aC:=(cq.mp j).2;rw[n] at q;simp at q
def Uk(e:(Do h H).get? b=ag o):h.get? b=ag o/\H b=au:=by
 let j:h.get? b=ag o:=W.of_hideAll (trk h H) e;show(j,?_);cases q:H b with
 |none=>rfl
 |some x=>
  let n:b∈trk h H:=cq.mpr (iI.mpr (aI j),by simp[q]);let z:(Do h H).get? b=au:=W.hideAll_none (trk h H) n;rw[z] at e;cases e
structure Mod(K:PySem.W.Frag)(mg:Sv)(base:Heap):Prop where
 Yw:K.In base
 AR:base.Ns mainGlobals mg
 blt:∃mb,base.Ns builtinsNs mb/\∀x:Str,x≠"__name__"->mb x=bootBuiltins x
 nolimit:base.NoLimit
structure Cx where
 prog:Program
 w:World
 K:PySem.W.Frag
 mg:Sv
 base:Heap
 A:Around
 N:List Str
 s_0:Shared
 H_0:Hp
 env:Env
 outer:List Env
 stack:List Env
 ex:List Addr
 fn:Str->Bool
 calm:Bool
 pn:La
 xe:Vp
def RI(l:aa L8):aa az:=l.filterMap (·.frame)
abbrev Cx.fs(X:Cx):aa az:=RI X.outer
def YM(j:nh)(x:cX):Prop:=j.names.lookup x=ag .local\/j.names.lookup x=ag .cell\/j.names.lookup x=ag .free
def Loc(j:nh)(x:cX):Prop:=j.names.lookup x=ag .local\/j.names.lookup x=ag .cell
def Look(env:L8)(h:cT)(m:Sv)(x:cX)(u:aE):Prop:=
 (env.kindOf x=ag .local/\m x=ag u)\/((env.kindOf x=ag .cell\/env.kindOf x=ag .free)/\∃c,env.cells.lookup x=ag c/\h.IsCell c (ag u))
structure Cx.Ok(X:Cx):Prop where
 mod:Mod X.K X.mg X.base
 kind:X.env.scope.kind=.function
 AR:X.env.globals=mainGlobals
 blt:X.env.builtins=builtinsNs
 above:X.s_0.heap.objs.size<=X.env.locals
 inj:∀x y c,X.env.cells.lookup x=some c->X.env.cells.lookup y=some c->x=y
 has:∀x,(X.env.kindOf x=some .cell\/X.env.kindOf x=some .free)->∃c,X.env.cells.lookup x=some c
 cab:∀x c,X.fn x=true->X.env.cells.lookup x=some c->X.s_0.heap.objs.size<=c
 hd:X.calm=true->X.A.handled=none
 frames:X.A.frames=some X.stack
 stk:X.stack=X.outer\/(X.stack=X.env::X.outer/\X.env.frame=some X.env.locals)
 exf:∀b∈X.ex,b≠X.env.locals/\∀x c,X.env.cells.lookup x=some c->c≠b
 bs:∀b o,X.base.get? b=some o->X.s_0.heap.get? b=some o/\X.H_0 b=none
 UP:X.base.objs.size<=X.s_0.heap.objs.size
 Q9:∀b o,X.base.get? b=some o->b∉X.ex
 RN:∀b∈X.ex,b∉X.fs
 AT:X.s_0.heap.FunFrames X.base X.outer
 Xt:∀b∈X.fs,X.H_0 b=none
structure Inv(X:Cx)(pins:La)(Y:List (Option V))(H:Hp)(s:Shared):Prop where
 ok:X.Ok
 os:s.os=X.s_0.os
 bare:AllBare s.gens
 base:Un X.fs X.ex X.H_0 H X.s_0.heap s.heap
 Dd:∃m,s.heap.Ns X.env.locals m/\∀(i:Nat) (x:Str) (v:V),X.N[i]?=some x->Y[i]?=some (some v)->YM X.env.scope x->∃u,RelV v u/\Look X.env s.heap m x u
 cell:∀x c,X.env.cells.lookup x=some c->∃v,s.heap.IsCell c v
 free:H X.env.locals=none
 sG:∀x c,X.env.cells.lookup x=some c->H c=none
 MB:∀p∈X.pn++pins,s.heap.get? p.1=some p.2/\H p.1=none/\p.1≠X.env.locals/\p.1∉X.fs/\∀v,p.2.data≠.cell v
 fe:sL X.prog X.w H s.heap
 len:Y.length=X.N.length
section
variable{X:Cx}{pins:La}{Y:aa (ae V)}{H U:Hp}{s:br}{h':cT}
def Cx.Ok.acq(ok:X.Ok)(e:X.base.get? b=ag o):b∉X.fs:=λj=>by
 let:=(ok.AT.mem j).1;rw[e] at this;cases this
theorem Inv.bs(I:Inv X pins Y H s):∀b o,X.base.get? b=ag o->s.heap.get? b=ag o/\H b=au:=λb o e=>
 (I.base.keep b o (I.ok.bs b o e).1 (I.ok.bs b o e).2 (I.ok.acq e) (I.ok.Q9 b o e),I.base.free b o (I.ok.bs b o e).1 (I.ok.bs b o e).2 (I.ok.Q9 b o e))
def Inv.bk(I:Inv X pins Y H s):∀b o,X.base.get? b=ag o->s.heap.get? b=ag o:=λb o e=>(I.bs b o e).1
theorem Inv.mod(I:Inv X pins Y H s):Mod X.K X.mg X.base:=I.ok.mod
def Inv.Hq(I:Inv X pins Y H s):X.K.In s.heap:=I.ok.mod.Yw.keeps I.bk
theorem Inv.nolimit(I:Inv X pins Y H s):s.heap.NoLimit:=I.ok.mod.nolimit.keeps I.bk
theorem Inv.lt(I:Inv X pins Y H s):X.env.locals<s.heap.objs.size:=let(_,j,_):=I.Dd;j.lt
def Inv.sz(I:Inv X pins Y H s):X.s_0.heap.objs.size<=s.heap.objs.size:=bC I.ok.above (hJ I.lt)
def Inv.acp(I:Inv X pins Y H s)(h:s.heap.objs.size<=a):a∉X.fs:=λj=>by
 let⟨_,o,n,_⟩:=I.ok.AT.mem j;show absurd (bu (aI n) (bC I.sz h)) (gY _)
def Inv.XJ(I:Inv X pins Y H s):∀x c,X.env.cells.lookup x=ag c->c≠X.env.locals:=λx c e z=>by
 let⟨v,o,j,n⟩:=I.cell x c e;let⟨m,⟨o',es,ep,q,B,_⟩,_⟩:=I.Dd;rw[z,q] at j;cases j;rw[B] at n;cases n
theorem Inv.AT(I:Inv X pins Y H s):s.heap.FunFrames X.base X.outer:=by
 let all:∀l,(∀b∈RI l,b∈X.fs)->X.s_0.heap.FunFrames X.base l->s.heap.FunFrames X.base l:=by
  intro l;induction l with
  |nil=>intro _ _;trivial
  |cons env r B=>
   intro z hl;let⟨D,⟨L,o,j,M,N,hd⟩,hr⟩:_:=hl;let n:L∈X.fs:=z L (by unfold RI;rw[fw,j];show aQ);let⟨sl,e⟩:_:=I.base.slot L o N (I.ok.Xt L n) n λaav=>I.ok.RN L aav n;show(D,(L,_,j,M,e,hd),B (λb q=>z b (by unfold RI;rw[fw,j];show aM _ q)) hr)
 show all X.outer (λ_ q=>q) I.ok.AT
theorem Inv.stack(I:Inv X pins Y H s):s.heap.FunFrames X.base X.stack:=by
 rcases I.ok.stk with e|⟨e,j⟩
 ·rw[e];show I.AT
 ·rw[e]
  let⟨m,n,_⟩:=I.Dd;show .cons (by rw[I.ok.kind];decide) j n ?_ I.AT;show Heap.get?_none_of_le (bC I.ok.UP I.ok.above)
def Inv.Kr(I:Inv X pins Y H s):∀b∈RI X.stack,b∈X.env.locals::X.fs:=λb j=>by
 rcases I.ok.stk with e|⟨e,n⟩
 ·rw[e] at j;show aM _ j
 ·rw[e] at j
  unfold RI at j;rw[fw,n] at j;show j
def Inv.Mg(I:Inv X pins Y H s):∀b∈RI X.stack,H b=au:=λb j=>by
 rcases aT.mp (I.Kr b j) with e|j
 ·rw[e];show I.free
 ·let⟨_,o,n,_⟩:=I.ok.AT.mem j
  show I.base.free b o n (I.ok.Xt b j) λz=>I.ok.RN b z j
def Inv.step{d':Drawn}{ch:aa az}(I:Inv X pins Y H s)
  (L:∀b∈ch,(b∈X.ex\/X.s_0.heap.objs.size<=b)/\b≠X.env.locals/\(∀x c,X.env.cells.lookup x=ag c->c≠b)/\∀p∈X.pn++pins,p.1≠b)
  (aaC:∀b o,b≠X.env.locals->b∉X.fs->b∉ch->s.heap.get? b=ag o->H b=au->h'.get? b=ag o)
  (aaE:∀b o,b≠X.env.locals->b∈X.fs->b∉ch->s.heap.get? b=ag o->H b=au->∃sl,h'.get? b=ag {o with slots:=sl})(aav:∀b o,b∉ch->s.heap.get? b=ag o->H b=au->U b=au)
  (aa0:∀b o,b∉ch->s.heap.get? b=ag o->∃o',h'.get? b=ag o')
  (aa1:∀b xs,H b=ag (.dC xs)->U b=ag (.dC xs))(aa5:∀b o u,H b=ag (.lH o u)->U b=ag (.lH o u))(aa7:∀b ps,H b=ag (.oY ps)->∃more,U b=ag (.oY (ps++more)))
  (ns:∀m,s.heap.Ns X.env.locals m->h'.Ns X.env.locals m)(hok:sL X.prog X.w U h')(hg:Ey g'):
  Inv X pins Y U {s with heap:=h',gens:=g',drawn:=d',toks:=t'}:=by
 let neL:∀b o,X.s_0.heap.get? b=ag o->b≠X.env.locals:=λb o e=>bw (bu (aI e) I.ok.above);let neC:∀b o,X.s_0.heap.get? b=ag o->b∉X.ex->b∉ch:=λb o e j B=>by
  rcases(L b B).1 with z|z
  ·show j z
  ·show absurd (bu (aI e) z) (gY _)
 let aaV:∀x c,X.env.cells.lookup x=ag c->∀v,s.heap.IsCell c v->h'.IsCell c v:=λx c e v (o,D,hd)=>by
  let M:c∉ch:=λz=>(L c z).2.2.1 x c e J;by_cases hc:c∈X.fs
  ·let⟨sl,abc⟩:=aaE c o (I.XJ x c e) hc M D (I.sG x c e)
   show(_,abc,hd)
  ·show(o,aaC c o (I.XJ x c e) hc M D (I.sG x c e),hd)
 show(I.ok,I.os,hg,(λb o e n B j=> ?_,λb o e n B j=> ?_,λb o e n j=> ?_,λb o e j=> ?_,λb xs e=>aa1 b xs (I.base.tups b xs e),λb o xs e=>aa5 b o xs (I.base.frzs b o xs e),λb ps e=> ?_),?_,λx c e=> ?_,?_,λx c e=> ?_,λp hp=> ?_,hok,I.len)
 ·show aaC b o (neL b o e) B (neC b o e j) (I.base.keep b o e n B j) (I.base.free b o e n j)
 ·let⟨sl,q⟩:=I.base.slot b o e n B j
  let⟨sl',N⟩:=aaE b _ (neL b o e) B (neC b o e j) q (I.base.free b o e n j);show(sl',N)
 ·let⟨o',q⟩:=I.base.there b o e j
  show aav b o' (neC b o e j) q (I.base.free b o e n j)
 ·let⟨o',q⟩:=I.base.there b o e j
  show aa0 b o' (neC b o e j) q
 ·let⟨m1,q⟩:=I.base.tbls b ps e
  let⟨m2,N⟩:=aa7 b _ q;show(m1++m2,by rw[N,Array.append_assoc])
 ·let⟨m,hn,hl⟩:=I.Dd
  show(m,ns m hn,λi x v q N e3=> ?_);let⟨u,r,l⟩:=hl i x v q N e3;show(u,r,?_);rcases l with l|⟨k,c,e,z⟩
  ·show .inl l
  ·show .inr (k,c,e,aaV x c e _ z)
 ·let⟨v,z⟩:=I.cell x c e
  show(v,aaV x c e v z)
 ·let⟨m,⟨o,_,_,D,_⟩,_⟩:=I.Dd
  show aav _ o (λz=>(L _ z).2.1 J) D I.free
 ·let⟨v,o,D,hd⟩:=I.cell x c e
  show aav c o (λz=>(L c z).2.2.1 x c e J) D (I.sG x c e)
 ·let⟨e,n,ne,nf,d⟩:=I.MB p hp
  let M:p.1∉ch:=λz=>(L p.1 z).2.2.2 p hp J;show(aaC p.1 p.2 ne nf M e n,aav p.1 p.2 M e n,ne,nf,d)
def Inv.un{t':Nat}(I:Inv X pins Y H s)(u:Un X.fs [] H U s.heap h')(D:sL X.prog X.w U h'):Inv X pins Y U {s with heap:=h',toks:=t'}:=by
 let⟨m,⟨o,es,ep,q,r⟩,_⟩:=id I.Dd;let⟨sl,L⟩:=u.any q I.free (by simp);show I.step (g':=s.gens) (d':=s.drawn) (ch:=[]) (λ_ z=>nomatch z) (λb o _ j _ e n=>u.keep b o e n j (by simp)) (λb o _ j _ e n=>u.slot b o e n j (by simp)) (λb o _ e n=>u.free b o e n (by simp)) (λb o _ e=>u.there b o e (by simp)) u.tups u.frzs u.tbls (λm' M=>by
  let⟨o',N,ep',B,r'⟩:=M;rw[q] at B;cases B;show(_,N,ep',L,r')) D I.bare
def Inv.call{d':Drawn}{ch:aa az}(I:Inv X pins Y H s)(u:Un (RI X.stack) ch H U s.heap h')(L:sL X.prog X.w U h')(M:Ey g')
  (q:∀b∈ch,(b∈X.ex\/X.s_0.heap.objs.size<=b)/\b≠X.env.locals/\(∀x c,X.env.cells.lookup x=ag c->c≠b)/\∀p∈X.pn++pins,p.1≠b):
  Inv X pins Y U {s with heap:=h',gens:=g',drawn:=d',toks:=t'}:=by
 let⟨m,⟨o,es,ep,B,r⟩,_⟩:=id I.Dd;let⟨sl,j⟩:=u.any B I.free λz=>(q _ z).2.1 J;show I.step (ch:=ch) q (λb o j N hc e n=>u.keep b o e n (λz=>(aT.mp (I.Kr b z)).elim j N) hc) (λb o _ _ hc e n=>u.any e n hc) (λb o hc e n=>u.free b o e n hc) (λb o hc e=>u.there b o e hc) u.tups u.frzs u.tbls (λm' hm=>by
  let⟨o',es',ep',D,r'⟩:=hm;rw[B] at D;cases D;show(_,es',ep',j,r')) L M
def Inv.n6{it:az}(I:Inv X pins Y H s)(k:∀b o,b≠it->s.heap.get? b=ag o->h'.get? b=ag o)(D:H it=au)(j:it≠X.env.locals)
  (h1:it∈X.ex\/X.s_0.heap.objs.size<=it)(h2:∀x c,X.env.cells.lookup x=ag c->c≠it)(L:∀p∈X.pn++pins,p.1≠it):Inv X pins Y H {s with heap:=h',toks:=t'}:=by
 let B:∀b u,H b=ag u->b≠it:=λb u e z=>by rw[z,D] at e;cases e
 show I.step (g':=s.gens) (d':=s.drawn) (ch:=[it]) (λb M=> ?_) (λb o _ _ hc e _=>k b o (λz=>hc (by simp[z])) e) (λb o _ _ hc e _=>(o.slots,k b o (λz=>hc (by simp[z])) e)) (λ_ _ _ _ n=>n)
  (λb o hc e=>(o,k b o (λz=>hc (by simp[z])) e)) (λ_ _ e=>e) (λ_ _ _ e=>e) (λb ps e=>(#[],by rw[e];simp)) (λm N=> ?_) (λb u e=> ?_) I.bare
 ·let e:b=it:=by simpa using M
  subst e;show(h1,j,h2,L)
 ·let⟨o,es,ep,ho,r⟩:=N
  show(o,es,ep,k _ o (ff j) ho,r)
 ·show(I.fe b u e).qT (λc v hc q=>k c v ?_ q) (λ_ q=>q) λ_ _ q=>q
  rcases hc with z|z
  ·rw[z];show B b u e
  ·show B c _ z
def Inv.xL(I:Inv X pins Y H s)(t:Nat):Inv X pins Y H {s with toks:=t}:=I.un (h':=s.heap) (t':=t) Un.refl I.fe
theorem Inv.nV(I:Inv X pins Y H s)(k:∀b u,s.heap.get? b=ag u->h'.get? b=ag u):Inv X pins Y H {s with heap:=h',toks:=t'}:=I.un (Un.nV k) (I.fe.nV k)
theorem Inv.pL(I:Inv X pins Y H s)(k:∀b u,s.heap.get? b=ag u->h'.get? b=ag u)(j:s.heap.objs.size<=a)(n:fP X.prog X.w (bD H a o) h' a o):
  Inv X pins Y (bD H a o) {s with heap:=h',toks:=t'}:=I.un (Un.pL k j (I.fe.fresh j)) (I.fe.pL k j n)
theorem Inv.pQ(I:Inv X pins Y H s)(j:UU (H x))(n:e=x\/H e=ag (.own x))(k:∀b u,b≠e->s.heap.get? b=ag u->h'.get? b=ag u)(q:∃u,h'.get? e=ag u)
  (z:fP X.prog X.w (bD H x o) h' x o):Inv X pins Y (bD H x o) {s with heap:=h',toks:=t'}:=I.un (Un.pQ j n k q) (I.fe.pQ j n k q z)
def Inv.ab5(I:Inv X pins Y H s)(hl:j.length=Y.length)(w:∀(i:Nat) v,j[i]?=ag (ag v)->Y[i]?=ag (ag v)):Inv X pins j H s:=
 (I.ok,I.os,I.bare,I.base,let(m,n,q):=I.Dd;(m,n,λi x v z B D=>q i x v z (w i v B) D),I.cell,I.free,I.sG,I.MB,I.fe,hl.trans I.len)
def Inv.MA(I:Inv X pins Y H s)(h:∀p∈j,s.heap.get? p.1=ag p.2/\H p.1=au/\p.1≠X.env.locals/\p.1∉X.fs/\∀v,p.2.data≠.cell v):Inv X j Y H s:=
 (I.ok,I.os,I.bare,I.base,I.Dd,I.cell,I.free,I.sG,λp n=>(bO.mp n).elim (λz=>I.MB p (cw _ z)) (h p),I.fe,I.len)
def CU{N:aa cX}(n:N.Nodup){i j:Nat}{x:cX}(a:N[i]?=ag x)(b:N[j]?=ag x):i=j:=by
 let⟨h1,q⟩:=List.getElem?_eq_some_iff.mp a;let⟨h2,z⟩:=List.getElem?_eq_some_iff.mp b;show(AJ n).mp (q.trans z.symm)
def Ff{aa7:SI}{A:dG}{E:Vp}{i:Nat}{x:cX}{v:V}{u:aE}{Q:Unit->br->Prop}(I:Inv X pins Y H s)(hN:X.N.Nodup)(hi:X.N[i]?=ag x)(D:Loc X.env.scope x)(r:RelV v u)
  (h:∀s',Inv X pins (Y.set i (ag v)) H s'->(∃a,fH a s.heap s'.heap/\(a=X.env.locals\/X.env.cells.lookup x=ag a))->Q () s')(hf:X.fn x=aC\/X.env.scope.names.lookup x=ag .local:=by w_up):aW aa7 A (X4 X.env x u) Q E s:=by
 let⟨m,hn,hl⟩:=id I.Dd;let abb:(X.env.scope.kind==.class||(X.env.scope.kind==.module&&X.env.locals !=X.env.globals))=aA:=by rw[I.ok.kind];rfl
 let aaE:i<Y.length:=by rw[I.len];show(List.getElem?_eq_some_iff.mp hi).1
 let aax:=I.XJ;let aaG:∀{a:az} {h':cT},(∃o,s.heap.get? a=ag o/\H a=au)->fH a s.heap h'->sL X.prog X.w H h':=λ{a h'} ha j b ob e=>by
  let⟨_,_,aaV⟩:=ha;show(I.fe b ob e).qT (λc w' hc q=>(j.2 c ?_).trans q) (λ_ q=>q) λ_ _ q=>q;rintro rfl;rcases hc with rfl|hc
  ·rw[aaV] at e;cases e
  ·rw[aaV] at hc;cases hc
 rcases D with M|M
 ·show wpAny_storeName_local M hn (λh' hn' j=> ?_) abb
  let⟨oL,_,_,hoL,_⟩:=id hn;show h _ (I.ok,I.os,I.bare,(λb o e n hb D=> ?_,λb o e n hb D=> ?_,I.base.free,λb o e D=> ?_,I.base.tups,I.base.frzs,I.base.tbls),(_,hn',λaav y v' B L e3=> ?_),λy c e=> ?_,I.free,I.sG,λp hp=> ?_,aaG (oL,hoL,I.free) j,by simpa using I.len) (_,j,.inl rfl)
  ·show(j.2 b (bw (bu (aI e) I.ok.above))).trans (I.base.keep b o e n hb D)
  ·let⟨sl,B⟩:=I.base.slot b o e n hb D
   show(sl,(j.2 b (bw (bu (aI e) I.ok.above))).trans B)
  ·let⟨o',B⟩:=I.base.there b o e D
   show(o',(j.2 b (bw (bu (aI e) I.ok.above))).trans B)
  ·by_cases hj:aav=i
   ·subst hj
    rw[hi] at B;cases B;rw[oA aaE] at L;cases L;show(u,r,.inl (M,by simp))
   ·rw[pG (ff hj)] at L
    let⟨u',r',q⟩:=hl aav y v' B L e3;show(u',r',?_);rcases q with⟨k,e⟩|⟨k,c,e,z⟩
    ·show .inl (k,?_)
     let:y≠x:=λe=>hj (CU hN B (e▸hi));simp[this,e]
    ·show .inr (k,c,e,z.sameBut j (aax y c e))
  ·let⟨w',z⟩:=I.cell y c e
   show(w',z.sameBut j (aax y c e))
  ·let⟨e,n,ne,nf,d⟩:=I.MB p hp
   show((j.2 p.1 ne).trans e,n,ne,nf,d)
 ·let hfn:X.fn x=aC:=by
   rcases hf with z|z
   ·show z
   ·rw[z] at M;cases M
  let⟨c,hc⟩:=I.ok.has x (.inl M);let⟨w',z⟩:=I.cell x c hc;show wpAny_storeName_cell I.ok.kind M hc z (λh' hc' j=> ?_);let⟨oc,hoc,abe⟩:=id z;show h {s with heap:=h'} (I.ok,I.os,I.bare,(λb o e n hb D=> ?_,λb o e n hb D=> ?_,I.base.free,λb o e D=> ?_,I.base.tups,I.base.frzs,I.base.tbls),(m,hn.sameBut j (ff (aax x c hc)),λaav y v' B L e3=> ?_),λy c' e=> ?_,I.free,I.sG,λp hp=> ?_,aaG (oc,hoc,I.sG x c hc) j,by simpa using I.len) (c,j,.inr hc)
  ·show(j.2 b (bw (bu (aI e) (I.ok.cab x c hfn hc)))).trans (I.base.keep b o e n hb D)
  ·let⟨sl,B⟩:=I.base.slot b o e n hb D
   show(sl,(j.2 b (bw (bu (aI e) (I.ok.cab x c hfn hc)))).trans B)
  ·let⟨o',B⟩:=I.base.there b o e D
   show(o',(j.2 b (bw (bu (aI e) (I.ok.cab x c hfn hc)))).trans B)
  ·by_cases hj:aav=i
   ·subst hj
    rw[hi] at B;cases B;rw[oA aaE] at L;cases L;show(u,r,.inr (.inl M,c,hc,hc'))
   ·rw[pG (ff hj)] at L
    let⟨u',r',q⟩:=hl aav y v' B L e3;show(u',r',?_);rcases q with q|⟨k,c',e,z'⟩
    ·show .inl q
    ·show .inr (k,c',e,z'.sameBut j ?_)
     rintro rfl;show hj (CU hN B (I.ok.inj _ _ _ e hc▸hi))
  ·by_cases hcc:c'=c
   ·subst hcc;show(_,hc')
   ·let⟨w2,z2⟩:=I.cell y c' e
    show(w2,z2.sameBut j hcc)
  ·let⟨e,n,ne,nf,d⟩:=I.MB p hp
   show((j.2 p.1 ?_).trans e,n,ne,nf,d);intro q;rw[q,hoc] at e;let q':oc=p.2:=aJ e;show d w' (by rw[<-q'];show abe)
def BY(I:Inv X pins Y H s)(j:X.N.Nodup)(hi:X.N[i]?=ag x)(n:Loc X.env.scope x)(r:RelV v u)
  (h:∀s',Inv X pins (Y.set i (ag v)) H s'->Q () s')(q:X.fn x=aC\/X.env.scope.names.lookup x=ag .local:=by w_up):aW M A (X4 X.env x u) Q E s:=
 Ff I j hi n r (λs' z _=>h s' z) q
def Inv.aau(I:Inv X pins Y H s)(j:s'.os=s.os)(u:Un (RI X.stack) ch H U s.heap s'.heap)(n:sL X.prog X.w U s'.heap)(q:Ey s'.gens)
  (z:∀b∈ch,(b∈X.ex\/X.s_0.heap.objs.size<=b)/\b≠X.env.locals/\(∀x c,X.env.cells.lookup x=ag c->c≠b)/\∀p∈X.pn++pins,p.1≠b):Inv X pins Y U s':=by
 let⟨h',B,D,L,o'⟩:=s';let e:o'=s.os:=j;subst e;show I.call (g':=B) (t':=L) (d':=D) u n q z
end
abbrev XK:=aE->ae az->Hp->Prop
abbrev St:=aa (ae V)
abbrev VK:=V->Hp->Prop
abbrev TE:=St->Hp->VK->Prop
abbrev TT:=St->Hp->(Bool->Hp->Prop)->Prop
abbrev TA:=St->Hp->(aa V->Hp->Prop)->Prop
structure Ends where
 nx:St->Hp->Prop
 rt:VK
 bk:St->Hp->Prop:=λ_ _=>False
 ct:St->Hp->Prop:=λ_ _=>False
abbrev TS:=Ends->St->Hp->Prop
inductive EP(X:Cx)(pins:La)(Y:St)(Q:VK)(u:aE)(s':br):Prop|mk:∀v U,Inv X pins Y U s'->RelV v u->Q v U->EP X pins Y Q u s'
inductive TP(X:Cx)(pins:La)(Y:St)(Q:Bool->Hp->Prop)(b:Bool)(s':br):Prop|mk:∀U,Inv X pins Y U s'->Q b U->TP X pins Y Q b s'
inductive AP(X:Cx)(pins:La)(Y:St)(Q:aa V->Hp->Prop)(j:aa aE)(s':br):Prop|mk:∀n U,Inv X pins Y U s'->eD n j->Q n U->AP X pins Y Q j s'
def SP(X:Cx)(pins:La)(D:Ends)(f:Flow)(s':br):Prop:=
 match f with
 | .next=>∃j U,Inv X pins j U s'/\D.nx j U
 | .brk=>∃j U,Inv X pins j U s'/\D.bk j U
 | .cont=>∃j U,Inv X pins j U s'/\D.ct j U
 | .ret u=>∃v j U,Inv X pins j U s'/\RelV v u/\D.rt v U
def PE(X:Cx)(e:fK)(t:TE):Prop:=
 ∀pins s Y H Q,Inv X pins Y H s->t Y H Q->aW (bp X.prog X.w) X.A (eval e X.env) (EP X pins Y Q) X.xe s
def PT(X:Cx)(e:fK)(t:TT):Prop:=
 ∀pins s Y H Q,Inv X pins Y H s->t Y H Q->aW (bp X.prog X.w) X.A (JM e X.env (eval e X.env)) (TP X pins Y Q) X.xe s
def PW(X:Cx)(e:fK)(t:TT):Prop:=
 ∀whole pins s Y H Q,Inv X pins Y H s->t Y H Q->aW (bp X.prog X.w) X.A (JM e X.env whole) (TP X pins Y Q) X.xe s
def PW.pt(h:PW X e t):PT X e t:=h _
def PA(X:Cx)(es:aa fK)(t:TA):Prop:=
 ∀afG pins s Y H Q,Inv X pins Y H s->t Y H Q->aW (bp X.prog X.w) X.A (spliced (jq afG (bU es X.env))) (AP X pins Y Q) X.xe s
def PS(X:Cx)(st:qc)(t:TS):Prop:=
 ∀pins s Y H D,Inv X pins Y H s->t D Y H->aW (bp X.prog X.w) X.A (exec st X.env) (SP X pins D) X.xe s
def JE(X:Cx)(st:aa qc)(t:TS):Prop:=
 ∀pins s Y H D,Inv X pins Y H s->t D Y H->aW (bp X.prog X.w) X.A (execs st X.env) (SP X pins D) X.xe s
def gj(h:aW M A t Q E s)(j:∀a s,Q a s->n a s):aW M A t n E s:=eO h j λ_ _ x=>x
section
variable{X:Cx}
inductive vm(i:Nat)(Y:L2.St)(H:Hp)(Q:VK):Prop|mk:∀v,Y[i]?=ag (ag v)->Q v H->vm i Y H Q
def tC(v:V):TE:=λ_ H Q=>Q v H
def WS(B:X.N[i]?=ag x)(D:YM X.env.scope x)(n:(x==("__debug__":cX))=aA:=by decide)(L:(x==("__classdict__":cX))=aA:=by decide):PE X (.Name x afG) (vm i):=by
 intro pins s Y H Q I h;let⟨v,e,h⟩:_:=h;let⟨m,M,hl⟩:_:=I.Dd;let⟨u,r,l⟩:_:=hl i x v B e D;let q:EP X pins Y Q u s:=(v,H,I,r,h);rcases l with⟨j,hm⟩|⟨j,c,hc,z⟩
 ·show wJ (mZ I.ok.kind j M hm q) n
 ·rcases j with j|j
  ·show wJ (SV I.ok.kind j hc z q) n
  ·show wJ (wpAny_loadName_free I.ok.kind j hc z q L) n
def aX{i j afG}:PE X (.Constant (.int i) j afG) (tC (.int i)):=λ_ _ _ H _ I h=>U0 (.int i,H,I.xL _,(_,J),h)
def MC{b j afG}:PE X (.Constant (.bool b) j afG) (tC (.bl b)):=λ_ _ _ H _ I h=>Constant_bool (.bl b,H,I,J,h)
def kP{j afG}:PE X (.Constant .none j afG) (tC .jn):=λ_ _ _ H _ I h=>Constant_none (.jn,H,I,J,h)
def Gl(X:Cx)(x:cX):Prop:=X.env.kindOf x=ag .globalImplicit
def Bs(I:Inv X pins Y H s)(j:Gl X x)(n:X.mg x=ag u)(h:Q u s)
  (q:(x==("__debug__":cX))=aA:=by decide):aW (bp X.prog X.w) X.A (eval (.Name x afG) X.env) Q E s:=
 Ew I.ok.kind j (Calls.loadGlobal_global (by rw[I.ok.AR];show I.mod.AR.keeps I.bk) n h) q
def vJ(I:Inv X pins Y H s)(j:Gl X x)(n:X.mg x=au)(q:pC x=ag u)(h:Q u s)
  (z:x≠"__name__":=by decide)(B:(x==("__debug__":cX))=aA:=by decide):aW (bp X.prog X.w) X.A (eval (.Name x afG) X.env) Q E s:=by
 let⟨D,h1,h2⟩:_:=I.mod.blt;show Ew I.ok.kind j (Calls.loadGlobal_builtin (by rw[I.ok.AR];show I.mod.AR.keeps I.bk) n (by rw[I.ok.blt];show h1.keeps I.bk) ((h2 x z).trans q) h) B
def fB(j:Gl X x)(n:X.mg x=ag u)(r:RelV v u)(q:(x==("__debug__":cX))=aA:=by decide):PE X (.Name x afG) (tC v):=
 λ_ _ _ H _ I h=>Bs I j n (v,H,I,r,h) q
variable{a b:fK}{ta tb:TE}{afG:pW}
def PC(X:Cx)(j:CmpOp)(a b:fK)(t:TE):Prop:=
 ∀pins s Y H Q,Inv X pins Y H s->t Y H Q->
  aW (bp X.prog X.w) X.A (eval a X.env) (λv n=>aW (bp X.prog X.w) X.A (eval b X.env) (λu q=>aW (bp X.prog X.w) X.A (fk j v u) (EP X pins Y Q) X.xe q) X.xe n) X.xe s
inductive IB(Q:Bool->Hp->Prop)(x:V)(O:Hp):Prop|mk:∀c,x=.bl c->Q c O->IB Q x O
def tB(t:TE):TT:=λY H Q=>t Y H (IB Q)
def xA(h:PC X j a b t)(h1:uQ j b=aA:=by first|show D _ (by decide) (by decide)|rfl):PT X (.Compare a [j] [b] afG) (tB t):=by
 intro pins s Y H Q I hw;show Pn (gj (h pins s Y H _ I hw) λv L h1=>gj h1 λu M h2=>gj h2 λc N (x,O,n,z,B)=> ?_) h1;let⟨d,rfl,q⟩:=B;cases z;show gy (O,n,q)
def io(h:PE X e t)(j:∀whole,JM e X.env whole=(do let v<-whole;yT e.pos;holding [v] (OV v)):=by intro _;rfl):PT X e (tB t):=by
 intro pins s Y H Q I hw;show OY (gj (h pins s Y H _ I hw) λv D (x,O,n,z,B)=> ?_) (j _);let⟨d,rfl,q⟩:=B;cases z;show gy (O,n,q)
variable{tA afY:TT}{afP:aa fK}
def aci(t u:TT):TT:=λY H Q=>t Y H λc O=>if c=aC then u Y O Q else Q aA O
def tOr(t u:TT):TT:=λY H Q=>t Y H λc O=>if c=aC then Q aC O else u Y O Q
def ab9(t:TT):TT:=λY H Q=>t Y H λc O=>Q (!c) O
def n8(j:PT X a tA):PW X (.BoolOp .And [a] afG) tA:=by
 intro n pins s Y H Q I h;show isTrue_and (gj (j pins s Y H Q I h) λc q e=> ?_);cases c with
 |true=>show isTrue_and_nil e
 |false=>show e
def tT(j:PT X a tA):PW X (.BoolOp .Or [a] afG) tA:=by
 intro n pins s Y H Q I h;show isTrue_or (gj (j pins s Y H Q I h) λc q e=> ?_);cases c with
 |false=>show isTrue_or_nil e
 |true=>show e
def oS(q:PT X a tA)(z:PW X (.BoolOp .And (b::afP) afG) afY):PW X (.BoolOp .And (a::b::afP) afG) (aci tA afY):=by
 intro B pins s Y H Q I h;show isTrue_and (gj (q pins s Y H _ I h) λc D (O,j,n)=> ?_);cases c with
 |true=>show z B pins D Y O Q j n
 |false=>show(O,j,n)
def yj(q:PT X a tA)(z:PW X (.BoolOp .Or (b::afP) afG) afY):PW X (.BoolOp .Or (a::b::afP) afG) (tOr tA afY):=by
 intro B pins s Y H Q I h;show isTrue_or (gj (q pins s Y H _ I h) λc D (O,j,n)=> ?_);cases c with
 |true=>show(O,j,n)
 |false=>show z B pins D Y O Q j n
def je(j:PT X a tA):PT X (.UnaryOp .Not a afG) (ab9 tA):=by
 intro pins s Y H Q I h;show isTrue_not (gj (j pins s Y H (λc O=>Q (!c) O) I h) λ_ _ (O,n,q)=>(O,n,q))
def ZD(ta tb:TE):TE:=λY H Q=>ta Y H λx O=>∃c,x=.bl c/\if c=aC then tb Y O Q else Q (.bl aA) O
def WT{j}(h:PE X a t):PE X (.BoolOp j [a] afG) t:=λpins s Y H Q I hw=>BoolOp_one (h pins s Y H Q I hw)
def WW(q:PE X a ta)(z:PE X (.BoolOp .And (b::afP) afG) tb):PE X (.BoolOp .And (a::b::afP) afG) (ZD ta tb):=by
 intro pins s Y H Q I h;show BoolOp_and (gj (q pins s Y H _ I h) λv B (x,O,n,D,j)=> ?_);let⟨c,rfl,j⟩:=j;cases D;show gy ?_;cases c with
 |true=>show z pins B Y O Q n j
 |false=>show(.bl aA,O,n,J,j)
def tIf(t:TT)(ta tb:TE):TE:=λY H Q=>t Y H λc O=>if c=aC then ta Y O Q else tb Y O Q
def mV(hc:PT X c tA)(z:PE X a ta)(B:PE X b tb):PE X (.IfExp c a b afG) (tIf tA ta tb):=by
 intro pins s Y H Q I h;show wpAny_IfExp (gj (hc pins s Y H _ I h) λd j (O,n,q)=> ?_);cases d with
 |true=>show z pins j Y O Q n q
 |false=>show B pins j Y O Q n q
end
def eE(K:aq)(H:Hp)(a:az)(xs:aa V):Prop:=
 Rd H a (.bZ xs)\/
  ∃o afH n,K.lookup a=ag o/\o.cls=.type "list"/\o.dict=au/\o.data=.seq afH n/\afH.size<=bf/\eD xs afH.toList
def gg(K:aq)(H:Hp)(a:az)(xs:aa V):Prop:=
 Rd H a (.dC xs)\/
  ∃o afH n,K.lookup a=ag o/\o.cls=.type "tuple"/\o.data=.seq afH n/\afH.size<=bf/\eD xs afH.toList
def acU:aE->ae V
 | .none=>ag .jn
 | .bool b=>ag (.bl b)
 | .int i _=>ag (.int i)
 | .str x _=>ag (.str x)
 | .bytes b _=>ag (.Hr b)
 | .float b _=>ag (.flt b)
 | .ref a=>ag (.ref a)
 | .type n=>ag (.ty n)
 |_=>au
def RelV.abs(r:RelV x u):acU u=ag x:=by
 cases x with
 |jn=>cases r;rfl
 |bl _=>cases r;rfl
 |int _=>let⟨t,rfl⟩:=r;rfl
 |str _=>let⟨t,rfl⟩:=r;rfl
 |Hr _=>let⟨t,rfl⟩:=r;rfl
 |flt _=>let⟨t,rfl⟩:=r;rfl
 |ref _=>cases r;rfl
 |ty _=>cases r;rfl
theorem RelV.inj(r:RelV x u)(q:RelV y u):x=y:=aJ (r.abs.symm.trans q.abs)
theorem eD.inj:∀{xs ys:aa V} {j:aa aE},eD xs j->eD ys j->xs=ys:=by
 intro xs ys j z;induction z generalizing ys with
 |nil=>
  intro q;cases q;rfl
 |cons r t n=>
  intro q;cases q with
  |cons B D=>rw[r.inj B,n D]
section
variable{X:Cx}{pins:La}{Y:St}{H:Hp}{s:br}{a:az}{xs ys:aa V}
def eE.of{K:aq}(h:H a=ag (.bZ xs)):eE K H a xs:=.inl (.inl h)
def gg.of{K:aq}(h:H a=ag (.dC xs)):gg K H a xs:=.inl (.inl h)
def Inv.list(I:Inv X pins Y H s)(h:eE X.K H a xs):∃afH:aa aE,eD xs afH/\PlainL s.heap a afH.toArray/\xs.length<=bf:=by
 rcases h with h|⟨o,afH,n,j,hc,q,B,D,r⟩
 ·let⟨z,afH,n,r,e⟩:=h.ok I.fe
  show(afH,r,(_,n,e,J,J,J),z)
 ·show(afH.toList,r,(o,n,I.Hq a o j,hc,q,by simpa using B),?_)
  let e:=r.length;simp![ft] at e;lk
def Inv.tuple(I:Inv X pins Y H s)(h:gg X.K H a xs):∃afH:aa aE,eD xs afH/\yQ s.heap a afH.toArray/\xs.length<=bf:=by
 rcases h with h|⟨o,afH,n,j,hc,q,B,r⟩
 ·let⟨z,afH,r,p⟩:=h.ok I.fe
  show(afH,r,p,z)
 ·show(afH.toList,r,(o,I.Hq a o j,hc,n,by simpa using q),?_)
  let e:=r.length;simp![ft] at e;lk
def Inv.IY(I:Inv X pins Y H s)(h:eE X.K H a xs)(h':eE X.K H a ys):xs=ys:=by
 let⟨afH,r,⟨o,n,e,_,_,d⟩,_⟩:=I.list h;let⟨z,B,⟨o',L,j,_,_,q⟩,_⟩:=I.list h';rw[e] at j;cases j;rw[d] at q;injection q with D _;let:afH=z:=by simpa using eI Hn D
 subst this;show r.inj B
def Inv.zi(I:Inv X pins Y H s)(h:gg X.K H a xs)(h':gg X.K H a ys):xs=ys:=by
 let⟨afH,r,⟨o,e,_,n,d⟩,_⟩:=I.tuple h;let⟨z,B,⟨o',j,_,L,q⟩,_⟩:=I.tuple h';rw[e] at j;cases j;rw[d] at q;injection q with D _;let:afH=z:=by simpa using eI Hn D
 subst this;show r.inj B
end
abbrev Cx.BO(X:Cx)(E:Vp):Cx:={X with xe:=E}
abbrev Cx.IM(X:Cx):Cx:=X.BO λ_ _=>False
theorem Cx.Ok.BO{X:Cx}(ok:X.Ok)(E:Vp):(X.BO E).Ok:=
 (ok.mod,ok.kind,ok.AR,ok.blt,ok.above,ok.inj,ok.has,ok.cab,ok.hd,ok.frames,ok.stk,ok.exf,ok.bs,ok.UP,ok.Q9,ok.RN,ok.AT,ok.Xt)
def Cx.Ok.vh{X:Cx}(ok:(X.BO E).Ok):X.Ok:=
 (ok.mod,ok.kind,ok.AR,ok.blt,ok.above,ok.inj,ok.has,ok.cab,ok.hd,ok.frames,ok.stk,ok.exf,ok.bs,ok.UP,ok.Q9,ok.RN,ok.AT,ok.Xt)
section
variable{X:Cx}{pins:La}{Y:St}{H:Hp}{s:br}{E:Vp}
theorem Inv.BO(I:Inv X pins Y H s)(E:Vp):Inv (X.BO E) pins Y H s:=(I.ok.BO E,I.os,I.bare,I.base,I.Dd,I.cell,I.free,I.sG,I.MB,I.fe,I.len)
theorem Inv.vh(I:Inv (X.BO E) pins Y H s):Inv X pins Y H s:=(I.ok.vh,I.os,I.bare,I.base,I.Dd,I.cell,I.free,I.sG,I.MB,I.fe,I.len)
theorem SP.vh(h:SP (X.BO E) pins D f s'):SP X pins D f s':=by
 cases f with
 |next=>let⟨j,U,I,q⟩:=h;show(j,U,I.vh,q)
 |brk=>let⟨j,U,I,q⟩:=h;show(j,U,I.vh,q)
 |cont=>let⟨j,U,I,q⟩:=h;show(j,U,I.vh,q)
 |ret u=>let⟨v,j,U,I,r,q⟩:=h;show(v,j,U,I.vh,r,q)
theorem JE.IM{st:aa qc}(h:JE X.IM st t):JE X st t:=λpins s Y H D I hw=>
 eO (h pins s Y H D (I.BO _) hw) (λ_ _ q=>q.vh) λ_ _ z=>gF z
end
section
variable{X:Cx}{st:qc}{afP:aa qc}{t u:TS}{e:fK}{te:TE}{afG:pW}
def Vk:TS:=λD Y H=>D.nx Y H
def kC(t u:TS):TS:=λD Y H=>t {D with nx:=u D} Y H
def dH:JE X [] Vk:=λ_ _ Y H _ I h=>xf (Y,H,I,h)
def ay(h1:PS X st t)(h2:JE X afP u):JE X (st::afP) (kC t u):=by
 intro pins s Y H D I h;show X2 (gj (h1 pins s Y H {D with nx:=u D} I h) λf j q=> ?_);cases f with
 |next=>
  let⟨n,U,z,q⟩:_:=q;show h2 pins j n U D z q
 |ret v=>show q
 |brk=>show q
 |cont=>show q
def aV(h1:PS X st t):JE X [st] t:=by
 intro pins s Y H D I h;show X2 (gj (h1 pins s Y H D I h) λf j q=> ?_);cases f with
 |next=>show xf q
 |ret v=>show q
 |brk=>show q
 |cont=>show q
def Inv.quiet(I:Inv X pins Y H s):interactive X.env=aA:=by simp[interactive,I.ok.kind]
def Zz(te:TE):TS:=λD Y H=>te Y H λ_ O=>D.nx Y O
def fY(j:PE X e te)(n:yS e au afG.line X.env=i8 aA:=by rfl):PS X (.Expr e afG) (Zz te):=by
 intro pins s Y H D I h;show wpAny_Expr_any (gj (j pins s Y H _ I h) λv B (x,O,q,L,z)=>(Y,O,q,z)) I.quiet n
def Wl(te:TE):TS:=λD Y H=>te Y H D.rt
def bP(j:PE X e te):PS X (.Return (ag e) afG) (Wl te):=by
 intro pins s Y H D I h;show wpAny_Return_some (gj (j pins s Y H _ I h) λv B (x,O,n,q,z)=>(x,Y,O,n,q,z))
def NM(c:TT)(t u:TS):TS:=λD Y H=>c Y H λb O=>if b=aC then t D Y O else u D Y O
def fO(hc:PT X c tc)(z:JE X a t)(B:JE X b u):PS X (.If c a b afG) (NM tc t u):=by
 intro pins s Y H D I h;show wpAny_If (gj (hc pins s Y H _ I h) λd j (O,n,q)=> ?_);cases d with
 |true=>show z pins j Y O D n q
 |false=>show B pins j Y O D n q
end
abbrev TG:=V->St->Hp->(St->Hp->Prop)->Prop
abbrev TGs:=aa V->St->Hp->(St->Hp->Prop)->Prop
def PG(X:Cx)(n:fK)(t:TG):Prop:=
 ∀pins s Y H v u Q,Inv X pins Y H s->RelV v u->t v Y H Q->
  aW (bp X.prog X.w) X.A (assign n X.env u) (λ_ s'=>∃j U,Inv X pins j U s'/\Q j U) X.xe s
def PGs(X:Cx)(z:aa fK)(t:TGs):Prop:=
 ∀pins s Y H j n Q,Inv X pins Y H s->eD j n->t j Y H Q->
  aW (bp X.prog X.w) X.A (assignInOrder ((wN z X.env).map (·.2)) n) (λ_ s'=>∃q U,Inv X pins q U s'/\Q q U) X.xe s
abbrev XS:=V->V->V->Hp->(Hp->Prop)->Prop
def XT(X:Cx)(t:XS):Prop:=
 ∀pins s Y H o i v j n u Q,Inv X pins Y H s->RelV o j->RelV i n->RelV v u->t o i v H Q->
  aW (bp X.prog X.w) X.A (VX j n u) (λ_ s'=>∃U,Inv X pins Y U s'/\Q U) X.xe s
abbrev TIp:=V->V->Hp->VK->Prop
def PIp(X:Cx)(j:Operator)(t:TIp):Prop:=
 ∀pins s Y H x y v u Q,Inv X pins Y H s->RelV x v->RelV y u->t x y H Q->
  aW (bp X.prog X.w) X.A (inplaceOp j v u) (EP X pins Y Q) X.xe s
section
variable{X:Cx}{afG:pW}
def rE(i:Nat):TG:=λv Y H Q=>Q (Y.set i (ag v)) H
def fM(j:X.N.Nodup)(hi:X.N[i]?=ag x)(n:Loc X.env.scope x)(q:X.fn x=aC\/X.env.scope.names.lookup x=ag .local:=by w_up):PG X (.Name x afG) (rE i):=by
 intro pins s Y H v u Q I r h;show VU (BY I j hi n r (λs' z=>(_,H,z,h)) q)
def aah:TGs:=λj Y H Q=>j=[]/\Q Y H
inductive MT(t:TG)(u:TGs)(j:aa V)(Y:L2.St)(H:Hp)(Q:L2.St->Hp->Prop):Prop|mk:∀v r,j=v::r->(t v Y H λn U=>u r n U Q)->MT t u j Y H Q
def GO:PGs X [] aah:=by
 intro pins s Y H j n Q I r h;let⟨e,h⟩:=h;subst e;cases r;show assignInOrder_nil (Y,H,I,h)
def sA(h1:PG X e t)(h2:PGs X es u)
  (j:(wN (e::es) X.env).map (·.2)=assign e X.env::(wN es X.env).map (·.2):=by rfl):PGs X (e::es) (MT t u):=by
 intro pins s Y H M N Q I r h;let⟨v,vr,n,h⟩:=h;subst n;cases r with
 |cons r q=>
  rw[j];show assignInOrder_cons (gj (h1 pins s Y H _ _ _ I r h) λ_ z (B,O,D,L)=> ?_);show h2 pins z B O _ _ Q D q L
inductive Xq(K:aq)(n:Nat)(t:TGs)(v:V)(Y:L2.St)(H:Hp)(Q:L2.St->Hp->Prop):Prop|mk:∀a xs,v=.ref a->gg K H a xs->xs.length=n->t xs Y H Q->Xq K n t v Y H Q
def K9(hc:X.calm=aC)(h:PGs X es t)
  (q:(wN es X.env).length=n:=by rfl)(z:(wN es X.env).findIdx? (·.1)=au:=by rfl):PG X (.Tuple es k afG) (Xq X.K n t):=by
 intro pins s Y H v u Q I r hw;let⟨a,xs,B,D,hl,hw⟩:=hw;subst B;cases r;let⟨afH,j,L,hz⟩:=I.tuple D;show assign_Tuple_tuple (I.ok.hd hc) L (by simp[q,<-hl,j.length]) z λh' M=> ?_;let N:Inv X pins Y H {s with heap:=h'}:=I.nV (t':=s.toks) λb o e=>M b o (bw (aI e)) e;show h pins _ Y H xs _ Q N (by simpa using j) hw
def acB(to j:TE)(t:XS):TG:=λv Y H Q=>to Y H λo O=>j Y O λi H2=>t o i v H2 λn=>Q Y n
def Lb(q:PE X o to)(hi:PE X i z)(B:XT X t)
  (D:∀v,assign (.Subscript o i afG) X.env v=(do
   let j<-holding [v] (eval o X.env);let n<-holding [v,j] (eval i X.env)
   yT afG
   holding [v,j,n] (VX j n v)
   release [v,j,n] []):=by intro _;rfl):PG X (.Subscript o i afG) (acB to z t):=by
 intro pins s Y H v u Q I r h;rw[D];show ah (dD (gj (q pins s Y H _ I h) λj L (x,O,M,N,q1)=> ?_));show ah (dD (gj (hi pins L Y O _ M q1) λn s2 (y,H2,I2,r2,q2)=> ?_));show ah (AC (ah (dD (gj (B pins s2 Y H2 x y v j n u _ I2 N r2 r q2) λ_ s3 (H3,I3,q3)=> ?_))));show wpAny_release (Y,H3,I3,q3)
def Qi(te:TE)(g:TG):TS:=λD Y H=>te Y H λx O=>g x Y O D.nx
def KZ(j:PE X e te)(n:PG X tg g)(z:swapsWithSole [tg] e afG.line X.env=i8 aA:=by rfl)(hw:swappedStores [tg] e X.env=i8 au:=by rfl)
  (h1:(wN [tg] X.env).map (·.2)=[assign tg X.env]:=by rfl):PS X (.Assign [tg] e afG) (Qi te g):=by
 intro pins s Y H D I h;show wpAny_Assign_stores (gj (j pins s Y H _ I h) λv B (x,O,L,M,N)=> ?_) z hw;rw[h1];show gj (n pins B Y O x v _ L M N) λ_ s2 q=>q
def CJ(j:X.N.Nodup)(hi:X.N[i]?=ag x)(n:Loc X.env.scope x)(q:PE X e te)(z:yS e (ag (.Name x afS)) afG.line X.env=i8 aA:=by rfl)(B:X.fn x=aC\/X.env.scope.names.lookup x=ag .local:=by w_up):
  PS X (.Assign [.Name x afS] e afG) (Qi te (rE i)):=by
 intro pins s Y H aav I h;show wpAny_Assign_Name (gj (q pins s Y H _ I h) λv s1 (y,O,D,L,M)=> ?_) z;show BY D j hi n L (λs2 I2=>(_,O,I2,M)) B
inductive Ww(i:Nat)(te:TE)(j:TIp)(D:Ends)(Y:L2.St)(H:Hp):Prop|mk:∀x,Y[i]?=ag (ag x)->(te Y H λy O=>j x y O λz H2=>D.nx (Y.set i (ag z)) H2)->Ww i te j D Y H
def GK(B:X.N.Nodup)(hi:X.N[i]?=ag x)(n:Loc X.env.scope x)(D:PE X e te)(L:PIp X q M)(hf:X.fn x=aC\/X.env.scope.names.lookup x=ag .local:=by w_up):
  PS X (.AugAssign (.Name x afS) q e afG) (Ww i te M):=by
 intro pins s Y H aav I h;let⟨v,e1,h⟩:=h;let⟨m,hn,hl⟩:=I.Dd;let vis:YM X.env.scope x:=by rcases n with k|k;show .inl k;show .inr (.inl k)
 let⟨u,r,l⟩:=hl i x v hi e1 vis;show wpAny_AugAssign_Name ?_;let z:aW (bp X.prog X.w) X.A (eval e X.env) (λw aaC=>aW (bp X.prog X.w) X.A (inplaceOp q u w) (λr aaE=>aW (bp X.prog X.w) X.A (X4 X.env x r) (λ_=>SP X pins aav .next) X.xe aaE) X.xe aaC) X.xe s:=by
  show gj (D pins s Y H _ I h) λw s1 (y,O,I1,r1,q1)=> ?_;show gj (L pins s1 Y O v y u w _ I1 r r1 q1) λaaV s2 (zv,H2,I2,r2,q2)=> ?_;show BY I2 B hi n r2 (λs3 I3=>(_,H2,I3,q2)) hf
 rcases l with⟨j,hm⟩|⟨j,c,hc,aaG⟩
 ·show mZ I.ok.kind j hn hm z
 ·rcases j with j|j
  ·show SV I.ok.kind j hc aaG z
  ·rcases n with k|k
   ·let:X.env.scope.names.lookup x=ag .free:=j
    rw[k] at this;cases this
   ·let:X.env.scope.names.lookup x=ag .free:=j
    rw[k] at this;cases this
def ZC(to j te:TE)(n:V->V->Hp->VK->Prop)(q:TIp)(B:XS):TS:=λD Y H=>to Y H λo O=>j Y O λi H2=>n o i H2 λx I=>te Y I λy L=>q x y L λz M=>B o i z M λN=>D.nx Y N
def aaD(X:Cx)(t:V->V->Hp->VK->Prop):Prop:=
 ∀pins s Y H o i j n Q,Inv X pins Y H s->RelV o j->RelV i n->t o i H Q->
  aW (bp X.prog X.w) X.A (wM j n) (EP X pins Y Q) X.xe s
def T5(L:PE X o to)(hi:PE X i M)(N:aaD X aav)(he:PE X e te)(hp:PIp X op tip)(hs:XT X aaC)
  (ha:∀j n q,augStore i j n q=(do holding [q,j,n] (VX j n q);release [q,j,n] [];i8 .next):=by intros;rfl):PS X (.AugAssign (.Subscript o i af0) op e afG) (ZC to M te aav tip aaC):=by
 intro pins s Y H aaV aaE h;show wpAny_AugAssign_SubscriptAny (gj (L pins s Y H _ aaE h) λj s1 (z,O,I1,B,q1)=> ?_) ha;show gj (hi pins s1 Y O _ I1 q1) λn s2 (D,H2,I2,I,q2)=> ?_;show gj (N pins s2 Y H2 z D j n _ I2 B I q2) λold s3 (x3,H3,I3,r3,q3)=> ?_;show gj (he pins s3 Y H3 _ I3 q3) λv s4 (x4,H4,I4,r4,q4)=> ?_;show gj (hp pins s4 Y H4 x3 x4 old v _ I4 r3 r4 q4) λq s5 (x5,H5,I5,r5,q5)=> ?_;show gj (hs pins s5 Y H5 z D x5 j n q _ I5 B I r5 q5) λ_ s6 (H6,I6,q6)=>(Y,H6,I6,q6)
inductive ipI(f:Int->Int->Int)(x y:V)(H:Hp)(Q:VK):Prop|mk:∀i j,x=.int i->y=.int j->Q (.int (f i j)) H->ipI f x y H Q
def Dk:PIp X .Add (ipI λi j=>i+j):=by
 intro pins s Y H x y v u Q I n z h;let⟨i,j,B,D,q⟩:=h;subst B;subst D;let⟨t,rfl⟩:=n;let⟨L,rfl⟩:=z;show iadd_int (.int _,H,I.xL _,(_,J),q)
def Kn(c:TT)(tb:TS):TS:=λD Y H=>∃W:Nat->St->Hp->Prop,(∃m,W m Y H)/\∀m Y H,W m Y H->
 c Y H λb O=>if b=aC then∃N:St->Hp->Prop,(∀j U,N j U->∃n,n<m/\W n j U)/\tb {D with nx:=N,ct:=N,bk:=D.nx} Y O else D.nx Y O
def CG(hp:PassesOwn (bp X.prog X.w) X.A X.env X.xe)(hc:PT X c tc)(hb:JE X aax tb):PS X (.While c aax [] afG) (Kn tc tb):=by
 intro pins s Y H aaG aaC h;let⟨W,⟨m0,w0⟩,aaE⟩:_:=h;show wpAny_While (codeAny_whileLoop (λn s'=>∃σ' U,Inv X pins σ' U s'/\W n σ' U) ?_ m0 (Y,H,aaC,w0));rintro n s1 ⟨z,O,I1,w1⟩;show lX hp (gj (hc pins s1 z O _ I1 (aaE n z O w1)) λb s2 (H2,I2,B)=> ?_);cases b with
 |true=>
  let⟨aaV,hN,B⟩:_:=B;rw[aH J];show lX hp (gj (hb pins s2 z H2 _ I2 B) λf s3 D=> ?_);cases f with
  |next=>
   let⟨j,q,I,L⟩:_:=D;let⟨M,N,w3⟩:_:=hN j q L;show(M,N,j,q,I,w3)
  |cont=>
   let⟨j,q,I,L⟩:_:=D;let⟨M,N,w3⟩:_:=hN j q L;show(M,N,j,q,I,w3)
  |brk=>show D
  |ret v=>show D
 |false=>
  rw[aD bH];show xf (z,H2,I2,B)
end
structure It where
 go:Nat->Hp->Prop
 Pg:Nat->Hp->V->Hp->Prop
 stop:Nat->Hp->Prop
def AW(X:Cx)(pins:La)(H:Hp)(b:az):Prop:=
 H b=au/\b≠X.env.locals/\b∉X.fs/\(b∈X.ex\/X.s_0.heap.objs.size<=b)/\(∀x c,X.env.cells.lookup x=ag c->c≠b)/\∀p∈X.pn++pins,p.1≠b
def Inv.Lw(I:Inv X pins Y H s)(j:s.heap.objs.size<=b)(n:U b=au):AW X pins U b:=by
 show(n,cZ (bu I.lt j),I.acp j,.inr (bC I.sz j),λx c e z=> ?_,λp B z=> ?_)
 ·let⟨v,q⟩:=I.cell x c e
  show absurd (bu q.lt (by rw[z];show j)) (gY _)
 ·show absurd (bu (aI (I.MB p B).1) (by rw[z];show j)) (gY _)
structure ET(P:Program)(w:World)(K:PySem.W.Frag)(tg:Expr)(J:It)(fp:List Addr)(it:Addr)(tn:Nat->Heap->Prop):Prop where
 mem:it∈fp
 obj:∀i h,tn i h->∀b∈fp,∃o,h.get? b=some o/\∀v,o.data≠.cell v
 keep:∀i h h',tn i h->(∀b∈fp,∀o,h.get? b=some o->h'.get? b=some o)->tn i h'
 item:∀(X:Cx),X.prog=P->X.w=w->X.K=K->X.calm=true->∀(i:Nat) (pins:La) (s:Shared) (Y:St) (H:Hp) (E:Vp),Inv X pins Y H s->(∀b∈fp,AW X pins H b)->tn i s.heap->J.go i H->
  wpAny (model P w) X.A (pyNext (.ref it)) (λr s1=>∃u,r=some u/\
   wpAny (model P w) X.A (letOwnedTupleGo tg (.ref it) u) (λ_ s2=>∃x U,Inv X pins Y U s2/\RelV x u/\J.Pg i H x U/\tn (i+1) s2.heap/\∀b∈fp,U b=none) E s1) E s
 done:∀(X:Cx),X.prog=P->X.w=w->X.K=K->X.calm=true->∀(i:Nat) (pins:La) (s:Shared) (Y:St) (H:Hp) (E:Vp),Inv X pins Y H s->(∀b∈fp,AW X pins H b)->tn i s.heap->J.stop i H->
  wpAny (model P w) X.A (pyNext (.ref it)) (λr s1=>r=none/\Inv X pins Y H s1) E s
 self:∀(A:Around) (i:Nat) (s:Shared) (Q:Vp) (E:Vp),tn i s.heap->Q (.ref it) s->wpAny (model P w) A (pyIter (.ref it)) Q E s
abbrev TI:=St->Hp->(It->Hp->Prop)->Prop
def PIE(X:Cx)(pins:La)(Y:St)(tg:fK)(R:It->Hp->Prop)(B:aE)(j:br):Prop:=
 ∃it n q z U,B=.ref it/\Inv X pins Y U j/\ET X.prog X.w X.K tg z n it q/\q 0 j.heap/\(∀b∈n,AW X pins U b)/\R z U
def PI(X:Cx)(tg iter:fK)(j:TI):Prop:=
 ∀pins s Y H R,Inv X pins Y H s->j Y H R->
  aW (bp X.prog X.w) X.A (eval iter X.env) (λv n=>aW (bp X.prog X.w) X.A (JK v) (PIE X pins Y tg R) X.xe n) X.xe s
def Ji(q:s.heap.get? it=ag o)(hc:o.cls=.type n)(z:o.data=.fields B)
  (D:["enumerate","zip","dict_itemiterator","dict_reverseitemiterator","odict_iterator","itertools.zip_longest","itertools.pairwise"].contains n=aA)(j:Q () s):aW M A (xi tg (.ref it) u) Q E s:=by
 unfold xi;cases tg<;>first
  |show am j
  |(cases u<;>first
    |show am j
    |(show ah (AX q ?_)
      rw[hc,z];change aW M A (if(["enumerate","zip","dict_itemiterator","dict_reverseitemiterator","odict_iterator","itertools.zip_longest","itertools.pairwise"].contains n&&B[0]?==ag (fb _))=aC then _ else _) Q E s;rw[aD (by intro h;rw[D,qS] at h;cases h)];show am j))
def VM(K:aq)(a:az):It:=
 (λi H=>∃xs x,eE K H a xs/\xs[i]?=ag x,λi H x U=>U=H/\∀xs,eE K H a xs->xs[i]?=ag x,λi H=>∃xs,eE K H a xs/\xs.length<=i)
def Itt(K:aq)(a:az):It:=
 (λi H=>∃xs x,gg K H a xs/\xs[i]?=ag x,λi H x U=>U=H/\∀xs,gg K H a xs->xs[i]?=ag x,λi H=>∃xs,gg K H a xs/\xs.length<=i)
def UW(lo:Int)(n:Nat):It:=(λi _=>i<n,λi H x U=>U=H/\x=.int (lo+i),λi _=>n<=i)
def NE{K:aq}{tg:fK}(a it:az):ET P w K tg (VM K a) [it] it (λi h=>h.IsListIter it a i) where
 mem:=by simp
 obj:=λi h st b j=>by
  let e:b=it:=by simpa using j
  subst e;let⟨o,e,c,d⟩:_:=st;show(o,e,λv aav=>by rw[d] at aav;cases aav)
 keep:=λi h h' st k=>st.at λo e=>k it (by simp) o e
 item:=by
  intro X z hw B hc i pins s Y H E I n st D;subst z hw B;let⟨xs,x,q,L⟩:_:=D;let⟨afH,M,p,hz⟩:_:=I.list q;let⟨u,hu,ru⟩:_:=M.get L;let⟨N,f1,f2,f3,f4,f5⟩:_:=n it (by simp);show OU st p.isList (x:=u) (by simpa using hu) λh' st' sb=> ?_;let I1:Inv X pins Y H {s with heap:=h'}:=I.n6 (t':=s.toks) (λb o j e=>(sb.2 b j).trans e) N f1 f3 f4 f5;let⟨o,e,c,d⟩:_:=id st';show(u,J,Ji (s:={s with heap:=h'}) e c d (by decide) (x,H,I1,ru,(J,λys hy=>by rw[I.IY hy q];show L),st',λb j=>(n b j).1))
 done:=by
  intro X z hw B hc i pins s Y H E I n st D;subst z hw B;let⟨xs,q,L⟩:_:=D;let⟨afH,M,p,hz⟩:_:=I.list q;let⟨N,f1,f2,f3,f4,f5⟩:_:=n it (by simp);let hl:=M.length;show Pl (I.ok.hd hc) st p.isList (by simp;lk) λh' eb=>(J,I.n6 (t':=s.toks) (λb o j e=>eb b o j e) N f1 f3 f4 f5)
 self:=λ_ _ _ _ _ st h=>wpAny_pyIter_listiter st h
def Kj{K:aq}{tg:fK}(a it:az):ET P w K tg (Itt K a) [it] it (λi h=>h.IsTupleIter it a i) where
 mem:=by simp
 obj:=λi h st b j=>by
  let e:b=it:=by simpa using j
  subst e;let⟨o,e,c,d⟩:_:=st;show(o,e,λv aav=>by rw[d] at aav;cases aav)
 keep:=λi h h' st k=>st.at λo e=>k it (by simp) o e
 item:=by
  intro X z hw B hc i pins s Y H E I n st D;subst z hw B;let⟨xs,x,q,L⟩:_:=D;let⟨afH,M,p,hz⟩:_:=I.tuple q;let⟨u,hu,ru⟩:_:=M.get L;let⟨N,f1,f2,f3,f4,f5⟩:_:=n it (by simp);show wpAny_pyNext_tuple_item st (show s.heap.IsTuple a afH.toArray from p) (x:=u) (by simpa using hu) λh' st' sb=> ?_;let I1:Inv X pins Y H {s with heap:=h'}:=I.n6 (t':=s.toks) (λb o j e=>(sb.2 b j).trans e) N f1 f3 f4 f5;let⟨o,e,c,d⟩:_:=id st';show(u,J,Ji (s:={s with heap:=h'}) e c d (by decide) (x,H,I1,ru,(J,λys hy=>by rw[I.zi hy q];show L),st',λb j=>(n b j).1))
 done:=by
  intro X z hw B hc i pins s Y H E I n st D;subst z hw B;let⟨xs,q,L⟩:_:=D;let⟨afH,M,p,hz⟩:_:=I.tuple q;let⟨N,f1,f2,f3,f4,f5⟩:_:=n it (by simp);let hl:=M.length;show wpAny_pyNext_tuple_end (I.ok.hd hc) st (show s.heap.IsTuple a afH.toArray from p) (by simp;lk) λh' eb=>(J,I.n6 (t':=s.toks) (λb o j e=>eb b o j e) N f1 f3 f4 f5)
 self:=λ_ _ _ _ _ st h=>wpAny_pyIter_tupleiter st h
def Kk{K:aq}{tg:fK}(it:az)(lo:Int)(q:Nat):ET P w K tg (UW lo q) [it] it (λi h=>IsRangeIter h it (lo+(i:Nat)*1) ((q:Int)-(i:Nat)) 1) where
 mem:=by simp
 obj:=λi h st b j=>by
  let e:b=it:=by simpa using j
  subst e;show(_,st,λv aax=>by
   let z':Data.fields _=Data.cell v:=aax;cases z')
 keep:=λi h h' st k=>k it (by simp) _ st
 item:=by
  intro X B hw D hc i pins s Y H E I z st L;subst B hw D;let⟨M,N,f2,f3,f4,f5⟩:_:=z it (by simp);let W:=Walks.range (prog:=X.prog) (w:=X.w) (I.ok.hd hc) it lo 1 q;show W.item i s _ _ L st λv h' tk hv st' kk=> ?_;let⟨t,rfl⟩:_:=hv;let I1:Inv X pins Y H {s with heap:=h',toks:=tk}:=I.n6 (λb o j e=>kk b o (by simpa using j) e) M N f3 f4 f5;show(_,J,Ji (s:={s with heap:=h',toks:=tk}) (n:="range_iterator") st' J J (by decide) (.int (lo+i),H,I1,(t,?_),(J,J),st',λb j=>(z b j).1));rw[Int.mul_one]
 done:=by
  intro X B hw D hc i pins s Y H E I z st L;subst B hw D;let⟨M,N,f2,f3,f4,f5⟩:_:=z it (by simp);show wpAny_pyNext_range_end (I.ok.hd hc) st (by let:q<=i:=L;lk) λh' eb=>(J,I.n6 (t':=s.toks) (λb o j e=>eb b o j e) M N f3 f4 f5)
 self:=λ_ _ _ _ _ st h=>wpAny_pyIter_rangeiter st h
section
variable{X:Cx}{tg:fK}
inductive VP(K:aq)(R:It->Hp->Prop)(x:V)(O:Hp):Prop|mk:∀a,x=.ref a->(∃xs,eE K O a xs)->R (VM K a) O->VP K R x O
def aae(K:aq)(tl:TE):TI:=λY H R=>tl Y H (VP K R)
def acz(K:aq)(tl:TE):TI:=λY H R=>tl Y H λx O=>∃a,x=.ref a/\(∃xs,gg K O a xs)/\R (Itt K a) O
def mv{tl:TE}(hl:PE X l tl):PI X tg l (aae X.K tl):=by
 intro pins s Y H R I h;show gj (hl pins s Y H _ I h) λv j (x,O,n,z,B)=> ?_;let⟨a,e,⟨xs,D⟩,q⟩:=B;subst e;cases z;let⟨afH,M,p,N⟩:=n.list D;show uH p.isList ?_;show(j.heap.objs.size,[j.heap.objs.size],_,_,O,J,n.nV (t':=j.toks) λb o e=>al _ e,NE a _,(_,aG _ rfl,J,J),λb L=> ?_,q);let e:b=j.heap.objs.size:=by simpa using L
 subst e;show n.Lw (aS _) (n.fe.fresh (aS _))
def WR{tl:TE}(hl:PE X l tl):PI X tg l (acz X.K tl):=by
 intro pins s Y H R I h;show gj (hl pins s Y H _ I h) λv j (x,O,n,z,B)=> ?_;let⟨a,e,⟨xs,D⟩,q⟩:=B;subst e;cases z;let⟨afH,M,p,N⟩:=n.tuple D;show oE (show j.heap.IsTuple a afH.toArray from p) ?_;show(j.heap.objs.size,[j.heap.objs.size],_,_,O,J,n.nV (t':=j.toks) λb o e=>al _ e,Kj a _,(_,aG _ rfl,J,J),λb L=> ?_,q);let e:b=j.heap.objs.size:=by simpa using L
 subst e;show n.Lw (aS _) (n.fe.fresh (aS _))
def QI{R:It->Hp->Prop}{E:Vp}{lo hi:Int}{t u v:V3}{tk:Nat}(I:Inv X pins Y H s)(h1: -(2^62)<=lo)(h2:lo<2^62)(n: -(2^62)<=hi)(z:hi<2^62)
  (q:R (UW lo (hi - lo).toNat) H):aW (bp X.prog X.w) X.A (JK (.ref s.heap.objs.size)) (PIE X pins Y tg R) E {s with heap:=s.heap.push {cls:=.type "range",data:=.fields (List.toArray [.int lo t,.int hi u,.int 1 v])},toks:=tk}:=by
 show wpAny_pyIter_range (IsRange.new ..) (small_one h1 h2 n z) ?_;let j:Inv X pins Y H {s with heap:=s.heap.push {cls:=.type "range",data:=.fields (List.toArray [.int lo t,.int hi u,.int 1 v])},toks:=tk}:=I.nV λb o e=>al _ e;show((s.heap.push {cls:=.type "range",data:=.fields (List.toArray [.int lo t,.int hi u,.int 1 v])}).objs.size,[(s.heap.push {cls:=.type "range",data:=.fields (List.toArray [.int lo t,.int hi u,.int 1 v])}).objs.size],_,_,H,J,
  j.nV (t':=tk) λb o e=>al _ e,Kk _ lo (hi - lo).toNat,?_,λb B=> ?_,q)
 ·let D:lo+((0:Nat):Int)*1=lo:=by simp
  let L:(((hi - lo).toNat:Nat):Int)-((0:Nat):Int)=Yp lo hi 1:=by rw[rangeSize_one];split<;>lk
  change IsRangeIter _ _ (lo+((0:Nat):Int)*1) ((((hi - lo).toNat:Nat):Int)-((0:Nat):Int)) 1;rw[D,L];show aG _ rfl
 ·let e:b=(s.heap.push {cls:=.type "range",data:=.fields (List.toArray [.int lo t,.int hi u,.int 1 v])}).objs.size:=by simpa using B
  subst e;show j.Lw (aS _) (j.fe.fresh (aS _))
def aad(ta:TA):TI:=λY H R=>ta Y H λn O=>∃j:Int,n=[.int j]/\ -(2^62)<=j/\j<2^62/\R (UW 0 j.toNat) O
def sy{ta:TA}{p afG:pW}(n:Gl X "range")(z:X.mg "range"=au)(B:PA X [a] ta)(D:bU [a] X.env=[#[aA,eval a X.env]]:=by rfl):PI X tg (.Call (.Name "range" p) [a] [] afG) (aad ta):=by
 intro pins s Y H R I h;show Call_ (vJ I n z boot_range (gs (gj (B afG pins s Y H _ I h) λus s1 (vs,O,L,M,j)=> ?_) D J));let⟨aav,e,j,N,q⟩:=j;subst e;cases M with
 |cons r rr=>
  cases rr;let⟨t,rfl⟩:=r;show call_range_1 (QI L (by lk) (by lk) j N (by simpa using q))
def acb(z:TI)(g:TG)(tb:TS):TS:=λD Y H=>z Y H λj O=>∃W:Nat->Nat->St->Hp->Prop,(∃m,W 0 m Y O)/\∀i m Y H,W i m Y H->
 (j.stop i H/\D.nx Y H)\/(j.go i H/\∃N:St->Hp->Prop,(∀n U,N n U->∃q,q<m/\W (i+1) q n U)/\∀x U,j.Pg i H x U->g x Y U λB H2=>tb {D with nx:=N,ct:=N,bk:=D.nx} B H2)
def CP(j:aa az)(h:cT):La:=j.filterMap λb=>(h.get? b).map λo=> #[b,o]
def xC(j:b∈n)(e:h.get? b=ag o): #[b,o]∈CP n h:=iA.mpr (b,j,by rw[e];rfl)
def N5(j:p∈CP n h):p.1∈n/\h.get? p.1=ag p.2:=by
 let⟨b,z,e⟩:=iA.mp j;cases q:h.get? b with
 |none=>rw[q] at e;cases e
 |some o=>
  rw[q] at e;let B: #[b,o]=p:=aJ e;subst B;show(z,q)
def Inv.QO(I:Inv X pins Y H s)(B:∀b∈j,AW X pins H b)(D:∀b∈j,∃o,s.heap.get? b=ag o/\∀v,o.data≠.cell v):Inv X (pins++CP j s.heap) Y H s:=
 I.MA λp L=>(bO.mp L).elim (λz=>I.MB p (b7 _ z)) λz=>by
  let⟨n,e⟩:_:=N5 z;let⟨M,N,f2,_⟩:_:=B p.1 n;let⟨o,q,d⟩:_:=D p.1 n;rw[e] at q;cases q;show(e,M,N,f2,d)
def Inv.xR(I:Inv X (pins++n) Y H s):Inv X pins Y H s:=I.MA λp j=>I.MB p (b7 _ (cw _ j))
def nz(D:PassesOwn (bp X.prog X.w) X.A X.env X.xe)(hc:X.calm=aC)(hi:PI X tg iter wi)(hg:PG X tg g)(j:JE X aaV tb)
  (hs:∀x,uI iter X.env x=i8 x:=by intro _;rfl):PS X (.For tg iter aaV [] afG) (acb wi g tb):=by
 intro pins s Y H abh aa0 h;show wpAny_For (gj (hi pins s Y H _ aa0 h) λv s1 h1=>gj h1 λitv s2 h2=> ?_) hs;let⟨it,I,tn,abl,H2,e,I2,T,st2,f2,W,⟨m0,w0⟩,aa5⟩:_:=h2;subst e;let aax:∀{U:Hp},(∀b∈I,U b=au)->∀b∈I,AW X pins U b:=λhn b j=>(hn b j,(f2 b j).2);show codeAny_forLoop_any (λaav s'=>∃i L U,Inv X pins L U s'/\tn i s'.heap/\(∀b∈I,U b=au)/\W i aav L U) ?_ m0 (0,Y,H2,I2,st2,λb j=>(f2 b j).1,w0);rintro aav s3 ⟨i,M,H3,I3,st3,fr3,w3⟩;rcases aa5 i aav M H3 w3 with⟨aa7,qn⟩|⟨go,abb,hN,step⟩
 ·show lX D (gj (T.done X J J J hc i pins s3 M H3 X.xe I3 (aax fr3) st3 aa7) λr s4 (hr,I4)=> ?_)
  subst hr;show xf (M,H3,I4,qn)
 ·show lX D (gj (T.item X J J J hc i pins s3 M H3 X.xe I3 (aax fr3) st3 go) λr s4 (u,hr,h4)=> ?_)
  subst hr;show lX D (gj h4 λ_ s5 (x,H5,I5,r5,y5,st5,fr5)=> ?_);let I5':=I5.QO (aax fr5) (T.obj _ _ st5);show lX D (gj (hg _ s5 M H5 x u _ I5' r5 (step x H5 y5)) λ_ s6 (σ6,H6,I6,q6)=> ?_);show lX D (gj (j _ s6 σ6 H6 _ I6 q6) λf s7 B=> ?_);let again:∀{n:St} {q:Hp},Inv X (pins++CP I s5.heap) n q s7->abb n q->∃m,m<aav/\∃i L U,Inv X pins L U s7/\tn i s7.heap/\(∀b∈I,U b=au)/\W i m L U:=λ{n q} z N=>by
   let⟨m',hm,w7⟩:_:=hN n q N;show(m',hm,i+1,n,q,z.xR,T.keep _ _ _ st5 λb j o e=>(z.MB #[b,o] (b7 _ (b7 _ (xC j e)))).1,λb j=> ?_,w7);let⟨o,e,d⟩:_:=T.obj _ _ st5 b j;show(z.MB #[b,o] (b7 _ (b7 _ (xC j e)))).2.1
  cases f with
  |next=>let⟨n,q,z,N⟩:=B;show again z N
  |cont=>let⟨n,q,z,N⟩:=B;show again z N
  |brk=>let⟨n,q,z,B⟩:=B;show(n,q,z.xR,B)
  |ret v=>let⟨x7,n,q,z,r7,B⟩:=B;show(x7,n,q,z.xR,r7,B)
end
def pj{K:aq}{a:az}{xs:aa V}{g:TG}{tb:TS}{D:Ends}{Y:St}{H:Hp}(Pv:Nat->St->Hp->Prop)(I:Pv 0 Y H)(hl:∀i Y H,i<=xs.length->Pv i Y H->eE K H a xs)
  (L:∀i x Y H,xs[i]?=ag x->Pv i Y H->g x Y H λj H2=>tb {D with nx:=Pv (i+1),ct:=Pv (i+1),bk:=D.nx} j H2)(M:∀Y H,Pv xs.length Y H->D.nx Y H):
  ∃W:Nat->Nat->St->Hp->Prop,(∃m,W 0 m Y H)/\∀i m Y H,W i m Y H->
   ((VM K a).stop i H/\D.nx Y H)\/((VM K a).go i H/\∃N:St->Hp->Prop,(∀n U,N n U->∃z,z<m/\W (i+1) z n U)/\∀x U,(VM K a).Pg i H x U->g x Y U λj H2=>tb {D with nx:=N,ct:=N,bk:=D.nx} j H2):=by
 show(λi m Y H=>m=xs.length - i/\i<=xs.length/\Pv i Y H,(xs.length,by simp,bW _,I),?_);rintro i m Y H ⟨rfl,hi,p⟩;let q:=hl i Y H hi p;by_cases B:i<xs.length
 ·show .inr ((xs,xs[i],q,by simp[B]),Pv (i+1),λn U p'=>(xs.length -(i+1),by lk,J,B,p'),λx U y=> ?_)
  let⟨e,y⟩:=y;subst e;show L i x Y _ (y xs q) p
 ·let e:i=xs.length:=by lk
  subst e;show .inl ((xs,q,aS _),M Y H p)
def UF{K:aq}{a:az}{xs:aa V}{g:TG}{tb:TS}{D:Ends}{Y:St}{H:Hp}(Pv:Nat->St->Hp->Prop)(I:Pv 0 Y H)(hl:∀i Y H,i<=xs.length->Pv i Y H->gg K H a xs)
  (L:∀i x Y H,xs[i]?=ag x->Pv i Y H->g x Y H λj H2=>tb {D with nx:=Pv (i+1),ct:=Pv (i+1),bk:=D.nx} j H2)(M:∀Y H,Pv xs.length Y H->D.nx Y H):
  ∃W:Nat->Nat->St->Hp->Prop,(∃m,W 0 m Y H)/\∀i m Y H,W i m Y H->
   ((Itt K a).stop i H/\D.nx Y H)\/((Itt K a).go i H/\∃N:St->Hp->Prop,(∀n U,N n U->∃z,z<m/\W (i+1) z n U)/\∀x U,(Itt K a).Pg i H x U->g x Y U λj H2=>tb {D with nx:=N,ct:=N,bk:=D.nx} j H2):=by
 show(λi m Y H=>m=xs.length - i/\i<=xs.length/\Pv i Y H,(xs.length,by simp,bW _,I),?_);rintro i m Y H ⟨rfl,hi,p⟩;let q:=hl i Y H hi p;by_cases B:i<xs.length
 ·show .inr ((xs,xs[i],q,by simp[B]),Pv (i+1),λn U p'=>(xs.length -(i+1),by lk,J,B,p'),λx U y=> ?_)
  let⟨e,y⟩:=y;subst e;show L i x Y _ (y xs q) p
 ·let e:i=xs.length:=by lk
  subst e;show .inl ((xs,q,aS _),M Y H p)
def Ow{lo:Int}{n:Nat}{g:TG}{tb:TS}{D:Ends}{Y:St}{H:Hp}(Pv:Nat->St->Hp->Prop)(I:Pv 0 Y H)
  (L:∀i Y H,i<n->Pv i Y H->g (.int (lo+i)) Y H λj H2=>tb {D with nx:=Pv (i+1),ct:=Pv (i+1),bk:=D.nx} j H2)(M:∀Y H,Pv n Y H->D.nx Y H):
  ∃W:Nat->Nat->St->Hp->Prop,(∃m,W 0 m Y H)/\∀i m Y H,W i m Y H->
   ((UW lo n).stop i H/\D.nx Y H)\/((UW lo n).go i H/\∃N:St->Hp->Prop,(∀q U,N q U->∃B,B<m/\W (i+1) B q U)/\∀x U,(UW lo n).Pg i H x U->g x Y U λj H2=>tb {D with nx:=N,ct:=N,bk:=D.nx} j H2):=by
 show(λi m Y H=>m=n - i/\i<=n/\Pv i Y H,(n,by simp,bW _,I),?_);rintro i m Y H ⟨rfl,hi,p⟩;by_cases z:i<n
 ·show .inr (z,Pv (i+1),λq U p'=>(n -(i+1),by lk,J,z,p'),λx U y=> ?_)
  let⟨e,y⟩:=y;subst e y;show L i Y _ z p
 ·let e:i=n:=by lk
  subst e;show .inl (aS _,M Y H p)
abbrev R2:=V->V->Hp->VK->Prop
def zT(X:Cx)(f:aE->aE->Pw aE)(r:R2):Prop:=
 ∀pins s Y H x y v u Q,Inv X pins Y H s->RelV x v->RelV y u->r x y H Q->
  aW (bp X.prog X.w) X.A (f v u) (EP X pins Y Q) X.xe s
def UnR(X:Cx)(f:aE->Pw aE)(r:V->Hp->VK->Prop):Prop:=
 ∀pins s Y H x v Q,Inv X pins Y H s->RelV x v->r x H Q->
  aW (bp X.prog X.w) X.A (f v) (EP X pins Y Q) X.xe s
def uG(X:Cx)(f:aE)(r:aa V->Hp->VK->Prop):Prop:=
 ∀pins s Y H xs j Q,Inv X pins Y H s->eD xs j->r xs H Q->
  aW (bp X.prog X.w) X.A (call f j) (EP X pins Y Q) X.xe s
def XR(X:Cx)(r:V->Hp->(Bool->Hp->Prop)->Prop):Prop:=
 ∀pins s Y H x v Q,Inv X pins Y H s->RelV x v->r x H Q->
  aW (bp X.prog X.w) X.A (OV v) (TP X pins Y Q) X.xe s
def Mc(r:R2)(ta tb:TE):TE:=λY H Q=>ta Y H λx O=>tb Y O λy H2=>r x y H2 Q
def tUn(r:V->Hp->VK->Prop)(ta:TE):TE:=λY H Q=>ta Y H λx O=>r x O Q
inductive rI(C:Int->Int->Prop)(g:Int->Int->V)(x y:V)(H:Hp)(Q:VK):Prop|mk:∀i j,x=.int i->y=.int j->C i j->Q (g i j) H->rI C g x y H Q
inductive GJ(g:Int->Int->V)(x y:V)(H:Hp)(Q:VK):Prop|mk:∀i j,x=.int i->y=.int j->Q (g i j) H->GJ g x y H Q
inductive rU(g:Int->V)(x:V)(H:Hp)(Q:VK):Prop|mk:∀i,x=.int i->Q (g i) H->rU g x H Q
section
variable{X:Cx}{a b c:fK}{ta tb tc:TE}{afG:pW}
def XM(n:PE X a ta)(q:PE X b tb){H:Hp}{R:V->V->Hp->Prop}(I:Inv X pins Y H s)
  (h:ta Y H λx O=>tb Y O λy H2=>R x y H2){Q:Vp}{f:aE->aE->Pw aE}
  (z:∀v u j x y H2,Inv X pins Y H2 j->RelV x v->RelV y u->R x y H2->aW (bp X.prog X.w) X.A (f v u) Q X.xe j):
  aW (bp X.prog X.w) X.A (eval a X.env) (λv B=>aW (bp X.prog X.w) X.A (eval b X.env) (λu D=>aW (bp X.prog X.w) X.A (f v u) Q X.xe D) X.xe B) X.xe s:=by
 show gj (n pins s Y H _ I h) λv L (x,O,M,N,q1)=> ?_;show gj (q pins L Y O _ M q1) λu j (y,H2,I2,r2,q2)=> ?_;show z v u j x y H2 I2 N r2 q2
def ij{r:R2}(j:zT X (yM n) r)(z:PE X a ta)(B:PE X b tb):PE X (.BinOp a n b afG) (Mc r ta tb):=by
 intro pins s Y H Q I h;show wpAny_BinOp (XM z B I h λv u D x y H2 L M N q=>j pins D Y H2 x y v u Q L M N q)
def mU(j:UnR X (unaryOp n) r)(q:PE X a ta):PE X (.UnaryOp n a afG) (tUn r ta):=by
 intro pins s Y H Q I h;show UnaryOp_ (gj (q pins s Y H _ I h) λv z (x,O,B,D,L)=>j pins z Y O x v Q B D L)
def opI{C:Int->Int->Prop}{g:Int->Int->Int}
  (rule:∀(i j:Int) (t u:V3) (s:br) (Q:Vp) (E:Vp),C i j->Q (.int (g i j) s.toks) {s with toks:=s.toks+1}->aW (bp X.prog X.w) X.A (f (.int i t) (.int j u)) Q E s):
  zT X f (rI C λi j=>.int (g i j)):=by
 intro pins s Y H x y v u Q I n z h;let⟨i,j,rfl,rfl,hc,q⟩:=h;let⟨t,rfl⟩:=n;let⟨B,rfl⟩:=z;show rule i j t B s _ _ hc (.int (g i j),H,I.xL _,(_,J),q)
def ZV{g:Int->Int->Int}
  (rule:∀(i j:Int) (t u:V3) (s:br) (Q:Vp) (E:Vp),Q (.int (g i j) s.toks) {s with toks:=s.toks+1}->aW (bp X.prog X.w) X.A (f (.int i t) (.int j u)) Q E s):
  zT X f (GJ λi j=>.int (g i j)):=by
 intro pins s Y H x y v u Q I n z h;let⟨i,j,rfl,rfl,q⟩:=h;let⟨t,rfl⟩:=n;let⟨B,rfl⟩:=z;show rule i j t B s _ _ (.int (g i j),H,I.xL _,(_,J),q)
def Uj{g:Int->Int->Bool}
  (rule:∀(i j:Int) (t u:V3) (s:br) (Q:Vp) (E:Vp),Q (.bool (g i j)) s->aW (bp X.prog X.w) X.A (f (.int i t) (.int j u)) Q E s):
  zT X f (GJ λi j=>.bl (g i j)):=by
 intro pins s Y H x y v u Q I n z h;let⟨i,j,rfl,rfl,q⟩:=h;let⟨t,rfl⟩:=n;let⟨B,rfl⟩:=z;show rule i j t B s _ _ (.bl (g i j),H,I,J,q)
def ac3(i j:Int):Prop:=0<j/\j<1073741824
def XZ(i j:Int):Prop:=(-(2^64)<i/\i<2^64)\/(-(2^64)<j/\j<2^64)
def XZ.ok(h:XZ i j):IntMulOk i j:=by
 rcases h with⟨h1,h2⟩|⟨h1,h2⟩
 ·show .of_left (abI h1 h2)
 ·show .of_right (abI h1 h2)
def mK:zT X (yM .Add) (GJ λi j=>.int (i+j)):=ZV λ_ _ _ _ _ _ _ q=>add_int q
def pK:zT X (yM .Sub) (GJ λi j=>.int (i - j)):=ZV λ_ _ _ _ _ _ _ q=>sub_int q
def Lf:zT X (yM .Mult) (rI XZ λi j=>.int (i*j)):=opI λ_ _ _ _ _ _ _ hc q=>mul_int q hc.ok
def Ui:zT X (yM .FloorDiv) (rI ac3 λi j=>.int (i/j)):=opI λi j _ _ _ _ _ hc q=>by
 let h1:(0:Int)<j:=hc.1;let h2:j<1073741824:=hc.2;show floordiv_int (by lk) (by rw[Int.fdiv_eq_ediv_of_nonneg i (by lk)];show q) (.inl (PyProof.noPylong_small (by lk)))
def unI{g:Int->Int}
  (rule:∀(i:Int) (t:V3) (s:br) (Q:Vp) (E:Vp),Q (.int (g i) s.toks) {s with toks:=s.toks+1}->aW (bp X.prog X.w) X.A (f (.int i t)) Q E s):
  UnR X f (rU λi=>.int (g i)):=by
 intro pins s Y H x v Q I j h;let⟨i,rfl,q⟩:=h;let⟨t,rfl⟩:=j;show rule i t s _ _ (.int (g i),H,I.xL _,(_,J),q)
def kb:UnR X (unaryOp .USub) (rU λi=>.int (-i)):=unI λ_ _ _ _ _ q=>neg_int q
def WB:V->V->Bool
 | .jn,.jn=>aC| .jn,.int _=>aC| .int _,.jn=>aC| .jn,.bl _=>aC| .bl _,.jn=>aC| .jn,.str _=>aC| .str _,.jn=>aC
 | .int _,.int _=>aC| .bl _,.bl _=>aC| .str _,.str _=>aC| .Hr _,.Hr _=>aC
 | .int _,.str _=>aC| .str _,.int _=>aC| .bl _,.str _=>aC| .str _,.bl _=>aC
 |_,_=>aA
def rEq:R2:=λx y H Q=>WB x y=aC/\Q (.bl (decide (x=y))) H
def rNe:R2:=λx y H Q=>WB x y=aC/\Q (.bl (!decide (x=y))) H
def MX:decide (V.int i=V.int j)=(i==j):=by
 rw[lA];simp
def RU:decide (V.bl i=V.bl j)=(i==j):=by
 rw[lA];simp
def MW:decide (V.str i=V.str j)=(i==j):=by
 rw[lA];simp
def MY:decide (V.Hr i=V.Hr j)=(i.toList==j.toList):=by
 rw[lA];cases i;cases j;simp
def gk(I:Inv X pins Y H s)(q:Q (.bl k) H)(e:k=j):EP X pins Y Q (.bool j) s:=by
 subst e;show(.bl k,H,I,J,q)
def yk:zT X (fk .Eq) rEq:=by
 intro pins s Y H x y v u Q I D n h;let⟨B,q⟩:=h;cases x with
 |jn=>
  cases D;cases y with
  |jn=>cases n;show Y5 (gk I q (by simp))
  |bl j=>cases n;show Y7 (gk I q (by simp))
  |int j=>let⟨z,rfl⟩:=n;show Y6 (gk I q (by simp))
  |str j=>let⟨z,rfl⟩:=n;show Y4 (gk I q (by simp))
  |_=>show absurd (show aA=aC from B) bH
 |bl i=>
  cases D;cases y with
  |jn=>cases n;show Y9 (gk I q (by simp))
  |bl j=>cases n;show eq_bool (gk I q RU)
  |str j=>let⟨z,rfl⟩:=n;show Yh (gk I q (by simp))
  |_=>show absurd (show aA=aC from B) bH
 |int i=>
  let⟨t,rfl⟩:=D;cases y with
  |jn=>cases n;show Y8 (gk I q (by simp))
  |int j=>let⟨z,rfl⟩:=n;show eq_int (gk I q MX)
  |str j=>let⟨z,rfl⟩:=n;show Yg (gk I q (by simp))
  |_=>show absurd (show aA=aC from B) bH
 |str i=>
  let⟨t,rfl⟩:=D;cases y with
  |jn=>cases n;show Y3 (gk I q (by simp))
  |bl j=>cases n;show Yf (gk I q (by simp))
  |int j=>let⟨z,rfl⟩:=n;show Ye (gk I q (by simp))
  |str j=>let⟨z,rfl⟩:=n;show eq_str (gk I q MW)
  |_=>show absurd (show aA=aC from B) bH
 |Hr i=>
  let⟨t,rfl⟩:=D;cases y with
  |Hr j=>let⟨z,rfl⟩:=n;show W.eq_bytes (gk I q MY)
  |_=>show absurd (show aA=aC from B) bH
 |_=>cases y<;>show absurd (show aA=aC from B) bH
def ZT:zT X (fk .NotEq) rNe:=by
 intro pins s Y H x y v u Q I D n h;let⟨B,q⟩:=h;cases x with
 |jn=>
  cases D;cases y with
  |jn=>cases n;show YY (gk I q (by simp))
  |bl j=>cases n;show Y0 (gk I q (by simp))
  |int j=>let⟨z,rfl⟩:=n;show YZ (gk I q (by simp))
  |str j=>let⟨z,rfl⟩:=n;show YX (gk I q (by simp))
  |_=>show absurd (show aA=aC from B) bH
 |bl i=>
  cases D;cases y with
  |jn=>cases n;show Y2 (gk I q (by simp))
  |bl j=>cases n;show ne_bool (gk I q (eI not RU))
  |str j=>let⟨z,rfl⟩:=n;show Yd (gk I q (by simp))
  |_=>show absurd (show aA=aC from B) bH
 |int i=>
  let⟨t,rfl⟩:=D;cases y with
  |jn=>cases n;show Y1 (gk I q (by simp))
  |int j=>let⟨z,rfl⟩:=n;show ne_int (gk I q (eI not MX))
  |str j=>let⟨z,rfl⟩:=n;show Yc (gk I q (by simp))
  |_=>show absurd (show aA=aC from B) bH
 |str i=>
  let⟨t,rfl⟩:=D;cases y with
  |jn=>cases n;show YW (gk I q (by simp))
  |bl j=>cases n;show Yb (gk I q (by simp))
  |int j=>let⟨z,rfl⟩:=n;show Ya (gk I q (by simp))
  |str j=>let⟨z,rfl⟩:=n;show ne_str (gk I q (eI not MW))
  |_=>show absurd (show aA=aC from B) bH
 |Hr i=>
  let⟨t,rfl⟩:=D;cases y with
  |Hr j=>let⟨z,rfl⟩:=n;show W.ne_bytes (gk I q (eI not MY))
  |_=>show absurd (show aA=aC from B) bH
 |_=>cases y<;>show absurd (show aA=aC from B) bH
def wV:zT X (fk .Lt) (GJ λi j=>.bl (decide (i<j))):=Uj λ_ _ _ _ _ _ _ q=>lt_int q
def jz:zT X (fk .LtE) (GJ λi j=>.bl (decide (i<=j))):=Uj λ_ _ _ _ _ _ _ q=>le_int q
def ZU:zT X (fk .Gt) (GJ λi j=>.bl (decide (j<i))):=Uj λ_ _ _ _ _ _ _ q=>gt_int q
def Vu:zT X (fk .GtE) (GJ λi j=>.bl (decide (j<=i))):=Uj λ_ _ _ _ _ _ _ q=>ge_int q
def rO:zT X (fk .Is) (λx y H Q=>y=.jn/\Q (.bl (decide (x=.jn))) H):=by
 intro pins s Y H x y v u Q I j n h;let⟨rfl,q⟩:=h;cases n;show is_none_gen (gk I q ?_);cases x<;>first
  |(cases j;rfl)
  |(let⟨t,rfl⟩:=j;rfl)
def Uh:zT X (fk .IsNot) (λx y H Q=>y=.jn/\Q (.bl (!decide (x=.jn))) H):=by
 intro pins s Y H x y v u Q I j n h;let⟨rfl,q⟩:=h;cases n;show isnot_none_gen (gk I q ?_);cases x<;>first
  |(cases j;rfl)
  |(let⟨t,rfl⟩:=j;rfl)
def fU(b:fK)(h:j≠.In:=by decide)(h2:j≠.NotIn:=by decide):uQ j b=aA:=by
 let n:(j==CmpOp.In)=aA:=by cases j<;>first|rfl|show absurd rfl h
 let q:(j==CmpOp.NotIn)=aA:=by cases j<;>first|rfl|show absurd rfl h2
 cases b<;>simp[uQ,n,q]
def tY(n:zT X (fk j) r)(q:PE X a ta)(z:PE X b tb)(B:uQ j b=aA):PE X (.Compare a [j] [b] afG) (Mc r ta tb):=by
 intro pins s Y H Q I h;show wpAny_Compare1 (XM q z I h λv u D x y H2 L M N aav=>n pins D Y H2 x y v u Q L M N aav) B
def xV(t:TE):TT:=λY H Q=>t Y H (IB Q)
def fL(n:zT X (fk j) r)(q:PE X a ta)(z:PE X b tb)(B:uQ j b=aA):PT X (.Compare a [j] [b] afG) (xV (Mc r ta tb)):=by
 intro pins s Y H Q I h;show Pn (gj (q pins s Y H _ I h) λv D (x,O,L,M,N)=>gj (z pins D Y O _ L N) λu s2 (y,H2,I2,r2,q2)=>
  gj (n pins s2 Y H2 x y v u _ I2 M r2 q2) λc s3 (aav,H3,I3,r3,k,e,q3)=> ?_) B
 subst e;cases r3;show gy (H3,I3,q3)
inductive Sj(n:R2)(tc:TE)(Y:St)(y:V)(Q:VK)(z:V)(j:Hp):Prop|mk:∀k,z=.bl k->(if k=aC then tc Y j λq B=>n y q B Q else Q (.bl aA) j)->Sj n tc Y y Q z j
def vn(r j:R2)(ta tb tc:TE):TE:=λY H Q=>ta Y H λx O=>tb Y O λy H2=>r x y H2 (Sj j tc Y y Q)
def CS(I:zT X (fk j) r)(L:zT X (fk n) M)(N:PE X a ta)(hb:PE X b tb)(hc:PE X c tc)
  (hm:lastMarks [j,n] [b,c]=aA:=by with_unfolding_all rfl):PE X (.Compare a [j,n] [b,c] afG) (vn r M ta tb tc):=by
 intro pins s Y H Q aav h;show Compare_chain (gj (N pins s Y H _ aav h) λv s1 (x,O,I1,r1,q1)=>chain_link (gj (hb pins s1 Y O _ I1 q1) λu s2 (y,H2,I2,q,q2)=>
  gj (I pins s2 Y H2 x y v u _ I2 r1 q q2) λd s3 (aax,z,B,r3,k,e,D)=> ?_)) hm
 subst e;cases r3;show gy ?_;cases k with
 |false=>show ite_ff (.bl aA,z,B,J,D)
 |true=>show ite_tt (chain_last (gj (hc pins s3 Y z _ B D) λw' s4 (z',H4,I4,r4,q4)=>L pins s4 Y H4 y z' u w' Q I4 q r4 q4))
def jU(I:zT X (fk j) r)(L:zT X (fk n) M)(N:PE X a ta)(hb:PE X b tb)(hc:PE X c tc)
  (hm:lastMarks [j,n] [b,c]=aA:=by with_unfolding_all rfl):PT X (.Compare a [j,n] [b,c] afG) (xV (vn r M ta tb tc)):=by
 intro pins s Y H Q aav h;show isTrue_chain (gj (N pins s Y H _ aav h) λv s1 (x,O,I1,r1,q1)=>test_link (gj (hb pins s1 Y O _ I1 q1) λu s2 (y,H2,I2,q,q2)=>
  gj (I pins s2 Y H2 x y v u _ I2 r1 q q2) λd s3 (aax,z,B,r3,k,e,D)=> ?_)) hm
 subst e;cases r3;show gy ?_;cases k with
 |false=>
  let⟨k',e',q'⟩:=D;cases e';show ite_ff (z,B,q')
 |true=>
  show ite_tt (test_last (gj (hc pins s3 Y z _ B D) λw' s4 (z',H4,I4,r4,q4)=>gj (L pins s4 Y H4 y z' u w' _ I4 q r4 q4) λd' s5 (z2,H5,I5,r5,k2,e2,q5)=> ?_));subst e2;cases r5;show gy (H5,I5,q5)
def aaz(K:aq)(x:V)(H:Hp)(k:Bool):Prop:=
 match x with
 | .jn=>k=aA
 | .bl b=>k=b
 | .int i=>k=(i !=0)
 | .str y=>y.length<=bf/\k=((y.length:Int) !=0)
 | .Hr y=>y.size<=bf/\k=((y.size:Int) !=0)
 | .ref p=>(∃xs,eE K H p xs/\k= !xs.isEmpty)\/(∃xs,gg K H p xs/\k= !xs.isEmpty)\/∃kvs,H p=ag (.dK kvs)/\k= !kvs.isEmpty
 |_=>False
def Ls(r:KV kvs j):(!j.isEmpty)= !kvs.isEmpty:=by
 cases r<;>rfl
def Dj(r:eD xs afH):(!afH.toArray.isEmpty)= !xs.isEmpty:=by
 cases r<;>simp
def zD:(bf:Nat)<2^63:=by rw[dN];decide
def Wj:XR X (λx H Q=>∃k,aaz X.K x H k/\Q k H):=by
 intro pins s Y H x v Q I n h;let⟨k,e,q⟩:=h;let hl:=zD;let hs:bf=16777216:=dN;cases x with
 |jn=>
  cases n;let j:k=aA:=e;subst j;show truthy_none (H,I,q)
 |bl b=>
  cases n;let j:k=b:=e;subst j;show gy (H,I,q)
 |int i=>
  let⟨t,rfl⟩:=n;let j:k=(i !=0):=e;subst j;show PySem.P.truthy_int (H,I,q)
 |str y=>
  let⟨t,rfl⟩:=n;let⟨N,j⟩:y.length<=bf/\k=((y.length:Int) !=0):=e;subst j;show PySem.P.truthy_str (by lk) (H,I.xL _,q)
 |Hr y=>
  let⟨t,rfl⟩:=n;let⟨N,j⟩:y.size<=bf/\k=((y.size:Int) !=0):=e;subst j;show W.truthy_bytes (by lk) (H,I.xL _,q)
 |ref p=>
  cases n;let j:(∃xs,eE X.K H p xs/\k= !xs.isEmpty)\/(∃xs,gg X.K H p xs/\k= !xs.isEmpty)\/∃kvs,H p=ag (.dK kvs)/\k= !kvs.isEmpty:=e;rcases j with⟨xs,z,j⟩|⟨xs,z,j⟩|⟨kvs,z,j⟩
  ·subst j
   let⟨afH,r,D,L⟩:=I.list z;let M:=r.length;show wpAny_truthy_list D.isList (by simp![bj];lk) (H,I.xL _,by rw[Dj r];show q)
  ·subst j
   let⟨afH,r,D,L⟩:=I.tuple z;let M:=r.length;show truthy_tuple D (by simp![bj];lk) (H,I.xL _,by rw[Dj r];show q)
  ·subst j
   let⟨L,hS,B,r,m⟩:kvs.length<=bf/\(p==dM)=aA/\∃B,KV kvs B/\s.heap.DictOf (iO X.prog X.w) p B:=I.fe p _ z;let M:kvs.length=B.length:=c9 r;show wpAny_truthy_dict hS m (by lk) (H,I.xL _,by rw[Ls r];show q)
 |_=>show(show False from e).elim
def qv(j:PE X a ta)(n:∀whole,JM a X.env whole=(do let v<-whole;yT a.pos;holding [v] (OV v))):
  PT X a (λY H Q=>ta Y H λx U=>∃k,aaz X.K x U k/\Q k U):=by
 intro pins s Y H Q I h;show OY (gj (j pins s Y H _ I h) λv q (x,O,z,B,D)=>Wj pins q Y O x v Q z B D) (n _)
def vals1(r:eD [x] j):∃u,j=[u]/\RelV x u:=by
 cases r with
 |cons n q=>cases q;show(_,J,n)
def vals2(r:eD [x,y] n):∃u j,n=[u,j]/\RelV x u/\RelV y j:=by
 cases r with
 |cons q z=>
  cases z with
  |cons B D=>cases D;show(_,_,J,q,B)
def FK(hc:X.calm=aC):uG X (.builtin "max") (λxs H Q=>∃i j,xs=[.int i,.int j]/\Q (.int (if j>i then j else i)) H):=by
 intro pins s Y H xs z Q I r h;let⟨i,j,rfl,q⟩:=h;let⟨u,B,rfl,⟨t,rfl⟩,⟨D,rfl⟩⟩:=vals2 r;show max_two_ints (I.ok.hd hc) λh' tk k=>(_,H,I.nV k,?_,q);by_cases n:j>i
 ·rw[aH n,aH n];show(_,J)
 ·rw[aD n,aD n];show(_,J)
def OM(hc:X.calm=aC):uG X (.builtin "min") (λxs H Q=>∃i j,xs=[.int i,.int j]/\Q (.int (if j<i then j else i)) H):=by
 intro pins s Y H xs z Q I r h;let⟨i,j,rfl,q⟩:=h;let⟨u,B,rfl,⟨t,rfl⟩,⟨D,rfl⟩⟩:=vals2 r;show min_two_ints (I.ok.hd hc) λh' tk k=>(_,H,I.nV k,?_,q);by_cases n:j<i
 ·rw[aH n,aH n];show(_,J)
 ·rw[aD n,aD n];show(_,J)
end
structure LP(h:Heap)(x dx C:Addr)(mA:Sv):Prop where
 obj:h.get? x=some (PySem.W.instObj C dx)
 ns:h.Ns1 dx mA
 ne:dx≠x
def Od{h:cT}{dx:az}{mA:Sv}(n:h.Ns1 dx mA):∃j,h.get? dx=ag j/\∀name,uR name j=ag (mA name):=by
 let⟨o,es,ep,z,B,D,_,I⟩:_:=n;show(o,z,λname=> ?_);let e:=I name;unfold nsFind findBy at e;rw[<-Array.find?_toList] at e;unfold uR;rw[B];dsimp only;split
 ·rename_i y q
  rw[q] at e;show eI ag e
 ·rename_i q
  rw[q] at e;let a:es.toList.any (·.refKey)=aA:=by
   rw[Pd];intro y L;let⟨aav,t,M⟩:_:=D y (Array.mem_toList_iff.mp L);simp[adl,M]
  let N:¬es.toList.any (·.refKey)=aC:=by rw[a];show bH
  rw[aD N];show eI ag e
def LP.EO(I:LP h x dx C mA):∃j,W.InstAt h x (jM C dx) C (ag j)/\∀name,uR name j=ag (mA name):=
 let(j,n,hl):=Od I.ns
 (j,(I.obj,J,J,n),hl)
section
universe b
variable{K:aq}{x dx C f:az}{mA:Sv}{name:cX}{v:aE}
def get_map(X:K.In s.heap)(I:LP s.heap x dx C mA)(j:rW K C name=aC)(n:xH K C=aC)
  (q:gi K (.ref C) name=ag au)(z:mA name=ag v)(B:LZ v=aC)(h:Q v {s with toks:=s.toks+1}):
  aW (bp prog w) A (VY (.ref x) name L) Q E s:=by
 let⟨M,D,hl⟩:=I.EO;show W.get_value X D (vW j).1 (W.findObj_own n q J (by rw[hl,z])) B h
def RG(X:K.In s.heap)(I:LP s.heap x dx C mA)(j:rW K C name=aC)
  (n:gi K (.ref C) name=ag (ag (.ref f)))(q:sS K (.ref f)=aC)(z:mA name=au)(h:Q #[.ref f,[.ref x]] s):
  aW (bp prog w) A (yU (.ref x) name L) Q E s:=by
 let⟨B,D,hl⟩:=I.EO;show W.method_fn X D (vW j).1 (vW j).2 n (iF.mp q) (by change(uR name B).map (·.isSome)=ag aA;rw[hl,z];rfl) h
def TK(X:K.In s.heap)(I:LP s.heap x dx C mA)
  (z:gi K (.ref C) "__setattr__"=ag (ag (.builtin "object.__setattr__")))(B:J0 K C=aC)(D:zY K C name=ag au)(L:xH K C=aC)
  (hw:Hl mA ns)(hsz:ns.length<=bf)
  (h:∀h',LP h' x dx C (λy=>if y=name then ag v else mA y)->fH dx s.heap h'->Q () {s with heap:=h',toks:=s.toks+2}):
  aW (bp prog w) A (setAttr (.ref x) name v) Q E s:=by
 let⟨od,j,hl⟩:_:=I.EO;show W.set_plain X j z (W.osa_open (s:={s with toks:=s.toks+1}) (r:=au) X j B D λb=> ?_);let⟨cd,hc,M⟩:_:=W.any_some L;let N:s.heap.get? x=ag (.ref C,ag dx,.plain,#[]):=I.obj;show ah (am (ah (ah (wpAny_loadPart N (ah (X9 (s:={s with toks:=s.toks+1}) (W.looks_clsIn X hc) ?_))))));rw[M];show am (a:=ag dx) (ah (am (ah ?_)));show wpAny_nsSet1 (s:={s with toks:=s.toks+1}) I.ns λh' n q=> ?_;let⟨oD,esD,epD,hoD,hdD,hcD⟩:_:=n.count (YU name v hw);show ah (wpAny_lookBehind hoD (by rw[hdD];show pastItsLine_dict (bC hcD (by rw[aN];lk))) ?_);show am (h _ ((q.2 _ (ff I.ne)).trans I.obj,n,I.ne) q)
def Rl(X:K.In s.heap)(q:zZ K C=aC)
  (hi:gi K (.ref C) "__init__"=ag (ag (.ref f)))(z:W.typeIn K (.ref f)=ag (.type "function"))
  (h:qk (bp prog w) (A.under (.builtin "type.__call__" (.ref C::j,n))) (.call (.ref f) (.ref (s.heap.objs.size+1)::j,n)) (W.InitBack (s.heap.objs.size+1) R)
   {s with heap:=(s.heap.push gQ).push (jM C s.heap.objs.size)}):
  qk (bp prog w) A (.call (.ref C) (j,n)) R s:=by
 let⟨D,g,d,t,os⟩:=s;show W.make_core (W.makes_of X q) (W.looks_findIn X hi) (λB=>W.bind_fn X B z) (.inl rfl) h
end
def gM(f:cX)(v:V):aa (cX×V)->aa (cX×V)
 |[]=>[#[f,v]]
 | #[g,x]::r=>if g=f then #[g,v]::r else #[g,x]::gM f v r
theorem Ap(f g:cX)(v:V):∀fs:aa (cX×V),(gM f v fs).lookup g=if g=f then ag v else fs.lookup g
 |[]=>by
  change j8 g [#[f,v]]=_;by_cases h:g=f
  ·let j:(g==f)=aC:=iF.mpr h
   simp![j8,j,aH h]
  ·let j:(g==f)=aA:=beq_eq_false_iff_ne.mpr h
   simp![j8,j,aD h]
 | #[k,x]::r=>by
  let q:=Ap f g v r;rw[show gM f v (#[k,x]::r)=(if k=f then #[k,v]::r else #[k,x]::gM f v r) from rfl];by_cases n:k=f
  ·rw[aH n]
   by_cases h:g=k
   ·let j:(g==k)=aC:=iF.mpr h
    simp![j8,j,aH (h.trans n)]
   ·let j:(g==k)=aA:=beq_eq_false_iff_ne.mpr h
    simp![j8,j,aD (λe:g=f=>h (e.trans n.symm))]
  ·rw[aD n]
   by_cases h:g=k
   ·let j:(g==k)=aC:=iF.mpr h
    simp![j8,j,aD (λe:g=f=>n (h.symm.trans e))]
   ·let j:(g==k)=aA:=beq_eq_false_iff_ne.mpr h
    simp![j8,j];show q
theorem zG(f:cX)(v:V):∀fs:aa (cX×V),f∈(gM f v fs).map (·.1)/\∀g,g∈fs.map (·.1)->g∈(gM f v fs).map (·.1)
 |[]=>(by simp[gM],λg h=>by simp at h)
 | #[k,x]::r=>by
  let⟨i1,n⟩:=zG f v r;rw[show gM f v (#[k,x]::r)=(if k=f then #[k,v]::r else #[k,x]::gM f v r) from rfl];by_cases j:k=f
  ·rw[aH j]
   subst j;show(by simp,λg h=>by simpa using h)
  ·rw[aD j]
   show(?_,λg h=> ?_)
   ·rw[bi]
    show aM _ i1
   ·rw[bi] at h⊢
    rcases aT.mp h with e|e
    ·show aT.mpr (.inl e)
    ·show aM _ (n g e)
theorem Aq(f:cX)(v:V):∀fs:aa (cX×V),(gM f v fs).length<=fs.length+1
 |[]=>by simp[gM]
 | #[k,x]::r=>by
  let n:=Aq f v r;rw[show gM f v (#[k,x]::r)=(if k=f then #[k,v]::r else #[k,x]::gM f v r) from rfl];by_cases j:k=f
  ·rw[aH j,aN,aN];lk
  ·rw[aD j,aN,aN];lk
def nE.wc(r:nE (ag v) o):∃u,o=ag u/\RelV v u:=by
 cases o with
 |none=>show(show False from r).elim
 |some u=>show(u,J,r)
def nE.Um(r:nE au o):o=au:=by
 cases o with
 |none=>rfl
 |some u=>show(show False from r).elim
def FC(r:RelV v u):LZ u=aC:=by
 cases v with
 |jn=>cases(show u=dJ from r);rfl
 |bl b=>cases(show u=oX b from r);rfl
 |int i=>let⟨t,e⟩:=(show∃t,u=sR i t from r);cases e;rfl
 |str x=>let⟨t,e⟩:=(show∃t,u=zW x t from r);cases e;rfl
 |Hr b=>let⟨t,e⟩:=(show∃t,u=V2 b t from r);cases e;rfl
 |flt b=>let⟨t,e⟩:=(show∃t,u=V1 b t from r);cases e;rfl
 |ref a=>cases(show u=aK a from r);rfl
 |ty n=>cases(show u=ke n from r);rfl
section
variable{P:bq}{w:World}{H U:Hp}{h h':cT}{a C dx:az}{fs af2:aa (cX×V)}
def Bt(j:sL P w H h)(e:H a=ag (.lM C dx fs)):∃mA,LP h a dx C mA/\(∀f,nE (fs.lookup f) (mA f))/\Hl mA (fs.map (·.1))/\fs.length<=1000/\H dx=ag (.own a):=by
 let⟨d,z,B,D,mA,n,r,q⟩:_:=(show fP P w H h a (.lM C dx fs) from j a _ e);show(mA,(D,n,B),r,q,z,d)
end
structure LR(K:PySem.W.Frag)(C:Addr):Prop where
 pg:PySem.W.plainGet K C Str.empty=true
 hd:PySem.W.hasDictIn K C=true
 po:PySem.W.plainOver K C=true
 sa:PySem.W.findIn K (.ref C) "__setattr__"=some (some (.builtin "object.__setattr__"))
def LR.get{K:aq}{C:az}(c:LR K C)(f:cX):rW K C f=aC:=c.pg
def mM(K:aq)(C:az)(f:cX):Prop:=gi K (.ref C) f=ag au
def mM.Zr{K:aq}{C:az}{f:cX}(n:mM K C f):zY K C f=ag au:=by
 unfold zY;rw[show gi K (.ref C) f=ag au from n];rfl
structure OS(K:PySem.W.Frag)(C:Addr)(m:Str)(f:Addr):Prop where
 at_:PySem.W.findIn K (.ref C) m=some (some (.ref f))
 fn:PySem.W.isFn K (.ref f)=true
 kp:PySem.W.keepIn K (.ref f)=true
section
variable{X:Cx}{pins:La}{Y:St}{H:Hp}{s:br}{a C dx:az}{fs:aa (cX×V)}{f:cX}{v:V}{A:dG}{E:Vp}
def Lv(I:Inv X pins Y H s)(e:H a=ag (.lM C dx fs))(c:LR X.K C)(n:mM X.K C f)(l:fs.lookup f=ag v)
  (h:∀u s',Inv X pins Y H s'->RelV v u->Q u s'):aW (bp X.prog X.w) A (VY (.ref a) f b) Q E s:=by
 let⟨mA,q,r,_,_,_⟩:_:=Bt I.fe e;let⟨u,z,j⟩:_:=nE.wc (v:=v) (o:=mA f) (by rw[<-l];show r f);show get_map I.Hq q (c.get f) c.hd n z (FC j) (h u _ (I.xL _) j)
def Dr(I:Inv X pins Y H s)(e:H a=ag (.lM C dx fs))(c:LR X.K C)(k:OS X.K C m g)(l:fs.lookup m=au)
  (h:Q #[.ref g,[.ref a]] s):aW (bp X.prog X.w) A (yU (.ref a) m q) Q E s:=by
 let⟨mA,j,r,_,_,_⟩:_:=Bt I.fe e;let n:mA m=au:=nE.Um (by rw[<-l];show r m);show RG I.Hq j (c.get m) k.at_ k.fn n h
def KE(I:Inv X pins Y H s)(e:H a=ag (.lM C dx fs))(c:LR X.K C)(n:mM X.K C f)(hl:fs.length<1000)(M:RelV y u)
  (h:∀s',Inv X pins Y (bD H a (.lM C dx (gM f y fs))) s'->Q () s'):aW (bp X.prog X.w) A (setAttr (.ref a) f u) Q E s:=by
 let⟨mA,j,r,D,_,L⟩:_:=Bt I.fe e;let N:(fs.map (·.1)).length<=bf:=by rw[ao,dN];lk
 show TK I.Hq j c.sa c.po n.Zr c.hd D N λh' B sb=>h _ ?_;let aav:∃o,h'.get? dx=ag o:=let(o,_,_,e',_):=B.ns;(o,e');show I.pQ (x:=a) (e:=dx) (by rw[e];show jF) (.inr L) (λb q hb z=>(sb.2 b hb).trans z) aav ?_;show(by rw[aZ j.ne];show L,?_,j.ne,B.obj,_,B.ns,λg=> ?_,λg hg=> ?_)
 ·let:=Aq f y fs;lk
 ·change nE ((gM f y fs).lookup g) (if g=f then ag u else mA g)
  rw[Ap];by_cases q:g=f
  ·rw[aH q,aH q];show M
  ·rw[aD q,aD q];show r g
 ·by_cases q:g=f
  ·rw[q];show(zG f y fs).1
  ·show(zG f y fs).2 g (D g λz=>hg ?_)
   change(if g=f then ag u else mA g)=au;rw[aD q];show z
def Inv.made(I:Inv X pins Y H s):Inv X pins Y (bD (bD H s.heap.objs.size (.own (s.heap.objs.size+1))) (s.heap.objs.size+1) (.lM C s.heap.objs.size []))
  {s with heap:=(s.heap.push gQ).push (jM C s.heap.objs.size)}:=by
 let j:(s.heap.push gQ).get? s.heap.objs.size=ag gQ:=aG s.heap J;let z:((s.heap.push gQ).push (jM C s.heap.objs.size)).get? (s.heap.objs.size+1)=ag (jM C s.heap.objs.size):=by
  let:=aG (s.heap.push gQ) (o:=jM C s.heap.objs.size) J
  rwa [cV] at this
 let B:(s.heap.push gQ).Ns s.heap.objs.size (λ_=>au):=(gQ,#[],_,j,J,(λe D=>absurd D (by simp)),λ_=>rfl);let L:=I.pL (a:=s.heap.objs.size) (o:=.own (s.heap.objs.size+1)) (h':=s.heap.push gQ) (t':=s.toks) (λb u q=>al _ q) (aS _) (_,j);show L.pL (a:=s.heap.objs.size+1) (o:=.lM C s.heap.objs.size []) (t':=s.toks) (λb u q=>al _ q) (uS (cV _ _)) ?_;let n:s.heap.objs.size≠s.heap.objs.size+1:=bw (jC _);show(by rw[aZ n,aw],bW _,n,z,λ_=>au,(Heap.Ns1.of_empty B).at λo q=>al _ q,λ_=>jF,λy M=>absurd rfl M)
def Hb(j:lZ e f env (eval e env)=eval e env)
  (h:aW (bp prog w) A (eval e env) (λo n=>aW (bp prog w) A (VY o f aC) Q E n) E s):aW (bp prog w) A (eval (.Attribute e f afG) env) Q E s:=
 Attribute_any_ h (by rw[arm_eval_Attribute,j])
end
inductive aaI(K:aq)(f:cX)(Q:VK)(x:V)(O:Hp):Prop|mk:∀a C dx fs v,x=.ref a->O a=ag (.lM C dx fs)->LR K C->mM K C f->fs.lookup f=ag v->Q v O->aaI K f Q x O
def acd(K:aq)(ta:TE)(f:cX):TE:=λY H Q=>ta Y H (aaI K f Q)
inductive ISF(K:aq)(f:cX)(D:Ends)(Y:St)(y x:V)(H2:Hp):Prop|mk:∀a C dx fs,x=.ref a->H2 a=ag (.lM C dx fs)->LR K C->mM K C f->fs.length<1000->D.nx Y (bD H2 a (.lM C dx (gM f y fs)))->ISF K f D Y y x H2
def acl(K:aq)(ta tv:TE)(f:cX):TS:=λD Y H=>tv Y H λy O=>ta Y O (ISF K f D Y y)
section
variable{X:Cx}{o e afN:fK}{f:cX}{afG afS af0:pW}{ta tv:TE}
def cA(j:PE X e ta)(z:lZ e f X.env (eval e X.env)=eval e X.env):PE X (.Attribute e f afG) (acd X.K ta f):=by
 intro pins s Y H Q I h;show Hb z (gj (j pins s Y H _ I h) λu s1 (x,O,B,D,a,C,dx,fs,v,ex,L,c,n,l,q)=> ?_);subst ex;obtain rfl:u=aK a:=D;show Lv B L c n l λu' s2 M N=>(v,O,M,N,q)
def mJ(j:PE X o ta)(n:PE X afN tv)(z:yS afN (ag (.Attribute o f afS)) afG.line X.env=i8 aA):PS X (.Assign [.Attribute o f afS] afN afG) (acl X.K ta tv f):=by
 intro pins s Y H aax I h;show plainObj_wpAny_Assign_Attribute (gj (n pins s Y H _ I h) λu B (y,O,D,L,q)=>gj (j pins B Y O _ D q) λM s2 (x,H2,N,rx,a,C,dx,fs,ex,ea,c,aav,l,q2)=> ?_) z;subst ex;obtain rfl:M=aK a:=rx;show KE N ea c aav l L λs3 I3=>(Y,_,I3,q2)
end
section
variable{X:Cx}{pins:La}{Y:St}{H:Hp}{s:br}{A:dG}{E:Vp}{Q:Vp}{c:aE}{b:Bool}
end
structure fo(k:Nat)(A:Around):Prop where
 hd:A.handled=none
 dp:A.depth+3*k+5<recursionLimit
 un:A.units+16*k+200<cLine
def fo.bA(r:fo k A)(h:j<=k):fo j A:=(r.hd,by let:=r.dp;lk,by let:=r.un;lk)
theorem fo.deeper(r:fo (k+1) A)(env:L8):fo k (A.deeper env):=
 (r.hd,by let:=r.dp;change A.depth+1+3*k+5<_;lk,by let:=r.un;change A.units+3+16*k+200<_;lk)
def Ll{A:dG}{C:az}{j:aa aE}{n:aa (cX×aE)}:(A.under (.builtin "type.__call__" (.ref C::j,n))).depth=A.depth+1:=by
 first|rfl|simp[Ga,Code.weight,Code.isCreation,Code.isGuard,Code.isCaller,Ym,HB,guardIds]
def Lk{A:dG}{C:az}{j:aa aE}{n:aa (cX×aE)}:(A.under (.builtin "type.__call__" (.ref C::j,n))).units=A.units+1:=by
 first|rfl|simp[Ga,Code.cUnits,Ym,HB]
def fo.Xd(r:fo (k+1) A)(C:az)(j:aa aE)(n:aa (cX×aE)):fo k (A.under (.builtin "type.__call__" (.ref C::j,n))):=
 (r.hd,by let:=r.dp;rw[Ll];lk,by let:=r.un;rw[Lk];lk)
theorem fo.depth(r:fo k A):A.depth<fE:=by let:=r.dp;lk
def wE:TA:=λ_ H Q=>Q [] H
def BX(ta:TE)(j:TA):TA:=λY H Q=>ta Y H λx O=>j Y O λxs H2=>Q (x::xs) H2
section
variable{X:Cx}{e:fK}{es:aa fK}{te:TE}{t:TA}{afG:pW}
def aB:PA X [] wE:=λ_ _ _ _ H Q I h=>gf ([],H,I,.nil,h)
def ak(j:PE X e te)(n:PA X es t)(q:bU (e::es) X.env= #[aA,eval e X.env]::bU es X.env:=by rfl):PA X (e::es) (BX te t):=by
 intro afG pins s Y H Q I h;rw[q];show dQ (gj (j pins s Y H _ I h) λu z (x,O,B,D,L)=> ?_);show gj (n afG pins z Y O _ B L) λus s2 (xs,H2,M,N,q2)=>(x::xs,H2,M,.cons D N,q2)
def ab8(t:TA):TE:=λY H Q=>t Y H λxs O=>xs.length<=bf/\∀p,O p=au->Q (.ref p) (bD O p (.dC xs))
def Zw(t:TA):TE:=λY H Q=>t Y H λxs O=>xs.length<=bf/\∀p,O p=au->Q (.ref p) (bD O p (.bZ xs))
def jf{B}(h:PA X es t):PE X (.Tuple es B afG) (ab8 t):=by
 intro pins s Y H Q I D;show SY (gj (h afG pins s Y H _ I D) λL j (xs,O,n,r,z,q)=>(by rw[<-r.length];show z,?_));let M:=n.fe.fresh (aS _);show(.ref j.heap.objs.size,bD O j.heap.objs.size (.dC xs),n.pL (t':=j.toks) (λb u e=>al _ e) (aS _) ?_,J,q _ M);show(z,L,r,(_,aG _ rfl,J,_,J))
def d9(h:PA X es t):PE X (.List es afG) (Zw t):=by
 intro pins s Y H Q I B;show wpAny_List_spliced (gj (h afG pins s Y H _ I B) λD j (xs,O,n,r,z,q)=>(by rw[<-r.length];show z,?_));let L:=n.fe.fresh (aS _);show(.ref j.heap.objs.size,bD O j.heap.objs.size (.bZ xs),n.pL (t':=j.toks) (λb u e=>al _ e) (aS _) ?_,J,q _ L);show(z,D,0,r,aG _ rfl)
end
abbrev Sp:=aa V->Hp->VK->XK->Prop
abbrev OT:=aa L8->Hp->br->XK->Vp
structure LQ(P:Program)(w:World)(K:PySem.W.Frag)(mg:Sv)(base:Heap)(A:Around)(outer:List Env)(s:Shared)(H:Hp):Prop where
 frames:A.frames=some outer
 mod:Mod K mg base
 bs:∀b o,base.get? b=some o->s.heap.get? b=some o/\H b=none
 UP:base.objs.size<=s.heap.objs.size
 AT:s.heap.FunFrames base outer
 Xt:∀b∈RI outer,H b=none
 fe:sL P w H s.heap
 bare:AllBare s.gens
def CE(j:aa L8)(P:bq)(w:World)(H:Hp)(s:br)(Q:VK)(u:aE)(s':br):Prop:=
 ∃v U,s'.os=s.os/\Ey s'.gens/\Un (RI j) [] H U s.heap s'.heap/\sL P w U s'.heap/\RelV v u/\Q v U
def CR(CX:OT)(j:aa L8)(P:bq)(w:World)(H:Hp)(s:br)(Q:VK)(E:XK)(r:Result)(s':br):Prop:=
 match r with
 | .ok (.ret u)=>CE j P w H s Q u s'
 | .ok _=>False
 | .error e=>CX j H s E e s'
structure FnOk(P:Program)(w:World)(K:PySem.W.Frag)(mg:Sv)(base:Heap)(CX:OT)(k:Nat)(f:Addr)(fd:FuncData)(ps:List Str)(sp:Sp):Prop where
 len:∀vs H Q E,sp vs H Q E->vs.length=ps.length
 run:∀(A:Around) (outer:List Env) (s:Shared) (H:Hp) (args:Args) (us:List Value) (vs:List V) (Q:VK) (E:XK),fo k A->LQ P w K mg base A outer s H->BindsTo s fd args (ps.zip us)->eD vs us->sp vs H Q E->
  codeAny (model P w) A (.call (.ref f) args) (CR CX outer P w H s Q E) s
theorem FnOk.bA{P:bq}{w:World}{K:aq}{mg:Sv}{base:cT}{CX:OT}{j k:Nat}{f:az}{fd:sU}{ps:aa cX}{sp:Sp}(F:FnOk P w K mg base CX j f fd ps sp)(h:j<=k):
  FnOk P w K mg base CX k f fd ps sp:=(F.len,λA n s H args q z Q E B=>F.run A n s H args q z Q E (B.bA h))
def LQ.Xd{P:bq}{w:World}{K:aq}{mg:Sv}{base:cT}{A:dG}{j:aa L8}{s:br}{H:Hp}(e:LQ P w K mg base A j s H)(C:az)(n:aa aE)(q:aa (cX×aE)):
  LQ P w K mg base (A.under (.builtin "type.__call__" (.ref C::n,q))) j s H:=⟨by first|show e.frames|(simpa [Ga,Code.envs,HB,pushEnvs] using e.frames),e.mod,e.bs,e.UP,e.AT,e.Xt,e.fe,e.bare⟩
section
variable{X:Cx}{pins:La}{Y:St}{H:Hp}{s s':br}
def Inv.aak(I:Inv X pins Y H s):LQ X.prog X.w X.K X.mg X.base X.A X.stack s H:=
 (I.ok.frames,I.ok.mod,I.bs,bC I.ok.UP I.sz,I.stack,I.Mg,I.fe,I.bare)
def Inv.after(I:Inv X pins Y H s)(h:CE X.stack X.prog X.w H s Q u s'):EP X pins Y Q u s':=by
 let⟨v,U,os,j,n,B,r,q⟩:=h;let⟨D,g,d,t,L⟩:=s';obtain rfl:L=s.os:=os;show(v,U,I.call (h':=D) (g':=g) (d':=d) (t':=t) (ch:=[]) n B j (λb z=>absurd z (by simp)),r,q)
end
def Vl(sp:Sp)(dvs:aa V)(E:XK)(t:TA):TE:=λY H Q=>t Y H λj O=>sp (j++dvs) O Q E
inductive VO(C:az)(m:cX)(sp:Sp)(dvs:aa V)(E:XK)(t:TA)(Y:St)(Q:VK)(x:V)(O:Hp):Prop|mk:∀a dx fs,x=.ref a->O a=ag (.lM C dx fs)->fs.lookup m=au->(t Y O λj H2=>sp (x::(j++dvs)) H2 Q E)->VO C m sp dvs E t Y Q x O
def Md(C:az)(m:cX)(sp:Sp)(dvs:aa V)(E:XK)(ta:TE)(t:TA):TE:=λY H Q=>ta Y H (VO C m sp dvs E t Y Q)
def Me(C:az)(sp:Sp)(dvs:aa V)(E:XK)(t:TA):TE:=λY H Q=>t Y H λj O=>∀x dx,O x=au->O dx=au->dx≠x->
 sp (.ref x::(j++dvs)) (bD (bD O dx (.own x)) x (.lM C dx [])) (λv H2=>v=.jn/\Q (.ref x) H2) E
def Binds(K:aq)(fd:sU)(ps:aa cX)(ds:aa aE):Prop:=
 ∀s j,K.In s.heap->(j++ds).length=ps.length->BindsTo s fd (j,[]) (ps.zip (j++ds))
def Binds.all{K:aq}{fd:sU}{ps:aa cX}(h:∀j:aa aE,j.length=ps.length->qN fd (j,[])=i8 (ps.zip j)):Binds K fd ps []:=λs j _ hl=>by
 rw[dz] at hl⊢;show .of_eq (h j hl)
def uq(CX:OT)(X:Cx)(E:XK):Prop:=∀pins Y H s e s',Inv X pins Y H s->CX X.stack H s E e s'->X.xe e s'
section
variable{X:Cx}{CX:OT}{k:Nat}{f C:az}{fd:sU}{ps:aa cX}{sp:Sp}{dvs:aa V}{ds:aa aE}{E:XK}{x m:cX}{p afG afJ:pW}{e o:fK}{es:aa fK}{ta:TE}{t:TA}
def GF(F:FnOk X.prog X.w X.K X.mg X.base CX k f fd ps sp)(q:fo k X.A)(z:Binds X.K fd ps ds)(B:eD dvs ds)(D:uq CX X E)
  (I:Inv X pins Y H s)(r:eD vs us)(h:sp (vs++dvs) H Q E):aW (bp X.prog X.w) X.A (call (.ref f) us) (EP X pins Y Q) X.xe s:=by
 let n:eD (vs++dvs) (us++ds):=r.append B;let hl:(us++ds).length=ps.length:=by rw[<-n.length];show F.len _ _ _ _ h
 show JI (rV (F.run X.A X.stack s H (us,[]) (us++ds) (vs++dvs) Q E q I.aak (z s us I.Hq hl) n h) λr s' j=> ?_);cases r with
 |error e=>show D pins Y H s e s' I j
 |ok L=>
  cases L with
  |ret u=>show I.after j
  |next=>show gF j
  |brk=>show gF j
  |cont=>show gF j
def Uf(F:FnOk X.prog X.w X.K X.mg X.base CX k f fd ps sp)(n:fo k X.A)(q:Gl X x)(z:X.mg x=ag (.ref f))(B:eG X.K (.ref f)=aC)(D:Binds X.K fd ps ds)(L:eD dvs ds)(M:uq CX X E)
  (N:PA X (e::es) t)(hdb:(x==("__debug__":cX))=aA:=by decide)(he:bU (e::es) X.env= #[aA,eval e X.env]::bU es X.env:=by rfl)(hpl:(jq afG (bU es X.env)).any (·.1)=aA:=by rfl):
  PE X (.Call (.Name x p) (e::es) [] afG) (Vl sp dvs E t):=by
 intro pins s Y H Q I h;show jX (Bs I q z ?_ hdb);show qe (h₀:=X.base) I.ok.mod.Yw B (gj (N afG pins s Y H _ I h) λus s1 (vs,O,j,r,aaC)=>(j.Hq,?_)) he hpl;show GF F n D L M j r aaC
def Uc(B:PE X o ta)(c:LR X.K C)(j:OS X.K C m f)(F:FnOk X.prog X.w X.K X.mg X.base CX k f fd ps sp)(D:fo k X.A)(L:Binds X.K fd ps ds)(M:eD dvs ds)(N:uq CX X E)(ha:PA X (e::es) t)
  (hst:bU (e::es) X.env= #[aA,eval e X.env]::bU es X.env:=by rfl)(hpl:(jq afG (bU es X.env)).any (·.1)=aA:=by rfl)
  (ht:eval (.Call (.Attribute o m afJ) (e::es) [] afG) X.env=(do
   let n<-eval o X.env
   yT afJ.atName
   let #[f,first]<-holding [n] (yU n m aaC)
   JP afG f first (jq afG (bU (e::es) X.env)) (oq afG (jL [] X.env))):=by rfl):
  PE X (.Call (.Attribute o m afJ) (e::es) [] afG) (Md C m sp dvs E ta t):=by
 intro pins s Y H Q I h;show F1 (pl:=aaC) (gj (B pins s Y H _ I h) λu s1 (x,O,q,rx,a,dx,fs,ex,ea,l,aaE)=> ?_) ht;subst ex;obtain rfl:u=aK a:=rx;show Dr q ea c j l ?_;show qe (first:=[.ref a]) (h₀:=X.base) I.ok.mod.Yw j.kp (gj (ha afG pins s1 Y O _ q aaE) λaaG s2 (aaV,H2,z,r,q2)=>(z.Hq,?_)) hst hpl;show GF (us:=.ref a::aaG) (vs:=.ref a::aaV) F D L M N z (.cons rfl r) q2
def QR(z:PE X o ta)(c:LR X.K C)(n:OS X.K C m f)(F:FnOk X.prog X.w X.K X.mg X.base CX k f fd ps sp)(B:fo k X.A)(D:Binds X.K fd ps ds)(I:eD dvs ds)(L:uq CX X E)
  (M:eval (.Call (.Attribute o m afJ) [] [] afG) X.env=(do
   let q<-eval o X.env
   yT afJ.atName
   let #[f,first]<-holding [q] (yU q m N)
   JP afG f first (jq afG (bU [] X.env)) (oq afG (jL [] X.env))):=by rfl):
  PE X (.Call (.Attribute o m afJ) [] [] afG) (Md C m sp dvs E ta wE):=by
 intro pins s Y H Q aav h;show F1 (pl:=N) (gj (z pins s Y H _ aav h) λu s1 (x,O,j,rx,a,dx,fs,ex,ea,l,aax)=> ?_) M;subst ex;obtain rfl:u=aK a:=rx;show Dr j ea c n l ?_;show Hz (first:=[.ref a]) j.Hq n.kp (GF (us:=[.ref a]) (vs:=[.ref a]) F B D I L j (.cons rfl .nil) aax)
structure Mk(K:PySem.W.Frag)(C f:Addr):Prop where
 makes:PySem.W.makesIn K C=true
 acx:PySem.W.findIn K (.ref C) "__init__"=some (some (.ref f))
 fn:PySem.W.isFn K (.ref f)=true
 kp:PySem.W.keepIn K (.ref C)=true
def Iw(M:Mk X.K C f)(F:FnOk X.prog X.w X.K X.mg X.base CX k f fd ps sp)(D:fo (k+1) X.A)(L:Binds X.K fd ps ds)(N:eD dvs ds)
  (hx:uq CX X E)(I:Inv X pins Y H s)(r:eD q us)
  (h:∀x dx,H x=au->H dx=au->dx≠x->sp (.ref x::(q++dvs)) (bD (bD H dx (.own x)) x (.lM C dx [])) (λv H2=>v=.jn/\Q (.ref x) H2) E):
  aW (bp X.prog X.w) X.A (call (.ref C) us) (EP X pins Y Q) X.xe s:=by
 let z:=h (s.heap.objs.size+1) s.heap.objs.size (I.fe.fresh (kX _)) (I.fe.fresh (aS _)) (bw (jC _));let n:=Inv.made (C:=C) I;let B:eD (V.ref (s.heap.objs.size+1)::(q++dvs)) (aK (s.heap.objs.size+1)::(us++ds)):=.cons rfl (r.append N);let hl:(aK (s.heap.objs.size+1)::us++ds).length=ps.length:=by
  let e:=B.length;rw[F.len _ _ _ _ z] at e;show e.symm
 show JI (Rl (f:=f) I.Hq M.makes M.acx (iF.mp M.fn) (rV (F.run _ X.stack _ _ (aK (s.heap.objs.size+1)::us,[]) (aK (s.heap.objs.size+1)::(us++ds)) _ _ E (D.Xd C us [])
  (n.aak.Xd C us []) (L _ (aK (s.heap.objs.size+1)::us) n.Hq hl) B z) λr s' j=> ?_))
 cases r with
 |error e=>show hx pins Y _ _ e s' n j
 |ok fl=>
  cases fl with
  |ret u=>
   let⟨v,U,I3,rv,ev,q3⟩:=n.after j;subst ev;show(rv,(V.ref (s.heap.objs.size+1),U,I3,J,q3))
  |next=>show gF j
  |brk=>show gF j
  |cont=>show gF j
def Ud(M:Mk X.K C f)(F:FnOk X.prog X.w X.K X.mg X.base CX k f fd ps sp)(n:fo (k+1) X.A)(q:Gl X x)(z:X.mg x=ag (.ref C))(B:Binds X.K fd ps ds)(D:eD dvs ds)(L:uq CX X E)
  (N:PA X (e::es) t)(hdb:(x==("__debug__":cX))=aA:=by decide)(he:bU (e::es) X.env= #[aA,eval e X.env]::bU es X.env:=by rfl)(hpl:(jq afG (bU es X.env)).any (·.1)=aA:=by rfl):
  PE X (.Call (.Name x p) (e::es) [] afG) (Me C sp dvs E t):=by
 intro pins s Y H Q I h;show jX (Bs I q z ?_ hdb);show qe (h₀:=X.base) I.ok.mod.Yw M.kp (gj (N afG pins s Y H _ I h) λus s1 (vs,O,j,r,aaC)=>(j.Hq,?_)) he hpl;show Iw M F n B D L j r aaC
def QS(M:Mk X.K C f)(F:FnOk X.prog X.w X.K X.mg X.base CX k f fd ps sp)(j:fo (k+1) X.A)(n:Gl X x)(q:X.mg x=ag (.ref C))(z:Binds X.K fd ps ds)(B:eD dvs ds)(D:uq CX X E)
  (L:(x==("__debug__":cX))=aA:=by decide):PE X (.Call (.Name x p) [] [] afG) (Me C sp dvs E wE):=by
 intro pins s Y H Q I h;show jX (Bs I n q ?_ L);show Hz I.Hq M.kp (Iw (us:=[]) M F j z B D I .nil h)
end
def PK(X:Cx)(afT:aa wQ)(t:TA):Prop:=
 ∀afG pins s Y H Q,Inv X pins Y H s->t Y H Q->aW (bp X.prog X.w) X.A (evalAll ((oq afG (jL afT X.env)).map (·.2))) (AP X pins Y Q) X.xe s
section
variable{X:Cx}{CX:OT}{k:Nat}{f C:az}{fd:sU}{ps ks:aa cX}{sp:Sp}{E:XK}{x m:cX}{p afG afJ af3:pW}{e o:fK}{es:aa fK}{afT:aa wQ}{te ta:TE}{t tk:TA}{nm:ae cX}
def QN:PK X [] wE:=λ_ _ _ _ H Q I h=>wpAny_evalAll_nil ([],H,I,.nil,h)
def Mz(j:PE X e te)(n:PK X afT t):PK X ((nm,e,af3)::afT) (BX te t):=by
 intro afG pins s Y H Q I h;show wpAny_evalAll_cons (ah (gj (j pins s Y H _ I h) λu q (x,O,z,B,D)=>ah (AC (am ?_))));show gj (n afG pins q Y O _ z D) λus s2 (xs,H2,L,M,N)=>(x::xs,H2,L,.cons B M,N)
variable{g:aa aE->aa aE->aa aE}{gV:aa V->aa V->aa V}
end
structure bM(N P:List Str)(sc:Scope):Prop where
 kind:sc.kind=.function
 co:sc.isCoroutine=false
 gen:sc.isGenerator=false
 nd:N.Nodup
 pre:N.take P.length=P
 par:∀x∈P,sc.names.lookup x=some .local\/sc.names.lookup x=some .cell
 W9:∀y∈sc.names,y.2≠.free
theorem FN{kindOf:cX->ae lj}{x:cX}:∀{j:aa (cX×aE)} {m:Sv},(∀v,#[x,v]∉j)->Nh kindOf j m x=m x
 |[],_,_=>rfl
 | #[n,v]::r,m,h=>by
  unfold Nh;rw[FN λw hw=>h w (aM _ hw)];split
  ·let:x≠n:=by rintro rfl;show h v aQ
   simp[this]
  ·rfl
theorem FP{kindOf:cX->ae lj}{x:cX}:∀{j:aa (cX×aE)} {m:Sv},(∀v,#[x,v]∉j)->Ni kindOf j m x=m x
 |[],_,_=>rfl
 | #[n,v]::r,m,h=>by
  unfold Ni;rw[FP λw hw=>h w (aM _ hw)];split
  ·rfl
  ·let:x≠n:=by rintro rfl;show h v aQ
   simp[this]
theorem FO{kindOf:cX->ae lj}{x:cX}{v:aE}:∀{P:aa cX} {j:aa aE} {i:Nat} {m:Sv},P.Nodup->P[i]?=ag x->j[i]?=ag v->kindOf x=ag .local->
  Nh kindOf (P.zip j) m x=ag v
 |[],_,_,_,_,h,_,_=>by simp at h
 |_::_,[],_,_,_,_,h,_=>by simp at h
 |p::P,w::j,0,m,n,h1,h2,q=>by
  simp at h1 h2;subst h1;subst h2;change Nh kindOf (#[p,w]::P.zip j) m p=_;unfold Nh;rw[FN λv z=>(eJ.mp n).1 (lw z).1,aH q];simp
 |p::P,w::j,i+1,m,n,h1,h2,q=>by
  change Nh kindOf (#[p,w]::P.zip j) m x=_;unfold Nh;show FO (i:=i) (eJ.mp n).2 (by simpa using h1) (by simpa using h2) q
theorem FQ{kindOf:cX->ae lj}{x:cX}{v:aE}:∀{P:aa cX} {j:aa aE} {i:Nat} {m:Sv},P.Nodup->P[i]?=ag x->j[i]?=ag v->kindOf x≠ag .local->
  Ni kindOf (P.zip j) m x=ag v
 |[],_,_,_,_,h,_,_=>by simp at h
 |_::_,[],_,_,_,_,h,_=>by simp at h
 |p::P,w::j,0,m,n,h1,h2,q=>by
  simp at h1 h2;subst h1;subst h2;change Ni kindOf (#[p,w]::P.zip j) m p=_;unfold Ni;rw[FP λv z=>(eJ.mp n).1 (lw z).1,aD q];simp
 |p::P,w::j,i+1,m,n,h1,h2,q=>by
  change Ni kindOf (#[p,w]::P.zip j) m x=_;unfold Ni;show FQ (i:=i) (eJ.mp n).2 (by simpa using h1) (by simpa using h2) q
def start(N:aa cX)(j:aa V):St:=j.map ag++bR (N.length - j.length) au
def DY(CX:OT)(P:bq)(w:World)(K:aq)(mg:Sv)(base:cT)(B:aa cX)(j:cX)(afI:nh)(f:az)(n:aE)(A:dG)(q:aa L8)(s:br)(H:Hp)(E:XK):Cx where
 prog:=P
 w:=w
 K:=K
 mg:=mg
 base:=base
 A:=A.deeper (sQ j afI s.heap.objs.size f n)
 N:=B
 s_0:=s
 H_0:=H
 env:=sQ j afI s.heap.objs.size f n
 outer:=q
 stack:=sQ j afI s.heap.objs.size f n::q
 ex:=[]
 calm:=aC
 fn:=λ_=>aC
 pn:=[]
 xe:=λe s'=>aW (bp P w) (A.deeper (sQ j afI s.heap.objs.size f n)) (leaving (sQ j afI s.heap.objs.size f n) e) (λ_ z=>CX q H s E e z) (λD z=>CX q H s E D z) s'
def Js{j:nh}{n:Nat}{x:cX}(h:j.names.lookup x=ag .cell):∃c,(gh n j.names []).lookup x=ag c:=by
 let q:=EZ j.names n [] (.inl h);show Option.isSome_iff_exists.mp q
def Oo{CX:OT}{P:bq}{w:World}{K:aq}{mg:Sv}{base:cT}{N ps:aa cX}{I:cX}{afI:nh}{f:az}{L:aE}{A:dG}{M:aa L8}{s s1:br}{H:Hp}{E:XK}{us:aa aE}{q:aa V}
  (S:bM N ps afI)(hd:A.handled=au)(j:LQ P w K mg base A M s H)(hl:q.length=ps.length)(r:eD q us)
  (x:InCallC s s.heap.objs.size (Nh (sQ I afI s.heap.objs.size f L).kindOf (ps.zip us) λ_=>au) (gh (s.heap.objs.size+1) afI.names []) (Ni (sQ I afI s.heap.objs.size f L).kindOf (ps.zip us) λ_=>au) s1):
  Inv (DY CX P w K mg base N I afI f L A M s H E) [] (start N q) H s1:=by
 let hpl:ps.length<=N.length:=by let:=eI iJ S.pre;rw[dq] at this;lk
 let⟨h1,tk,rfl,hk⟩:_:=x.done;let noA:∀b:az,b∉(DY CX P w K mg base N I afI f L A M s H E).ex:=λb z=>absurd (show b∈([]:aa az) from z) (by simp);show((j.mod,S.kind,J,J,aS _,λy z c h1 h2=> ?_,λy B=> ?_,λy c _ h=> ?_,λ_=>hd,Around.frames_deeper j.frames,.inr (J,J),λb z=>absurd z (noA b),j.bs,j.UP,λb _ _=>noA b,λb z=>absurd z (noA b),j.AT,j.Xt),
  rfl,j.bare,Un.nV hk,(_,x.toInCall.ns,λi y v h1 h2 h3=> ?_),λy c h=>(_,x.cell y c h),j.fe.fresh (aS _),λy c h=> ?_,λp D=>absurd (show p∈([]:La) from D) (by simp),j.fe.nV hk,?_)
 ·show name_of_addr x.apart (di h1) (di h2)
 ·let B:afI.names.lookup y=ag .cell\/afI.names.lookup y=ag .free:=B
  rcases B with B|B
  ·show Js B
  ·show absurd rfl (S.W9 _ (di B))
 ·show hJ (x.above y c (di h))
 ·let hi:i<q.length:=by
   unfold start at h2;by_cases hi:i<q.length
   ·show hi
   ·rw[mf (by simpa using hi)] at h2
    rw[nX] at h2;split at h2<;>cases h2
  let ha:q[i]?=ag v:=by
   unfold start at h2;rw[mR (by simpa using hi),aF] at h2;cases e:q[i]? with
   |none=>rw[e] at h2;cases h2
   |some a=>rw[e] at h2;cases h2;rfl
  let⟨u,hu,rv⟩:_:=r.get ha;let D:ps[i]?=ag y:=by
   rw[<-S.pre,F6 (by lk)];show h1
  let ndP:ps.Nodup:=by rw[<-S.pre];show S.nd.sublist (y6 _ _)
  show(u,rv,?_);rcases S.par y (bg D) with k|k
  ·show .inl (k,FO ndP D hu k)
  ·let⟨c,e⟩:_:=Js (n:=s.heap.objs.size+1) k
   show .inr (.inl k,c,e,?_);let aaC:=x.cell y c e;rw[FQ ndP D hu (by change afI.names.lookup y≠_;rw[k];decide)] at aaC;show aaC
 ·show j.fe.fresh (hJ (x.above y c (di h)))
 ·unfold start
  change _=N.length;rw[bt,ao,List.length_replicate];lk
def RJ{CX:OT}{P:bq}{w:World}{K:aq}{mg:Sv}{base:cT}{k:Nat}{f:az}{name z:cX}{aax:so}{aav:aa qc}{afI:nh}{dV kV doc pm B ct oc:aE}{an od:ae az}
  {osl:af (ae aE)}{N ps:aa cX}{sp:Sp}(lk:K.lookup f=ag (oc,od,.func (eU name z aax aav afI dV kV doc pm an B ct),osl))(hcd:ju K B z=aC)(S:bM N ps afI)
  (len:∀j H Q E,sp j H Q E->j.length=ps.length)
  (aa1:∀(A:dG) (D:aa L8) (s:br) (H:Hp) (j:aa V) (Q:VK) (E:XK),fo k (A.deeper (sQ z afI s.heap.objs.size f B))->sp j H Q E->
   ∃t,JE (DY CX P w K mg base N z afI f B A D s H E) aav t/\t {nx:=λ_ U=>Q .jn U,rt:=Q} (start N j) H):
  FnOk P w K mg base CX (k+1) f (eU name z aax aav afI dV kV doc pm an B ct) ps sp:=by
 show(len,λA D s H args us j Q E hr L hb r hsp=> ?_);let hl:=len _ _ _ _ hsp;let KX:K.In s.heap:=L.mod.Yw.keeps λb o e=>(L.bs b o e).1;let lim:s.heap.NoLimit:=L.mod.nolimit.keeps λb o e=>(L.bs b o e).1;let aa7:∀y∈ps.zip us,afI.names.lookup y.1=ag .local\/(afI.names.lookup y.1=ag .cell/\((gh (s.heap.objs.size+1) afI.names []).lookup y.1).isSome=aC):=λ(abb,v) hy=>by
  rcases S.par abb (lw hy).1 with q|q
  ·show .inl q
  ·show .inr (q,EZ _ _ _ (.inl q))
 show codeAny_call_function hr.depth (KX _ _ lk) J S.co S.gen J (W.codeRec_of KX hcd) (hb _ _ _ _ ?_);show wpAny_newFunctionEnv_cells S.kind aa7 λenv he s1 x=> ?_;subst he;show(lim.keeps x.toInCall.keep,codeAny_func ?_);let⟨t,ht,hq⟩:_:=aa1 A D s H j Q E (hr.deeper _) hsp;let abc:Inv (DY CX P w K mg base N z afI f B A D s H E) [] (start N j) H s1:=Oo S hr.hd L hl r x;show eO (ht [] s1 (start N j) H _ abc hq) (λfl s' I=> ?_) λe s' I=>I;let fin:∀{M:St} {U:Hp} {v:V} {u:aE},Inv (DY CX P w K mg base N z afI f B A D s H E) [] M U s'->RelV v u->Q v U->CE D P w H s Q u s':=
  λ{M U v u} n rv q=>(v,U,n.os,n.bare,n.base,n.fe,rv,q)
 cases fl with
 |ret u=>
  let⟨v,M,U,n,rv,q⟩:_:=I;show fin n rv q
 |next=>
  let⟨M,U,n,q⟩:_:=I;show fin (v:=V.jn) (u:=dJ) n J q
 |brk=>
  let⟨_,_,_,q⟩:_:=I;show gF q
 |cont=>
  let⟨_,_,_,q⟩:_:=I;show gF q
section
variable{X:Cx}{x:cX}{p afG:pW}{e:fK}{es:aa fK}{t:TA}{id T:String}{r:aa V->Hp->VK->Prop}
def tCB(r:aa V->Hp->VK->Prop)(t:TA):TE:=λY H Q=>t Y H λj O=>r j O Q
def d7(hc:uG X (.builtin id) r)(j:Gl X x)(n:X.mg x=au)(q:pC x=ag (.builtin id))(z:PA X (e::es) t)(B:x≠"__name__":=by decide)(D:(x==("__debug__":cX))=aA:=by decide)
  (L:bU (e::es) X.env= #[aA,eval e X.env]::bU es X.env:=by rfl)(M:(jq afG (bU es X.env)).any (·.1)=aA:=by rfl):PE X (.Call (.Name x p) (e::es) [] afG) (tCB r t):=by
 intro pins s Y H Q I h;show jX (vJ I j n q ?_ B D);show Zc (gj (z afG pins s Y H _ I h) λN s1 (vs,O,I1,r1,q1)=>hc pins s1 Y O vs N Q I1 r1 q1) L M
def jQ(hc:uG X (.type T) r)(j:Gl X x)(n:X.mg x=au)(q:pC x=ag (.type T))(z:PA X (e::es) t)(B:x≠"__name__":=by decide)(D:(x==("__debug__":cX))=aA:=by decide)
  (L:bU (e::es) X.env= #[aA,eval e X.env]::bU es X.env:=by rfl)(M:(jq afG (bU es X.env)).any (·.1)=aA:=by rfl):PE X (.Call (.Name x p) (e::es) [] afG) (tCB r t):=by
 intro pins s Y H Q I h;show jX (vJ I j n q ?_ B D);show gs (gj (z afG pins s Y H _ I h) λN s1 (vs,O,I1,r1,q1)=>hc pins s1 Y O vs N Q I1 r1 q1) L M
end
end L2
namespace HT
open PySem PyProof.Rows
def lexLt:aa Int->aa Int->Bool
 |[],[]=>aA
 |[],_::_=>aC
 |_::_,[]=>aA
 |x::xs,y::ys=>if x=y then lexLt xs ys else decide (x<y)
def nB(x y:Int)(xs ys:aa Int):lexLt (x::xs) (y::ys)=if x=y then lexLt xs ys else decide (x<y):=rfl
def o5:lexLt [] []=aA:=rfl
def vH(y:Int)(ys:aa Int):lexLt [] (y::ys)=aC:=rfl
def vI(x:Int)(xs:aa Int):lexLt (x::xs) []=aA:=rfl
def Jl(A:dG)(s:br)(a:Int)(t:V3)(c:Int)(u:V3):∃e,Ep A s (.int a t) (.int c u) e/\(e=aC↔a=c):=
 ((a==c),F0 a t c u,by simp)
def QF(A:dG)(s:br)(a:Int)(t:V3)(c:Int)(u:V3)(prog:bq)(w:World)(E:Vp)(Q:Vp)(h:Q (.bool (decide (a<c))) s):
  aW (bp prog w) A (richCompare .Lt (.int a t) (.int c u)) Q E s:=
 (Za h:aW (bp prog w) A (fk .Lt (.int a t) (.int c u)) Q E s)
section
open PySem.SeqAt
open PySem.AutoSeq1 (wpAny_loadPart')
open PySem.MeetsSeq PySem.MeetsSeq2 PySem.MeetsSeq3
def EK(l b:az)(q z:af aE)(aaG n2:Nat)(dd dd2:ae az)(sl sl2:af (ae aE))(ns L:aa Int)(hi:oB q.toList ns)(hj:oB z.toList L):
  Meets (ado ([.ref l,.ref b],[]))
   (λ_ R s=>s.heap.get? l=ag {cls:=.type "tuple",dict:=dd,data:=.seq q aaG,slots:=sl}/\s.heap.get? b=ag {cls:=.type "tuple",dict:=dd2,data:=.seq z n2,slots:=sl2}/\
    R (.ok (.ret (.bool (lexLt ns L)))) s):=
 .of_wp λprog w A R s h=>by
  let⟨M,g,d,tk,os⟩:=s;let⟨hl,hb,h⟩:=h;let f2:=BI;let z1:q.size=ns.length:=by rw[<-hi.length];simp
  let z2:z.size=L.length:=by rw[<-hj.length];simp
  wp_walk using wpAny_loadPart' hl,wpAny_loadPart' hb,qa _ (λafP b s'=>b.1=au/\s'=(M,g,d,tk,os)/\∃N ws B D,afP=N.zip ws/\
   oB N B/\oB ws D/\B.length+z.size=D.length+q.size/\R (.ok (.ret (.bool (lexLt B D)))) (M,g,d,tk,os)) _
  case turn=>
   rintro⟨y,x⟩ afP b s' ⟨hb',rfl,N,ws,B,D,j,hvi,hwi,I,n⟩;cases hvi with
   |nil=>rw[yX] at j;cases j
   |cons a t aa1=>
    cases hwi with
    |nil=>rw[xO] at j;cases j
    |cons c u aa5=>
     rw[jH] at j;injection j with hyx abb;injection hyx with hy hx;subst hy hx;rw[nB] at n;simp![aN] at I;let⟨e,he,aaE⟩:=Jl A.in1 (M,g,d,tk,os) a t c u;show ah (he prog w _ _ ?_);cases e with
     |true=>
      rw[aH (aaE.mp J)] at n
      wp_walk
      show(J,J,_,_,_,_,abb,aa1,aa5,by lk,n)
     |false=>
      rw[aD (λabc=>absurd (aaE.mpr abc) bH)] at n;let hri:=QF A.in1 (M,g,d,tk,os) a t c u prog w
      wp_walk using hri
      show(_,J,by simpa using n)
  case fin=>
   rintro⟨b1,b2⟩ s' ⟨hb',rfl,N,ws,B,D,j,hvi,hwi,I,n⟩;simp only at hb';subst hb';let hv:lexLt B D=decide (q.size<z.size):=by
    cases hvi with
    |nil=>
     cases hwi with
     |nil=>
      simp![dS] at I;rw[o5];show(decide_eq_false (by lk)).symm
     |cons c u hw=>
      simp![dS,aN] at I;rw[vH];show(decide_eq_true (by lk)).symm
    |cons a t hv=>
     cases hwi with
     |nil=>
      simp![dS,aN] at I;rw[vI];show(decide_eq_false (by lk)).symm
     |cons c u hw=>
      rw[jH] at j;cases j
   rw[hv] at n
   wp_walk
   show(_,J,by simpa [vb] using n)
  case h=>
   show(J,J,q.toList,z.toList,ns,L,J,hi,hj,by lk,h)
end
section
universe b
def Lm(hl:yQ s.heap l n)(M:yQ s.heap b q)(hi:oB n.toList ns)(N:oB q.toList j)
  (hu:A.units<fF)(h:Q (.bool (lexLt ns j)) s):aW (bp prog w) A (fk .Lt (.ref l) (.ref b)) Q E s:=by
 let⟨⟨cls,dd,aaG,sl⟩,z,hc,aav,B⟩:_:=id hl;let⟨⟨aaV,dd2,data2,sl2⟩,D,I,n2,L⟩:_:=id M;simp only at hc B I L;subst hc B I L;show OW (op:=.Lt) (_,z,J) (_,D,J) F.slot_tuple_lt F.entry_tuple_lt (F.args_tuple_lt_2 _ _) (EK l b n q aav n2 dd dd2 sl sl2 ns j hi N)
  (z,D,show oX (lexLt ns j)≠JQ/\Q (.bool (lexLt ns j)) s from((λx=>nomatch x),h)) hu
def oC(n d:Nat):ae Int->Nat
 |none=>d
 |some v=>if v<0 then(v+(n:Int)).toNat else min v.toNat n
def Cw(n d:Nat):oC n d au=d:=rfl
def rj(n d k:Nat):oC n d (ag (k:Int))=min k n:=by
 change(if(k:Int)<0 then((k:Int)+(n:Int)).toNat else min (k:Int).toNat n)=min k n;rw[aD (by lk),bE]
def WE(n d:Nat)(q:d<=n)(o:ae Int):oC n d o<=n:=by
 cases o with
 |none=>show q
 |some v=>
  change(if v<0 then(v+(n:Int)).toNat else min v.toNat n)<=n;by_cases j:v<0
  ·rw[aH j];lk
  ·rw[aD j];show Bc _ _
def M5(v:Int)(n d:Nat):(if v<0 then max (v+(n:Int)) 0 else min v (n:Int))=((oC n d (ag v):Nat):Int):=by
 change(if v<0 then max (v+(n:Int)) 0 else min v (n:Int))=(((if v<0 then(v+(n:Int)).toNat else min v.toNat n):Nat):Int);by_cases j:v<0
 ·simp![aH j];lk
 ·simp![aD j];lk
def LN(lo hi:ae Int)(n:Nat):pE lo hi 1 (n:Int)= #[((oC n 0 lo:Nat):Int),((oC n n hi:Nat):Int)]:=by
 let h1:¬((1:Int)<0):=by lk
 unfold pE;simp![h1,d8];show gX ?_ ?_
 ·cases lo with
  |none=>rfl
  |some v=>show M5 v n 0
 ·cases hi with
  |none=>rfl
  |some v=>show M5 v n n
def K0(i j:Nat):lz (i:Int) (j:Int) 1=j - i:=by
 unfold lz;let h1:(1:Int)>0:=by lk
 simp![h1,mG,Int.ediv_one];split<;>lk
def Cn(p:E2 v o)(h:Q o s):aW (bp prog w) A (Yn v) Q E s:=by
 cases p with
 |none=>show aaP h
 |int i t=>show slicePart_int h
def zr{D:az}{j q:aE}{lo hi:ae Int}{n:Nat}{Q:Int×Int×Nat->br->Prop}(I:s.heap.IsSliceOf D j q .none)(L:E2 j lo)(M:E2 q hi)
  (h:Q #[((oC n 0 lo:Nat):Int),1,oC n n hi - oC n 0 lo] s):aW (bp prog w) A (xJ (.ref D) (i8 (n:Int))) Q E s:=by
 let⟨os,z,N,B⟩:_:=id I;unfold xJ Yo;show ah (ah (dj z B (x:=j) J (ah (dj z B (x:=q) J (ah (dj z B (x:=.none) J (am ?_)))))));show ah (aaP ?_);change aW _ _ (if((1:Int)==0)=aC then _ else _) _ _ s;rw[aD (by decide)];show ah (Cn L (ah (Cn M (ah (am ?_)))));change aW _ _ (match pE lo hi 1 (n:Int) with| #[lo,hi]=>i8 #[lo,(1:Int),lz lo hi 1]) _ _ s;rw[LN lo hi n];change aW _ _ (i8 #[((oC n 0 lo:Nat):Int),(1:Int),lz ((oC n 0 lo:Nat):Int) ((oC n n hi:Nat):Int) 1]) _ _ s;rw[K0];show am h
def QP(xs:af aE)(i k:Nat):((fA k).filterMap λ(m:Nat)=>xs[((i:Int)+(m:Int)*1).toNat]?).toArray=((xs.toList.drop i).take k).toArray:=by
 let e:(λ(m:Nat)=>xs[((i:Int)+(m:Int)*1).toNat]?)=λm=>xs[i+m]?:=by
  funext m;let:((i:Int)+(m:Int)*1).toNat=i+m:=by lk
  rw[this]
 rw[e];let:=pick_run xs i k;rw[Nq] at this;let j:((λx=>xs[x]?)∘λx=>i+x)=λm=>xs[i+m]?:=rfl;rw[j] at this;rw[this]
def yy{t B:az}{j:af aE}{D I:aE}{lo hi:ae Int}{Q:Vp}(n:yQ s.heap t j)(L:s.heap.IsSliceOf B D I .none)(M:E2 D lo)(N:E2 I hi)
  (hw:¬(oC j.size 0 lo=0/\oC j.size j.size hi=j.size))
  (h:Q (.ref s.heap.objs.size) {s with heap:=s.heap.push {cls:=.type "tuple",data:=.seq ((j.toList.drop (oC j.size 0 lo)).take (oC j.size j.size hi - oC j.size 0 lo)).toArray}})
  (hsz:j.size<=bf):aW (bp prog w) A (wM (.ref t) (.ref B)) Q E s:=by
 let z:sizeOk (.seq ((j.toList.drop (oC j.size 0 lo)).take (oC j.size j.size hi - oC j.size 0 lo)).toArray):=by
  change((j.toList.drop (oC j.size 0 lo)).take (oC j.size j.size hi - oC j.size 0 lo)).toArray.size<=bf;rw[bj,dq,sW,ft];lk
 let hj:oC j.size j.size hi<=j.size:=WE _ _ (aS _) hi;let⟨os,hos,hcs,hds⟩:=id L;let hTs:s.TypeIs (.ref B) "slice":=(os,hos,hcs);unfold wM;try with_reducible show dD ?_
 first|show ah (am ?_)|skip
 show ah (wpAny_sequenceKey n.typeIs (by decide) ?_);show ah (c7 (name:=mN "__getitem__") n.typeIs nr
  (cO nr n.typeIs entry_tuple_getitem ?_ (args_tuple_getitem _ _)))
 change aW _ _ (xI (.ref t)>>=_) _ _ s;show ah (tupleItemsOf_ n ?_);show ah (rR hTs ?_);rw[aH (by decide)];show ah (zr L M N ?_);let hno:¬((((oC j.size 0 lo:Nat):Int)==0&&(1:Int)==1&&(oC j.size j.size hi - oC j.size 0 lo)==j.size)=aC):=by
  intro q;rw[cW,cW] at q;let q1:((oC j.size 0 lo:Nat):Int)=0:=eq_of_beq q.1.1;let q2:oC j.size j.size hi - oC j.size 0 lo=j.size:=eq_of_beq q.2;show hw (by lk,by lk)
 change aW _ _ (if(((oC j.size 0 lo:Nat):Int)==0&&(1:Int)==1&&(oC j.size j.size hi - oC j.size 0 lo)==j.size)=aC then _ else _) _ _ s;rw[aD hno,QP];first
  |show ah (m:=lP _) (dI (am (_,rfl,am h)) z)
  |show ah (m:=lP _) (dI (ah (am (am (_,rfl,am h)))) z)
  |show ah (ah (m:=lP _) (dI (am (am (_,rfl,am h))) z))
  |show ah (ah (m:=lP _) (dI (am (_,rfl,am h)) z))
end
end HT
namespace L2
open PySem PySem.Spec PyProof.Rows
abbrev TO:=St->Hp->(ae Int->Hp->Prop)->Prop
def PO(X:Cx)(e:ae fK)(t:TO):Prop:=
 ∀pins s Y H Q,Inv X pins Y H s->t Y H Q->
  aW (bp X.prog X.w) X.A (evalPart e X.env) (λu s'=>∃o U,Inv X pins Y U s'/\E2 u o/\Q o U) X.xe s
def TF:TO:=λ_ H Q=>Q au H
def Zv(t:TE):TO:=λY H Q=>t Y H λx O=>∃i,x=.int i/\Q (ag i) O
def intsAre_of:∀{j:aa aE},eD (ns.map V.int) j->oB j ns:=by
 induction ns with
 |nil=>intro j r;rw[qo] at r;cases r;show .nil
 |cons n ns q=>
  intro j r;rw[bi] at r;cases r with
  |cons z B=>
   let⟨t,e⟩:=z;subst e;show .cons n t (q B)
section
variable{X:Cx}{e:fK}{te:TE}{lo hi:ae fK}{tl th:TO}{afG p2:pW}
def Bo:PO X au TF:=by
 intro pins s Y H Q I h;rw[abK];show am (au,H,I,.none,h)
def oZ(h:PE X e te):PO X (ag e) (Zv te):=by
 intro pins s Y H Q I hw;rw[evalPart_some];show gj (h pins s Y H _ I hw) λu B (x,O,j,n,z)=> ?_;let⟨i,rfl,q⟩:=z;let⟨t,rfl⟩:=n;show(ag i,O,j,.int i t,q)
def SlR(X:Cx)(r:V->ae Int->ae Int->Hp->VK->Prop):Prop:=
 ∀pins s Y H x v j n lo hi q Q,Inv X pins Y H s->RelV x v->s.heap.IsSliceOf q j n .none->E2 j lo->E2 n hi->r x lo hi H Q->
  ∃T id,wK (.type T) "__getitem__"=i8 (ag (.builtin id))/\s.TypeIs v T/\aW (bp X.prog X.w) X.A (wM v (.ref q)) (EP X pins Y Q) X.xe s
def tSl(r:V->ae Int->ae Int->Hp->VK->Prop)(te:TE)(tl th:TO):TE:=λY H Q=>te Y H λx O=>tl Y O λl H2=>th Y H2 λu j=>r x l u j Q
def qw(B:SlR X r)(D:PE X e te)(hl:PO X lo tl)(L:PO X hi th):PE X (.Subscript e (.Slice lo hi au p2) afG) (tSl r te tl th):=by
 intro pins s Y H Q I h;show JS (gj (D pins s Y H _ I h) λv M (x,O,N,r1,q1)=> ?_);show wpAny_Slice (gj (hl pins M Y O _ N q1) λn s2 (l,H2,I2,pl,q2)=>gj (L pins s2 Y H2 _ I2 q2) λq j (u,z,I3,pu,q3)=> ?_);rw[abK];show am ?_;let I4:Inv X pins Y z {j with heap:=j.heap.push {cls:=.type "slice",data:=.fields (List.toArray [n,q,.none])}}:=I3.nV (t':=j.toks) λb ob aav=>al _ aav;let⟨T,id,hT,ht,hg⟩:_:=B pins {j with heap:=j.heap.push {cls:=.type "slice",data:=.fields (List.toArray [n,q,.none])}} Y z x v n q l u j.heap.objs.size Q I4 r1 (V8 ..) pl pu q3;change aW (bp X.prog X.w) X.A (LW e (.Slice lo hi au p2) v (.ref j.heap.objs.size)) (EP X pins Y Q) X.xe {j with heap:=j.heap.push {cls:=.type "slice",data:=.fields (List.toArray [n,q,.none])}};show tail_any (ops:=[.ref j.heap.objs.size,v]) ht hT hg (by with_unfolding_all rfl)
def pM(xs:aa V)(lo hi:ae Int):aa V:=(xs.drop (HT.oC xs.length 0 lo)).take (HT.oC xs.length xs.length hi - HT.oC xs.length 0 lo)
def Ay(xs:aa V)(lo hi:ae Int):(pM xs lo hi).length<=xs.length:=by
 unfold pM;rw[dq,sW];lk
inductive ZI(K:aq)(x:V)(lo hi:ae Int)(H:Hp)(Q:VK):Prop|mk:∀a xs,x=.ref a->gg K H a xs->(¬(HT.oC xs.length 0 lo=0/\HT.oC xs.length xs.length hi=xs.length))->(∀p,H p=au->Q (.ref p) (bD H p (.dC (pM xs lo hi))))->ZI K x lo hi H Q
def Qr:SlR X (ZI X.K):=by
 intro pins s Y H x v vl vu lo hi sl Q I B D L M h;let⟨a,xs,rfl,N,hw,q⟩:=h;cases B;let⟨afH,r,n,z⟩:=I.tuple N;let j:afH.toArray.size=xs.length:=by rw[bj];show r.length.symm
 show("tuple",_,nr.lookup,n.typeIs,?_);show HT.yy n D L M (by rw[j];show hw) ?_ (by rw[j];show z);rw[j];show(.ref s.heap.objs.size,_,I.pL (t':=s.toks) (o:=.dC (pM xs lo hi)) (λb ob q=>al _ q) (aS _) ?_,J,q _ (I.fe.fresh (aS _)));show(bC (Ay xs lo hi) z,_,(r.drop (HT.oC xs.length 0 lo)).take (HT.oC xs.length xs.length hi - HT.oC xs.length 0 lo),Zj _ _)
end
def Oj(n:Nat)(i:Int):ae Nat:=if 0<=i then(if i<n then ag i.toNat else au) else if -(n:Int)<=i then ag (i+n).toNat else au
def Hs{n:Type}(xs:aa n)(i:Int):ae n:=(Oj xs.length i).bind λj=>xs[j]?
def MN(h:Oj n i=ag j):seqIndex? i n=ag j/\j<n/\ -(n:Int)<=i/\i<n:=by
 unfold Oj at h;by_cases q:0<=i
 ·rw[aH q] at h
  by_cases h1:i<n
  ·rw[aH h1] at h
   let e:i.toNat=j:=aJ h;show(by rw[Sw q h1,e],by lk,by lk,h1)
  ·rw[aD h1] at h;cases h
 ·rw[aD q] at h
  by_cases h1: -(n:Int)<=i
  ·rw[aH h1] at h
   let e:(i+n).toNat=j:=aJ h;show(by rw[seqIndex_neg (by lk) h1,e],by lk,h1,by lk)
  ·rw[aD h1] at h;cases h
def M6(h:Hs xs i=ag v):∃j,seqIndex? i xs.length=ag j/\xs[j]?=ag v/\j<xs.length/\ -(xs.length:Int)<=i/\i<xs.length:=by
 unfold Hs at h;cases e:Oj xs.length i with
 |none=>rw[e] at h;cases h
 |some j=>
  rw[e] at h;let⟨h1,h2,n,q⟩:=MN e;show(j,h1,h,h2,n,q)
def b9{n:Type}{xs:aa n}{j:Nat}{v:n}(h:xs[j]?=ag v):Hs xs (j:Int)=ag v:=by
 let q:j<xs.length:=(List.getElem?_eq_some_iff.mp h).1;let e:Oj xs.length (j:Int)=ag j:=by
  unfold Oj;rw[aH (by lk),aH (by lk)];simp
 unfold Hs;rw[e];show h
def Na(b:fK):Prop:=∀o i,FX b aA o i=operate [o,i] (wM o i)
def IxR(X:Cx)(r:R2):Prop:=
 ∀afN j pins s Y H x y v u Q,Inv X pins Y H s->RelV x v->RelV y u->r x y H Q->
  FX j aA v u=operate [v,u] (wM v u)->aW (bp X.prog X.w) X.A (LW afN j v u) (EP X pins Y Q) X.xe s
def MtR(X:Cx)(id:String)(r:V->aa V->Hp->VK->Prop):Prop:=
 ∀pins s Y H x xs v j Q,Inv X pins Y H s->RelV x v->eD xs j->r x xs H Q->
  aW (bp X.prog X.w) X.A (call (.builtin id) (v::j)) (EP X pins Y Q) X.xe s
section
variable{X:Cx}{a b:fK}{ta tb:TE}{afG:pW}
def IG(j:IxR X r)(n:PE X a ta)(z:PE X b tb)(B:Na b):PE X (.Subscript a b afG) (Mc r ta tb):=by
 intro pins s Y H Q I h;show JS (XM n z I h λv u D x y H2 L M N q=>j a b pins D Y H2 x y v u Q L M N q (B _ _))
inductive QM(K:aq)(x y:V)(H:Hp)(Q:VK):Prop|mk:∀p xs i v,x=.ref p->y=.int i->eE K H p xs->Hs xs i=ag v->Q v H->QM K x y H Q
inductive ZM(K:aq)(x y:V)(H:Hp)(Q:VK):Prop|mk:∀p xs i v,x=.ref p->y=.int i->gg K H p xs->Hs xs i=ag v->Q v H->ZM K x y H Q
def cG:IxR X (QM X.K):=by
 intro afN aaE pins s Y H x y v u Q I M N h z;let⟨p,xs,i,aav,rfl,rfl,hq,he,aax⟩:=h;cases M;let⟨t,rfl⟩:=N;let⟨afH,r,n,hz⟩:=I.list hq;let⟨j,h1,h2,h3,h4,h5⟩:=M6 he;let⟨w,B,rw'⟩:=r.get h2;let hl:=r.length;let hn:=zD;let D:EP X pins Y Q w s:=(aav,H,I,rw',aax);by_cases L:0<=i
 ·let q:i.toNat=j:=by
   rw[Sw L h5] at h1;show aJ h1
  show item_listR n.isList L (by lk) (by rw[q];simpa using B) D z
 ·let q:(i+(afH.toArray.size:Int)).toNat=j:=by
   rw[seqIndex_neg (by lk) h4] at h1;rw[bj,<-hl];show aJ h1
  show wL (x:=w) n.isList.typeIs slot_list_getitem.lookup
   (wpAny_getItem_list_neg (Q:=λr s'=>r=w/\EP X pins Y Q r s') n.isList (by lk) (by rw[bj]<;>lk) (by lk) (by rw[q];simpa using B) (J,D)) z
def ef:IxR X (ZM X.K):=by
 intro afN aaE pins s Y H x y v u Q I B D h L;let⟨p,xs,i,z,rfl,rfl,M,N,q⟩:=h;cases B;let⟨t,rfl⟩:=D;let⟨afH,r,n,hz⟩:=I.tuple M;let⟨aav,h1,h2,h3,h4,h5⟩:=M6 N;let⟨w,ew,rw'⟩:=r.get h2;let hl:=r.length;let hn:=zD;let fin:EP X pins Y Q w s:=(z,H,I,rw',q);show wL (x:=w) n.typeIs slot_tuple_getitem.lookup
  (abJ (j:=aav) (Q:=λr s'=>r=w/\EP X pins Y Q r s') n (by lk) (by lk) (by rw[bj,<-hl];show h1) (by simpa using ew) (J,fin)) L
def Lj(afH:aa aE)(n j:Nat)(u:aE):iE (·.setIfInBounds j u) {cls:=.type "list",data:=.seq afH.toArray n}={cls:=.type "list",data:=.seq (afH.set j u).toArray n}:=by
 simp[iE]
theorem Inv.bZ(I:Inv X pins Y H s)(h:H p=ag (.bZ xs)):
  ∃(afH:aa aE) (n:Nat),eD xs afH/\s.heap.get? p=ag {cls:=.type "list",data:=.seq afH.toArray n}/\xs.length<=bf:=by
 let⟨z,afH,n,r,e⟩:_:=I.fe p _ h;show(afH,n,r,e,z)
def Inv.Xe{pins:La}{Y:St}{H:Hp}{s:br}{p:az}{xs ys:aa V}{afH j:aa aE}{n z:Nat}{f:Eu->Eu}(I:Inv X pins Y H s)(h:H p=ag (.bZ xs))
  (D:s.heap.get? p=ag {cls:=.type "list",data:=.seq afH.toArray n})(B:f {cls:=.type "list",data:=.seq afH.toArray n}={cls:=.type "list",data:=.seq j.toArray z})(r:eD ys j)(L:ys.length<=bf)(t:Nat):
  Inv X pins Y (bD H p (.bZ ys)) {s with heap:=s.heap.update p f,toks:=t}:=by
 let e:(s.heap.update p f).get? p=ag {cls:=.type "list",data:=.seq j.toArray z}:=by
  rw[gv f D (by rw[B]<;>rfl),B]
 show I.pQ (x:=p) (e:=p) (by rw[h];trivial) (.inl rfl) (λb u M q=>(kY _ _ (ff M)).trans q) (_,e) ?_;show(L,j,z,r,e)
inductive Vq(o i v:V)(H:Hp)(Q:Hp->Prop):Prop|mk:∀p xs k j,o=.ref p->i=.int k->H p=ag (.bZ xs)->Oj xs.length k=ag j->Q (bD H p (.bZ (xs.set j v)))->Vq o i v H Q
def x9:XT X Vq:=by
 intro pins s Y H o i v ov iv u Q I ro ri rv h;let⟨p,xs,k,j,rfl,rfl,B,hj,q⟩:=h;cases ro;let⟨t,rfl⟩:=ri;let⟨afH,aav,r,n,hz⟩:=I.bZ B;let⟨h1,h2,D,L⟩:=MN hj;let hl:=r.length;let hn:=zD;let M:Inv X pins Y (bD H p (.bZ (xs.set j v))) {s with heap:=s.heap.update p (iE (·.setIfInBounds j u))}:=
  I.Xe B n (Lj afH aav j u) (r.set rv j) (by rw[pY];show hz) s.toks
 by_cases N:0<=k
 ·let z:k.toNat=j:=by
   rw[Sw N L] at h1;show aJ h1
  show W.ki_setAt n N (by lk) (by rw[bj,<-hl];show L) (by rw[z];show(_,M,q))
 ·let z:(k+(afH.toArray.size:Int)).toNat=j:=by
   rw[seqIndex_neg (by lk) D] at h1;rw[bj,<-hl];show aJ h1
  show W.ki_setBack n (by lk) (by rw[bj,<-hl];show D) (by lk) (by rw[z];show(_,M,q))
def Gy(lo hi:ae Int)(n:Nat):(qM lo hi au n).1=((HT.oC n 0 lo:Nat):Int)/\(qM lo hi au n).2.1=((HT.oC n n hi:Nat):Int)/\(qM lo hi au n).2.2=1:=by
 show(?_,?_,J)
 ·cases lo with
  |none=>simp[qM,HT.oC]
  |some i=>
   simp![qM,HT.oC,Nk,show(1:Int)>0 by decide,mG];by_cases h:i<0
   ·simp![h,mG]<;>lk
   ·simp![h,d8]<;>lk
 ·cases hi with
  |none=>simp[qM,HT.oC]
  |some i=>
   simp![qM,HT.oC,Nk,show(1:Int)>0 by decide,mG];by_cases h:i<0
   ·simp![h,mG]<;>lk
   ·simp![h,d8]<;>lk
def EM(afH:aa aE)(lo hi:ae Int):slicePick afH.toArray lo hi au=((afH.drop (HT.oC afH.length 0 lo)).take (HT.oC afH.length afH.length hi - HT.oC afH.length 0 lo)).toArray:=by
 let⟨h1,h2,j⟩:_:=Gy lo hi afH.toArray.size;unfold slicePick;rw[h1,h2,j];simp![sliceRange_one,pick_run,bj]<;>rfl
inductive ZJ(K:aq)(x:V)(lo hi:ae Int)(H:Hp)(Q:VK):Prop|mk:∀a xs,x=.ref a->eE K H a xs->(∀p,H p=au->Q (.ref p) (bD H p (.bZ (pM xs lo hi))))->ZJ K x lo hi H Q
def x6:SlR X (ZJ X.K):=by
 intro pins s Y H x v vl vu lo hi sl Q I n z B D h;let⟨a,xs,rfl,L,q⟩:=h;cases n;let⟨afH,r,j,M⟩:=I.list L;let N:=r.length;show("list",_,slot_list_getitem.lookup,j.isList.typeIs,?_);show wpAny_getItem_list_slice j.isList z B D .none (by simp) ?_ (by rw[bj]<;>lk);rw[EM,<-N];show(.ref s.heap.objs.size,_,I.pL (t':=s.toks) (o:=.bZ (pM xs lo hi)) (λb ob q=>al _ q) (aS _) ?_,J,q _ (I.fe.fresh (aS _)));show(bC (Ay xs lo hi) M,_,0,(r.drop (HT.oC xs.length 0 lo)).take (HT.oC xs.length xs.length hi - HT.oC xs.length 0 lo),aG _ rfl)
def Aw:V->Bool
 | .jn=>aC
 | .bl _=>aC
 | .int _=>aC
 | .str _=>aC
 |_=>aA
def Vy:V->V->Bool
 | .jn,.jn=>aC
 | .bl a,.bl b=>a==b
 | .bl a,.int b=>(if a then 1 else 0)==b
 | .int a,.bl b=>a==(if b then 1 else 0)
 | .int a,.int b=>a==b
 | .str a,.str b=>a==b
 |_,_=>aA
def Xv(q:RelV y u)(j:RelV x v)(B:Aw y=aC)(z:Aw x=aC):Ep A s u v (Vy y x):=by
 cases y with
 |jn=>
  cases q;cases x with
  |jn=>cases j;show abS _
  |bl b=>cases j;show abV b
  |int b=>let⟨t,rfl⟩:=j;show abU b t
  |str b=>let⟨t,rfl⟩:=j;show abT b t
  |_=>show absurd (show aA=aC from z) bH
 |bl a=>
  cases q;cases x with
  |jn=>cases j;show abZ a
  |bl b=>cases j;show ab1 a b
  |int b=>let⟨t,rfl⟩:=j;show ab0 a b t
  |str b=>let⟨t,rfl⟩:=j;show abY a b t
  |_=>show absurd (show aA=aC from z) bH
 |int a=>
  let⟨n,rfl⟩:=q;cases x with
  |jn=>cases j;show abW a n
  |bl b=>cases j;show abX a n b
  |int b=>let⟨t,rfl⟩:=j;show F0 a n b t
  |str b=>let⟨t,rfl⟩:=j;show FZ a n b t
  |_=>show absurd (show aA=aC from z) bH
 |str a=>
  let⟨n,rfl⟩:=q;cases x with
  |jn=>cases j;show abQ a n
  |bl b=>cases j;show abR a n b
  |int b=>let⟨t,rfl⟩:=j;show FY a n b t
  |str b=>let⟨t,rfl⟩:=j;show abP a n b t
  |_=>show absurd (show aA=aC from z) bH
 |_=>show absurd (show aA=aC from B) bH
def UG(x:V)(u:aE):Bool:=match u with
 | .none=>Vy .jn x
 | .bool b=>Vy (.bl b) x
 | .int i _=>Vy (.int i) x
 | .str z _=>Vy (.str z) x
 |_=>aA
def RO(r:RelV y u)(f:Aw y=aC):UG x u=Vy y x:=by
 cases y with
 |jn=>cases r;rfl
 |bl b=>cases r;rfl
 |int i=>let⟨t,rfl⟩:=r;rfl
 |str z=>let⟨t,rfl⟩:=r;rfl
 |_=>show absurd (show aA=aC from f) bH
def M7:∀{xs:aa V} {j:aa aE},eD xs j->xs.all Aw=aC->j.any (UG x)=xs.any λy=>Vy y x:=by
 intro _ _ z;induction z with
 |nil=>
  intro _;show J
 | @cons y u xs j r t n=>
  intro f;rw[sm,cW] at f;rw[sj,sj,RO r f.1,n f.2]
def IW(q:RelV x v)(B:Aw x=aC):∀{xs:aa V} {n:aa aE},eD xs n->xs.all Aw=aC->∀u∈n,Ep A s u v (UG x u):=by
 intro _ _ z;induction z with
 |nil=>
  intro _;showλu j=>by cases j
 | @cons y u xs n r t D=>
  intro f;showλI j=>by
    rw[sm,cW] at f;rcases aT.mp j with rfl|j
    ·rw[RO r f.1];show Xv r q f.1 B
    ·show D f.2 I j
def inV(x:V)(xs:aa V):Bool:=xs.any λy=>Vy y x
inductive rIn(K:aq)(j:Bool)(x y:V)(H:Hp)(Q:VK):Prop|mk:∀p xs,y=.ref p->(eE K H p xs\/gg K H p xs)->Aw x=aC->xs.all Aw=aC->Q (.bl (if j then !inV x xs else inV x xs)) H->rIn K j x y H Q
def N4:zT X (fk .In) (rIn X.K aA):=by
 intro pins s Y H x y v u Q I z D h;let⟨p,xs,rfl,j,B,fs,q⟩:=h;cases D;rcases j with j|j
 ·let⟨afH,r,n,L⟩:=I.list j
  show SeqAt.in_listAt (UG x) n.isList (λw hw=>IW z B r fs w (by simpa using hw)) (.bl _,H,I,J,?_);rw[show afH.toArray.any (UG x)=afH.any (UG x) by simp,M7 r fs];show q
 ·let⟨afH,r,n,L⟩:=I.tuple j
  show SeqAt.in_tupleAt (UG x) n (λw hw=>IW z B r fs w (by simpa using hw)) (.bl _,H,I,J,?_);rw[show afH.toArray.any (UG x)=afH.any (UG x) by simp,M7 r fs];show q
inductive WK(K:aq)(xs:aa V)(H:Hp)(Q:VK):Prop|mk:∀p ys,xs=[.ref p]->(eE K H p ys\/gg K H p ys)->Q (.int ys.length) H->WK K xs H Q
def cJ:uG X (.builtin "len") (WK X.K):=by
 intro pins s Y H xs M Q I r h;let⟨p,ys,rfl,j,q⟩:=h;let⟨u,rfl,D⟩:=vals1 r;cases D;let N:=zD;rcases j with j|j
 ·let⟨afH,n,z,L⟩:=I.list j
  let B:=n.length;show Calls.call_len_list z.isList (by simp![bj]<;>lk) (.int ys.length,H,I.xL _,(s.toks+1,by rw[bj,B]),q)
 ·let⟨afH,n,z,L⟩:=I.tuple j
  let B:=n.length;show len_tuple z (by simp![bj]<;>lk) (.int ys.length,H,I.xL _,(s.toks+1,by rw[bj,B]),q)
def ul:uG X (.type "list") (λxs H Q=>∃p ys,xs=[.ref p]/\(eE X.K H p ys\/gg X.K H p ys)/\∀l,H l=au->Q (.ref l) (bD H l (.bZ ys))):=by
 intro pins s Y H xs us Q I r h;let⟨p,ys,rfl,q,aav⟩:=h;let⟨u,rfl,rx⟩:=vals1 r;cases rx;let N:∀afH,eD ys afH->ys.length<=bf->∀h' j,(∀b o',s.heap.get? b=ag o'->h'.get? b=ag o')->
   h'.get? s.heap.objs.size=ag {cls:=.type "list",dict:=au,data:=.seq afH.toArray j,slots:= #[]}->EP X pins Y Q (.ref s.heap.objs.size) {s with heap:=h'}:=λafH n z h' j B e=>
  (.ref s.heap.objs.size,_,I.pL (t':=s.toks) B (aS _) (show fP X.prog X.w _ h' _ (.bZ ys) from(z,afH,j,n,e)),J,aav _ (I.fe.fresh (aS _)))
 rcases q with q|q
 ·let⟨afH,n,D,z⟩:=I.list q
  let aax:=n.length;let⟨o,L,hc,aaC,M⟩:=D.isList;show abM p (.inl rfl) L hc M (λh' j B e=>N afH n z h' j B e) (by simp![bj]<;>lk)
 ·let⟨afH,n,D,z⟩:=I.tuple q
  let aax:=n.length;let⟨o,L,hc,aaC,M⟩:=D;show abM p (.inr rfl) L hc M (λh' j B e=>N afH n z h' j B e) (by simp![bj]<;>lk)
def rP:uG X (.type "tuple") (λxs H Q=>∃p ys,xs=[.ref p]/\((eE X.K H p ys/\∀l,H l=au->Q (.ref l) (bD H l (.dC ys)))\/(gg X.K H p ys/\Q (.ref p) H))):=by
 intro pins s Y H xs us Q I r h;let⟨p,ys,rfl,h⟩:=h;let⟨u,rfl,L⟩:=vals1 r;cases L;rcases h with⟨j,q⟩|⟨j,q⟩
 ·let⟨afH,n,z,B⟩:=I.list j
  let aav:=n.length;show call_tuple_list z.isList (λh' M=> ?_) (by simp![bj]<;>lk);let D:Inv X pins Y H {s with heap:=h'}:=I.nV (t':=s.toks) M;let N:Inv X pins Y (bD H h'.objs.size (.dC ys)) {s with heap:=h'.push {cls:=.type "tuple",data:=.seq afH.toArray}}:=
   D.pL (t':=s.toks) (λb o e=>al _ e) (aS _) (show fP X.prog X.w _ _ _ (.dC ys) from(B,afH,n,Zj _ _))
  show(.ref h'.objs.size,_,N,J,q _ (D.fe.fresh (aS _)))
 ·let⟨afH,n,z,B⟩:=I.tuple j
  show call_tuple_same z (.ref p,H,I,J,q)
def tyV(K:aq)(T:String)(x:V)(H:Hp):Prop:=match x with
 | .str _=>T="str"
 | .int _=>T="int"
 | .ref p=>(T="list"/\∃xs,eE K H p xs)\/(T="tuple"/\∃o,K.lookup p=ag o/\o.cls=.type "tuple"/\o.dict=au)\/
   (T="dict"/\((∃kvs,H p=ag (.dK kvs))\/∃kvs,H p=ag (.dT kvs)))\/(T="set"/\∃S n,H p=ag (.set S n))
 |_=>False
def Qb(I:Inv X pins Y H s)(r:RelV x v)(ty:tyV X.K T x H):
  s.TypeIs v T/\∀a,v=.ref a->∃D,s.heap.get? a=ag D/\D.dict=au:=by
 cases x with
 |str z=>
  let⟨t,rfl⟩:=r;cases(show T="str" from ty);show(typeIs_str s z t,λ_ e=>nomatch e)
 |int i=>
  let⟨t,rfl⟩:=r;cases(show T="int" from ty);show(U1 s i t,λ_ e=>nomatch e)
 |ref p=>
  cases r;rcases ty with⟨rfl,xs,M⟩|⟨rfl,o,j,hc,q⟩|⟨rfl,j⟩|⟨rfl,S,n,j⟩
  ·let⟨afH,_,L,_⟩:=I.list M
   show(L.isList.typeIs,λa e=> ?_);cases e;let⟨o,n,e,c,q,_⟩:=L;show(o,e,q)
  ·show((o,I.Hq p o j,hc),λa e=> ?_)
   cases e;show(o,I.Hq _ o j,q)
  ·let z:∃o,s.heap.get? p=ag o/\o.ExactDict:=by
    rcases j with⟨kvs,j⟩|⟨kvs,j⟩
    ·let⟨_,_,_,_,o,_,_,e,ex,_⟩:=I.fe p _ j
     show(o,e,ex)
    ·let⟨_,_,_,_,o,_,_,e,ex,_⟩:=I.fe p _ j
     show(o,e,ex)
   let⟨o,e,ex⟩:=z;show((o,e,ex.1),λa B=> ?_);cases B;show(o,e,ex.2.1)
  ·let⟨o,_,_,_,e,ex,_⟩:=I.fe p _ j
   show((o,e,ex.1),λa B=> ?_);cases B;show(o,e,ex.2.1)
 |_=>show gF ty
def ach(K:aq)(T:String)(r:V->aa V->Hp->VK->Prop)(to:TE):TE:=λY H Q=>to Y H λx O=>tyV K T x O/\r x [] O Q
def tBM(K:aq)(T:String)(r:V->aa V->Hp->VK->Prop)(to:TE)(t:TA):TE:=λY H Q=>to Y H λx O=>tyV K T x O/\t Y O λxs H2=>r x xs H2 Q
variable{o e:fK}{es:aa fK}{to:TE}{t:TA}{name:cX}{afJ afL:pW}{T id:String}{r:V->aa V->Hp->VK->Prop}
def Q2(q:PlainAttrs T)(z:Slot T name id)(B:typeOf (.builtin id)=i8 (.type "method_descriptor"))(D:MtR X id r)(L:PE X o to)
  (M:lZ o name X.env (eval o X.env)=eval o X.env:=by rfl)(N:(afJ.endLine==afL.line)=aC:=by rfl):PE X (.Call (.Attribute o name afJ) [] [] afL) (ach X.K T r to):=by
 intro pins s Y H Q I h;show wpAny_Call_method0_late M N (gj (L pins s Y H _ I h) λv s1 (x,O,j,n,ty,q1)=> ?_);let⟨h1,h2⟩:=Qb j n ty;show(T,id,q,z,B,h1,h2,fh J (wP (D pins s1 Y O x [] v [] Q j n .nil q1)))
def qy(z:PlainAttrs T)(B:Slot T name id)(D:typeOf (.builtin id)=i8 (.type "method_descriptor"))(I:MtR X id r)(L:PE X o to)(M:PA X (e::es) t)
  (N:lZ o name X.env (eval o X.env)=eval o X.env:=by rfl)
  (aav:((jq afL (bU (e::es) X.env)).all (λx=> !x.1)&&(oq afL (jL [] X.env)).all (λx=>x.1.isSome)
   &&decide ((e::es).length+([]:aa wQ).length+(if([]:aa wQ).isEmpty then 0 else 1)<30))=aC:=by rfl)
  (aax:(afJ.endLine==afL.line)=aC:=by rfl)(hs:bU (e::es) X.env= #[aA,eval e X.env]::bU es X.env:=by rfl)(aaC:(jq afL (bU es X.env)).any (·.1)=aA:=by rfl):
  PE X (.Call (.Attribute o name afJ) (e::es) [] afL) (tBM X.K T r to t):=by
 intro pins s Y H Q aaE h;show wpAny_Call_method_late N aav aax J (gj (L pins s Y H _ aaE h) λv s1 (x,O,j,n,ty,q1)=> ?_);let⟨h1,h2⟩:=Qb j n ty;show(T,id,z,B,D,h1,h2,?_);let q:=M afL pins s1 Y O _ j q1;rw[hs] at q⊢;show fh (by change(aA||(jq afL (bU es X.env)).any (·.1))=aA;rw[aaC]<;>rfl) (gK ?_);show gj q λus s2 (vs,H2,I2,r2,q2)=>I pins s2 Y H2 x vs v us Q I2 n r2 q2
end
def MtM(X:Cx)(id:String)(r:V->aa V->Hp->VK->Prop):Prop:=
 ∀pins s Y H x xs v j Q,Inv X pins Y H s->RelV x v->eD xs j->r x xs H Q->
  aW (bp X.prog X.w) X.A (call (.builtin id) (v::j)) (EP X pins Y Q) X.xe s
def eD.one:∀{x:V} {j:aa aE},eD [x] j->∃u,j=[u]/\RelV x u:=by
 intro x j z;cases z with
 |cons r t=>
  cases t;show(_,J,r)
def eD.zero:∀{j:aa aE},eD [] j->j=[]
 |_,.nil=>rfl
theorem eD.dropLast(h:eD xs j):eD xs.dropLast j.dropLast:=by
 induction h with
 |nil=>show .nil
 |cons r t n=>
  cases t with
  |nil=>show .nil
  |cons q z=>show .cons r n
theorem eD.rep(h:eD xs j):∀k:Nat,eD (bR k xs).flatten (bR k j).flatten
 |0=>.nil
 |k+1=>by
  rw[ja,ja,iX,iX];show eD.append h (eD.rep h k)
def LC(l:aa n):l.eraseIdx (l.length - 1)=l.dropLast:=by
 induction l with
 |nil=>rfl
 |cons a r j=>
  cases r with
  |nil=>rfl
  |cons b r=>
   let e:(a::b::r).length - 1=((b::r).length - 1)+1:=by
    let h1:(a::b::r).length=r.length+2:=rfl;let h2:(b::r).length=r.length+1:=rfl;lk
   rw[e,List.eraseIdx_cons_succ,j];all_goals rfl
theorem foldl_rep(afH:aa aE):∀k acc,
  No (λj n=>j++n) acc.toArray (bR k afH.toArray)=(acc++(bR k afH).flatten).toArray
 |0,acc=>by simp
 |k+1,acc=>by
  let e:acc.toArray++afH.toArray=(acc++afH).toArray:=by simp
  let q:(acc++afH)++(bR k afH).flatten=acc++(bR (k+1) afH).flatten:=by
   rw[ja,iX,dO]
  rw[<-q,<-foldl_rep afH k (acc++afH),<-e,ja,gB]
section
variable{X:Cx}{pins:La}{Y:St}{H:Hp}{s:br}{l b:az}{xs ys zs:aa V}
def Inv.Xf{afH its':aa aE}{n:Nat}{f:af aE->af aE}{j:Nat}(I:Inv X pins Y H s)(z:H l=ag (.bZ xs))
  (e:s.heap.get? l=ag {cls:=.type "list",data:=.seq afH.toArray n})(B:f afH.toArray=its'.toArray)(D:eD ys its')(L:ys.length<=bf):
  Inv X pins Y (bD H l (.bZ ys)) {s with heap:=s.heap.update l (iE f),toks:=j}:=by
 let q:=adh e f;rw[B] at q;show I.pQ (x:=l) (e:=l) (by rw[z];show trivial) (.inl rfl) (λb' u M N=>(kY s.heap (iE f) (ff M)).trans N) (_,q) ?_;show(L,its',_,D,q)
def Inv.Z0(I:Inv X pins Y H s)(j:eD ys afH)(n:ys.length<=bf):
  Inv X pins Y (bD H s.heap.objs.size (.bZ ys)) {s with heap:=s.heap.push {cls:=.type "list",data:=.seq afH.toArray},toks:=t'}:=
 I.pL (λ_ _ q=>al _ q) (aS _) (n,afH,0,j,aG _ rfl)
theorem Inv.fresh(I:Inv X pins Y H s):H s.heap.objs.size=au:=I.fe.fresh (aS _)
def Inv.Lp(I:Inv X pins Y H s)(j:H l=ag (.bZ xs)):xs.length<=bf/\∃afH n,eD xs afH/\xs.length=afH.length/\s.heap.get? l=ag {cls:=.type "list",data:=.seq afH.toArray n}:=by
 let⟨z,afH,n,r,e⟩:_:=I.fe l _ j;show(z,afH,n,r,r.length,e)
def IP(h:n<=bf):lQ n=aA:=by
 unfold lQ;show decide_eq_false (by lk)
end
section
variable{X:Cx}
inductive Mv(x:V)(j:aa V)(H:Hp)(Q:VK):Prop|mk:∀l xs y,x=.ref l->j=[y]->H l=ag (.bZ xs)->xs.length<bf->Q .jn (bD H l (.bZ (xs++[y])))->Mv x j H Q
def lq:MtM X "list.append" Mv:=by
 intro pins s Y H x L v M Q I z B h;let⟨l,xs,y,rfl,rfl,j,N,q⟩:=h;cases z;let⟨u,rfl,D⟩:=B.one;let⟨aav,afH,n,r,hl,e⟩:=I.Lp j;show qb F.slot_list_append (_,e,J) F.entry_list_append (F.args_list_append_2 _ _) (PySem.list_append l afH.toArray n u (by rw[bj];lk)) (e,?_);show(.jn,_,I.Xf (its':=afH++[u]) j e (by simp) (r.append (.cons D .nil)) ?_,J,q);rw[bt,va];lk
inductive Mu(x:V)(j:aa V)(H:Hp)(Q:VK):Prop|mk:∀l b xs zs,x=.ref l->j=[.ref b]->H l=ag (.bZ xs)->H b=ag (.bZ zs)->xs.length+zs.length<=bf->Q .jn (bD H l (.bZ (xs++zs)))->Mu x j H Q
def wj:MtM X "list.extend" Mu:=by
 intro pins s Y H x vs v us Q I B D h;let⟨l,b,xs,zs,rfl,rfl,z,L,hz,q⟩:=h;cases B;let⟨u,rfl,M⟩:=D.one;cases M;let⟨aaC,afH,n,r,hl,e⟩:=I.Lp z;let⟨z2,j,N,r2,hl2,e2⟩:=I.Lp L;let hsz:afH.toArray.size+j.toArray.size<=bf:=by rw[bj,bj];lk
 let aax:¬(!afH.toArray.isEmpty&&lQ (afH.toArray.size+j.toArray.size))=aC:=by
  rw[IP hsz,mh];show bH
 show qb F.slot_list_extend (_,e,J) F.entry_list_extend (F.args_list_extend_2 _ _)
  (AutoSeq1.list_extend_list_list_0 l afH.toArray n b j.toArray N aax (by rw[bj];lk) (by lk)) (e,e2,?_)
 show(.jn,_,I.Xf (its':=afH++j) z e (by simp) (r.append r2) ?_,J,q);rw[bt];lk
inductive ZL(x:V)(j:aa V)(H:Hp)(Q:VK):Prop|mk:∀l xs y,x=.ref l->j=[]->H l=ag (.bZ xs)->xs[xs.length - 1]?=ag y->Q y (bD H l (.bZ xs.dropLast))->ZL x j H Q
def Rg:MtM X "list.pop" ZL:=by
 intro pins s Y H x vs v us Q I z B h;let⟨l,xs,y,rfl,rfl,j,D,q⟩:=h;cases z;let L:=B.zero;subst L;let⟨aax,afH,n,r,hl,e⟩:=I.Lp j;let⟨u,M,N⟩:=r.get D;let hy':afH.toArray[afH.toArray.size - 1]?=ag u:=by
  change afH.toArray[afH.length - 1]?=ag u;rw[<-il,<-hl];show M
 show qb F.slot_list_pop (_,e,J) F.entry_list_pop (F.args_list_pop_1 _) (MeetsSeq.list_pop_last l afH.toArray n u hy' (by rw[bj];lk)) (e,?_);show(y,_,I.Xf (its':=afH.dropLast) j e ?_ r.dropLast ?_,N,q)
 ·change afH.toArray.eraseIdxIfInBounds (afH.toArray.size - 1)=afH.dropLast.toArray
  rw[bj,List.eraseIdxIfInBounds_toArray,LC]
 ·rw[List.length_dropLast]
  lk
inductive WL(x y:V)(H:Hp)(Q:VK):Prop|mk:∀l b xs zs,x=.ref l->y=.ref b->H l=ag (.bZ xs)->H b=ag (.bZ zs)->xs.length+zs.length<=bf->(∀p,H p=au->Q (.ref p) (bD H p (.bZ (xs++zs))))->WL x y H Q
def Lg:zT X (yM .Add) WL:=by
 intro pins s Y H x y v u Q I n z h;let⟨l,b,xs,zs,rfl,rfl,B,D,hz,q⟩:_:=h;cases n;cases z;let⟨aav,afH,aax,r,hl,e⟩:_:=I.Lp B;let⟨z2,j,n2,L,hl2,M⟩:_:=I.Lp D;show PySem.P.add_list e M ?_ (by rw[bj,bj];lk);let N:afH.toArray++j.toArray=(afH++j).toArray:=by simp
 rw[N];show(.ref _,_,I.Z0 (t':=s.toks) (r.append L) (by rw[bt];lk),J,q _ I.fresh)
inductive ZK(x y:V)(H:Hp)(Q:VK):Prop|mk:∀l k xs,x=.ref l->y=.int k->H l=ag (.bZ xs)-> -(2^63)<=k->k<2^63->xs.length*k.toNat<=bf->(∀p,H p=au->Q (.ref p) (bD H p (.bZ (bR k.toNat xs).flatten)))->ZK x y H Q
def Uw(xs:aa n)(k:Nat):(bR k xs).flatten.length=k*xs.length:=by
 induction k with
 |zero=>simp
 |succ k j=>rw[ja,iX,bt,j,JT,Nat.add_comm]
def Q5:zT X (yM .Mult) ZK:=by
 intro pins s Y H x y v u Q I D L h;let⟨l,k,xs,rfl,rfl,M,h1,h2,B,q⟩:=h;cases D;let⟨t,rfl⟩:=L;let⟨aaG,afH,n,r,hl,e⟩:=I.Lp M;let N:afH.toArray.size*k.toNat<=bf:=by rw[bj,<-hl];show B
 let aav:¬afH.toArray.size*k.toNat>(2^63 - 1)/8:=by
  let:(bf:Nat)<=(2^63 - 1)/8:=by decide
  lk
 let aax:¬(!Zk k)=aC:=by
  rw[fitsIndex_both h1 h2];show bH
 let aaC:¬lQ (afH.toArray.size*k.toNat)=aC:=by
  rw[IP N];show bH
 let aaE:No (λj z=>j++z) #[] (bR (if afH.toArray.isEmpty=aC then 0 else k.toNat) afH.toArray)=(bR k.toNat afH).flatten.toArray:=by
  let f0:∀m:Nat,No (λj z=>j++z) #[] (bR m afH.toArray)=(bR m afH).flatten.toArray:=λm=>by
   let:=foldl_rep afH m [];rw[SK] at this;show this
  rw[f0];cases afH with
  |nil=>simp
  |cons a r'=>rw[aD (by simp)]
 show wpAny_binaryOp_repeat_ref (T:="list") (U:="int") (by decide) (_,e,J) (λs'=>U1 s' k t) noFill_list_mul F.fills_int_mul V9 repeat_list F.slot_int_index.lookup
  (qb V9 (U1 s k t) F.entry_int_rmul (F.args_int_rmul_2 _ _) (int___rmul___int_list k t l afH.toArray n)
   (e,J,(_,e,J),qb F.slot_list_mul (_,e,J) F.entry_list_mul (F.args_list_mul_2 _ _) (adw l afH.toArray n k t aax aav aaC) (e,?_)))
 rw[aaE];show(.ref _,_,I.Z0 (t':=s.toks) (r.rep k.toNat) (by rw[Uw,Nat.mul_comm];show B),J,q _ I.fresh)
end
section
universe b
end
section
variable{X:Cx}
end
theorem eD.bls:∀{n:aa Bool} {j:aa aE},eD (n.map V.bl) j->j=n.map oX
 |[],j,h=>by
  rw[qo] at h;cases h;rfl
 |b::n,j,h=>by
  rw[bi] at h;cases h with
  |cons r t=>
   cases r;rw[eD.bls t,bi]
def eD.aco(r:eD [V.ref a] j):j=[aK a]:=by
 cases r with
 |cons r t=>
  cases t;cases r;rfl
section
universe b
variable{l:az}{afH:aa aE}{ns:aa Int}{Q:Vp}
end
section
variable{X:Cx}
def Rw(hl:s.heap.IsList l n)
  (h:∀j:br,j={s with heap:=s.heap.push {cls:=.type "list_iterator",data:=.fields (List.toArray [.ref l,.int 0 0])}}->
   (j.heap.IsListIter s.heap.objs.size l 0/\j.heap.IsList l n)->l≠s.heap.objs.size->Q (.ref s.heap.objs.size) j):aW (bp prog w) A (JK (.ref l)) Q E s:=by
 let q:l<s.heap.objs.size:=by let⟨_,e,_⟩:=hl;show aI e
 show uH hl (h _ rfl ((_,aG _ rfl,J,J),hl.push _) (bw q))
def HQ{prog:bq}{w:World}{A:dG}{j:aa Bool}{afH:aa aE}(e:afH=j.map oX):
  TruthOf prog w A (λi v=>afH.toArray[i]?=ag v) (λi=>j.getD i aA):=λi v s Q E z B=>by
 let n:afH[i]?=ag v:=by simpa using z
 rw[e,aF] at n;let⟨b,D,rfl⟩:=bv.mp n;let I:j.getD i aA=b:=by rw[bS,D]<;>rfl
 let q:Q (j.getD i aA) s:=B;rw[I] at q;show gy q
theorem all_range:∀j:aa Bool,(fA j.length).all (λi=>j.getD i aA)=j.all id
 |[]=>rfl
 |b::j=>by
  rw[aN,List.range_succ_eq_map,sm,List.all_map,sm,<-all_range j];all_goals rfl
inductive ZP(K:aq)(j:aa V)(H:Hp)(Q:VK):Prop|mk:∀(a:az) (n:aa Bool),j=[V.ref a]->eE K H a (n.map V.bl)->Q (.bl (n.all id)) H->ZP K j H Q
def XH(hc:X.calm=aC):uG X (.builtin "all") (ZP X.K):=by
 intro pins s Y H vs us Q I r h;let⟨a,bs,rfl,B,q⟩:=h;let⟨afH,D,hl,_⟩:=I.list B;rw[eD.aco r];let n:=D.bls;show call_all_walk (Rw hl.isList λaav L st M=> ?_);subst L;show(_,_,_,_,_,_,_,J,Walks.list (A:=X.A.in1) (I.ok.hd hc) _ a M afH.toArray,st,HQ n,λh' tk N=> ?_);show(.bl _,H,I.nV λb o z=>N b o (λj=> ?_) (al _ z),?_,q)
 ·rcases aT.mp j with e1|j
  ·show absurd (e1▸aI z) (gY _)
  ·cases j
 ·change oX _=oX _
  rw[<-all_range,n,bj,ao]
end
mutual
inductive Dp(K:PySem.W.Frag)(H:Hp):V->PyData->Prop
 |jn:Dp K H .jn .none
 |bl (b:Bool):Dp K H (.bl b) (.bool b)
 |int (i:Int):Dp K H (.int i) (.int i)
 |str (x:Str):Dp K H (.str x) (.str x)
 |bZ {a:Addr} {xs:List V} {ds:List PyData}:eE K H a xs->FV K H xs ds->Dp K H (.ref a) (.list ds)
 |dC {a:Addr} {xs:List V} {ds:List PyData}:gg K H a xs->FV K H xs ds->Dp K H (.ref a) (.tuple ds)
inductive FV(K:PySem.W.Frag)(H:Hp):List V->List PyData->Prop
 |nil:FV K H [] []
 |cons {v:V} {vs:List V} {d:PyData} {ds:List PyData}:Dp K H v d->FV K H vs ds->FV K H (v::vs) (d::ds)
end
section
variable{X:Cx}{pins:La}{Y:St}{H:Hp}{s:br}
mutual
theorem Dp.Fo(I:Inv X pins Y H s):∀d v u,Dp X.K H v d->RelV v u->∃j,Reads s.heap u d j
 | .none,_,_,h,r=>by
  cases h;cases r;show(_,Reads.none)
 | .bool b,_,_,h,r=>by
  cases h;cases r;show(_,Reads.bool b)
 | .int i,_,_,h,r=>by
  cases h;let⟨t,rfl⟩:_:=r;show(_,Reads.int i t)
 | .str x,_,_,h,r=>by
  cases h;let⟨t,rfl⟩:_:=r;show(_,Reads.str x t)
 | .list ds,_,_,h,r=>by
  cases h with
  |bZ q z=>
   cases r;let⟨afH,B,⟨o,n,D,hc,_,L⟩,_⟩:_:=I.list q;let⟨j,M⟩:_:=Dp.qu I ds _ afH z B;show(_,Reads.list D hc L M)
 | .tuple ds,_,_,h,r=>by
  cases h with
  |dC q z=>
   cases r;let⟨afH,B,⟨o,D,hc,n,L⟩,_⟩:_:=I.tuple q;let⟨j,M⟩:_:=Dp.qu I ds _ afH z B;show(_,Reads.tuple D hc L M)
 | .dict _,_,_,h,_=>by cases h
theorem Dp.qu(I:Inv X pins Y H s):∀(ds:aa Ba) (j:aa V) (n:aa aE),FV X.K H j ds->eD j n->∃q,aa6 s.heap n ds q
 |[],_,_,h,r=>by
  cases h;cases r;show(_,ReadsAll.nil)
 |d::ds,_,_,h,r=>by
  cases h with
  |cons h1 h2=>
   cases r with
   |cons z B=>
    let⟨q,D⟩:=Dp.Fo I d _ _ h1 z;let⟨M,L⟩:=Dp.qu I ds _ _ h2 B;show(_,ReadsAll.cons D L)
end
end
section
variable{X:Cx}
inductive ZO(K:aq)(x y:V)(H:Hp)(Q:VK):Prop|mk:∀d e,Dp K H x d->Dp K H y e->U9 d=aC->U9 e=aC->Q (.bl (gT d e)) H->ZO K x y H Q
def Q6(j:X.A.units+64<fF):zT X (fk .Eq) (ZO X.K):=by
 intro pins s Y H x y v u Q I n z h;let⟨d,e,B,D,L,M,q⟩:=h;let⟨as,N⟩:=Dp.Fo I d x v B n;let⟨bs,r2⟩:=Dp.Fo I e y u D z;show SeqAt.compareEq_shaped N r2 L M j (.bl _,H,I,J,q)
end
abbrev jh(h:cT)(c:az)(v:ae aE):Prop:=h.IsCell c v
def acn(afI j:nh):nh:=
 {afI with names:=afI.names.map λ#[n,k]=>if(k==.free&&j.kind==.function&&j.names.lookup n==ag .cell) then #[n,.cell] else #[n,k]}
def iC(j:aa (cX×az)):aa (cX×lj)->aa (cX×az)->aa (cX×az)
 |[],acc=>acc
 | #[n,k]::r,acc=>if k==.free then iC j r (#[n,(j.lookup n).getD 0]::acc) else iC j r acc
theorem yC(env:L8)(f:cX×lj->aa (cX×az)->Pw (ForInStep (aa (cX×az))))
  (z:∀n k c,f #[n,k] c=if k==.free then(do let a<-cellOf env n;i8 (.yield (#[n,a]::c))) else i8 (.yield c)):
  ∀q acc,(∀y∈q,y.2=.free->∃c,env.cells.lookup y.1=ag c)->forIn q acc f=i8 (iC env.cells q acc)
 |[],acc,_=>by rw[g9];rfl
 | #[n,k]::r,acc,h=>by
  rw[ie,z];let B:=λacc=>yC env f z r acc λy D=>h y (aM _ D);unfold iC;by_cases j:(k==oI)=aC
  ·rw[aH j,aH j]
   let⟨c,hc⟩:=h #[n,k] aQ (by simpa using j);let e:cellOf env n=i8 c:=by unfold cellOf;rw[hc]
   rw[e];let I:(env.cells.lookup n).getD 0=c:=by rw[hc];rfl
   rw[I];show B _
  ·rw[aD j,aD j]
   show B _
def LF(h:∀y∈afI.names,y.2=.free->∃c,env.cells.lookup y.1=ag c):U7 afI env=i8 (iC env.cells afI.names []):=by
 simp![U7];rw[yC env _ (λn k c=>rfl) afI.names [] h];rfl
theorem mem_lookup:∀{l:aa (cX×j)} {n:cX} {c:j},#[n,c]∈l->∃q,l.lookup n=ag q
 | #[k,v]::r,n,c,h=>by
  rw[kK];cases z:n==k with
  |true=>show(_,J)
  |false=>
   rcases aT.mp h with e|h
   ·cases e;simp at z
   ·show mem_lookup h
theorem rG:∀{q:aa (cX×lj)} {acc:aa (cX×az)} {n:cX} {c:az},#[n,c]∈iC z q acc-> #[n,c]∈acc\/(#[n,.free]∈q/\c=(z.lookup n).getD 0)
 |[],_,_,_,h=>.inl h
 | #[m,k]::r,acc,n,c,h=>by
  unfold iC at h;split at h
  ·rename_i j
   let j:k=.free:=by simpa using j
   rcases rG h with h|⟨h1,h2⟩
   ·rcases aT.mp h with e|h
    ·cases e;show .inr (j▸aQ,J)
    ·show .inl h
   ·show .inr (aM _ h1,h2)
  ·rcases rG h with h|⟨h1,h2⟩
   ·show .inl h
   ·show .inr (aM _ h1,h2)
theorem vP:∀{j:aa (cX×lj)} {acc:aa (cX×az)} {p:cX×az},p∈acc->p∈iC n j acc
 |[],_,_,h=>h
 | #[m,k]::r,acc,p,h=>by
  unfold iC;split
  ·show vP (aM _ h)
  ·show vP h
theorem vO:∀{j:aa (cX×lj)} {acc:aa (cX×az)} {n:cX},#[n,.free]∈j-> #[n,(cells.lookup n).getD 0]∈iC cells j acc
 | #[m,k]::r,acc,n,h=>by
  unfold iC;rcases aT.mp h with e|h
  ·cases e
   show vP aQ
  ·split
   ·show vO h
   ·show vO h
theorem sH:∀{z:aa (cX×lj)} {h:cT} {acc:aa (cX×az)} {x:cX} {c:az},#[x,c]∈gh h.objs.size z acc->
  #[x,c]∈acc\/(#[x,.cell]∈z/\h.objs.size<=c/\jh (r8 h z) c au)
 |[],_,_,_,_,h=>.inl h
 | #[n,k]::r,h,acc,x,c,j=>by
  unfold gh at j;unfold r8;split at j
  ·rename_i q
   rw[aH q];let q:k=.cell:=by simpa using q
   rw[<-cV h {cls:=.type "cell",data:=.cell au}] at j;rcases sH j with j|⟨h1,h2,B⟩
   ·rcases aT.mp j with e|j
    ·cases e
     show .inr (q▸aQ,aS _,_,xg r _ _ _ (aG _ rfl),J)
    ·show .inl j
   ·rw[cV] at h2
    show .inr (aM _ h1,si h2,B)
  ·rename_i q
   rw[aD q];rcases sH j with j|⟨h1,h2,B⟩
   ·show .inl j
   ·show .inr (aM _ h1,h2,B)
theorem ww:∀{names:aa (cX×lj)} {n:Nat} {acc:aa (cX×az)} {p:cX×az},p∈acc->p∈gh n names acc
 |[],_,_,_,h=>h
 | #[m,k]::r,n,acc,p,h=>by
  unfold gh;split
  ·show ww (aM _ h)
  ·show ww h
theorem zP:∀{j:aa (cX×lj)} {n:Nat} {acc:aa (cX×az)} {x:cX},#[x,.cell]∈j->∃c,#[x,c]∈gh n j acc
 | #[m,k]::r,n,acc,x,h=>by
  unfold gh;rcases aT.mp h with e|h
  ·cases e
   show(n,ww aQ)
  ·split
   ·show zP h
   ·show zP h
theorem zN:∀{z:aa (cX×lj)} {h:cT} {acc:aa (cX×az)} {x y:cX} {c:az},(∀p∈acc,p.2<h.objs.size)->(∀x y c,#[x,c]∈acc-> #[y,c]∈acc->x=y)->
  #[x,c]∈gh h.objs.size z acc-> #[y,c]∈gh h.objs.size z acc->x=y
 |[],_,_,_,_,_,_,hi,h1,h2=>hi _ _ _ h1 h2
 | #[n,k]::r,h,acc,x,y,c,hl,hi,h1,h2=>by
  unfold gh at h1 h2;split at h1
  ·rename_i j
   rw[aH j] at h2;rw[<-cV h {cls:=.type "cell",data:=.cell au}] at h1 h2;show zN (h:=h.push _) (λp q=> ?_) (λx y c a b=> ?_) h1 h2
   ·rw[cV]
    rcases aT.mp q with rfl|q
    ·show jC _
    ·show oH (hl p q)
   ·rcases aT.mp a with e|a<;>rcases aT.mp b with B|b
    ·cases e;cases B;rfl
    ·cases e;show absurd (hl _ b) (gY _)
    ·cases B;show absurd (hl _ a) (gY _)
    ·show hi _ _ _ a b
  ·rename_i j
   rw[aD j] at h2;show zN hl hi h1 h2
def IS{M:SI}{A:dG}{E:Vp}{s:br}{afI:nh}{globals:az}{j:aa (cX×az)}{q:cX}{z:ae az}{code:aE}{B:L8}{D:az}{Q:L8->br->Prop}
  (h:Q (newEnv afI s.heap.objs.size globals (gh (s.heap.objs.size+1) afI.names j) q z code (ag B) D)
   {s with heap:=r8 (s.heap.push {cls:=.type "dict",data:=.dict #[]}) afI.names}):
  aW M A (aaS afI globals j [] q z code (ag B) D) Q E s:=by
 simp![aaS,J4,mG];show ah (wpAny_alloc ?_);show ah (wpAny_layCells _ (λn k c=>rfl) afI.names j _ _ ?_);rw[show({s with heap:=s.heap.push {cls:=.type "dict",data:=.dict #[]}}:br).heap.objs.size=s.heap.objs.size+1 from cV ..];rw[g9];show ah (am (am h))
theorem vF{j:nh}:∀{D:aa (cX×lj)} {x:cX} {k:lj},
  (D.map λ#[n,k]=>if(k==oI&&j.kind==.function&&j.names.lookup n==ag .cell) then #[n,BG] else #[n,k]).lookup x=ag k->
  ∃B,D.lookup x=ag B/\(k=B\/(B=.free/\k=.cell))
 |[],_,_,h=>by simp at h
 | #[n,z]::r,x,k,h=>by
  let I:= @vF j r x k;let h':j8 x ((if(z==oI&&j.kind==.function&&j.names.lookup n==ag .cell)=aC then #[n,BG] else #[n,z])::(r.map _))=ag k:=h;cases q:x==n with
  |true=>
   simp![kK,q];by_cases hc:(z==oI&&j.kind==.function&&j.names.lookup n==ag .cell)=aC
   ·rw[aH hc] at h'
    simp![kK,q] at h';cases h';simp![cW,iF] at hc;show(z,J,.inr (hc.1.1,J))
   ·rw[aD hc] at h'
    simp![kK,q] at h';cases h';show(_,J,.inl rfl)
  |false=>
   simp![kK,q];by_cases hc:(z==oI&&j.kind==.function&&j.names.lookup n==ag .cell)=aC
   ·rw[aH hc] at h'
    simp![kK,q] at h';show I h'
   ·rw[aD hc] at h'
    simp![kK,q] at h';show I h'
structure JG(N:List Str)(sc afI:Scope)(own:List (Str×Nat)):Prop where
 kind:afI.kind=.function
 P7:∀y∈afI.names,afI.names.lookup y.1=some y.2
 ix:∀p∈own,N[p.2]?=some p.1
 free:∀y∈afI.names,y.2=.free->sc.names.lookup y.1=some .cell\/sc.names.lookup y.1=some .free
 own:∀y∈afI.names,y.2=.local\/y.2=.cell->y.1∈own.map (·.1)\/y.1∉N
def nv(Y:St):aa Nat->St
 |[]=>Y
 |v::j=>(nv Y j).set v au
theorem vd(Y:St):∀j:aa Nat,(nv Y j).length=Y.length
 |[]=>rfl
 |v::j=>by unfold nv;rw[pY,vd Y j]
theorem zf:∀{j:aa Nat},(nv Y j)[i]?=ag (ag x)->Y[i]?=ag (ag x)/\i∉j
 |[],h=>(h,by simp)
 |v::j,h=>by
  unfold nv at h;by_cases hi:v=i
  ·subst hi
   by_cases n:v<(nv Y j).length
   ·rw[oA n] at h;cases h
   ·rw[b8 (by simpa using n)] at h;cases h
  ·rw[pG hi] at h
   let⟨h1,h2⟩:=zf h;show(h1,by simp![aT,not_or];show(λe=>hi e.symm,h2))
abbrev Cx.G9(X:Cx)(s:br)(H:Hp)(afI:nh)(cenv:L8)(fp:aa az):Cx:={X with s_0:=s,H_0:=H,env:=cenv,outer:=X.stack,ex:=fp,fn:=λx=>afI.names.lookup x==ag .cell,pn:=[],xe:=λ_ _=>False}
section
variable{X:Cx}{pins:La}{Y:St}{H:Hp}{s:br}
def Jv{afI:nh}{aa7:aa (cX×Nat)}{fp:aa az}(I:Inv X pins Y H s)(ok:JG X.N X.env.scope afI aa7)(hN:X.N.Nodup)(hfp:∀b∈fp,AW X pins H b/\b<s.heap.objs.size):
  Inv (X.G9 s H afI (nc afI (gh (s.heap.objs.size+1) afI.names (iC X.env.cells afI.names [])) s.heap.objs.size X.env) fp) [] (nv Y (aa7.map (·.2))) H {s with heap:=r8 (s.heap.push {cls:=.type "dict",data:=.dict #[]}) afI.names}:=by
 let abd:∀y∈afI.names,y.2=.free->∃c,X.env.cells.lookup y.1=ag c:=λy L e=>by
  rcases ok.free y L e with k|k
  ·show I.ok.has _ (.inl k)
  ·show I.ok.has _ (.inr k)
 generalize aaE:nc afI (gh (s.heap.objs.size+1) afI.names (iC X.env.cells afI.names [])) s.heap.objs.size X.env=j;let kp:∀b o,s.heap.get? b=ag o->(r8 (s.heap.push {cls:=.type "dict",data:=.dict #[]}) afI.names).get? b=ag o:=λb o e=>xg _ _ _ _ (al _ e);let hL:j.locals=s.heap.objs.size:=by rw[<-aaE];rfl
 let hcl:j.cells=gh (s.heap.objs.size+1) afI.names (iC X.env.cells afI.names []):=by rw[<-aaE];rfl
 let hsc:j.scope=acn afI X.env.scope:=by rw[<-aaE];rfl
 rw[<-cV s.heap {cls:=.type "dict",data:=.dict #[]}] at hcl;let cm:∀{y c},#[y,c]∈iC X.env.cells afI.names []->X.env.cells.lookup y=ag c/\c<s.heap.objs.size:=λ{y c} q=>by
  rcases rG q with q|⟨h1,rfl⟩
  ·cases q
  ·let⟨c,hc⟩:=abd _ h1 J
   rw[hc];let⟨w,z⟩:=I.cell _ _ hc;show(J,z.lt)
 let mem:∀{y c},j.cells.lookup y=ag c->(X.env.cells.lookup y=ag c/\c<s.heap.objs.size)\/(s.heap.objs.size+1<=c/\jh (r8 (s.heap.push {cls:=.type "dict",data:=.dict #[]}) afI.names) c au):=λ{y c} e=>by
  rw[hcl] at e;rcases sH (di e) with q|⟨_,h2,h3⟩
  ·show .inl (cm q)
  ·rw[cV] at h2;show .inr (h2,h3)
 let abb:∀{y},afI.names.lookup y=ag .free->∃c,j.cells.lookup y=ag c/\X.env.cells.lookup y=ag c:=λ{y} hl=>by
  let L: #[y,oI]∈afI.names:=di hl;let⟨c',B⟩:=mem_lookup (ww (names:=afI.names) (n:=(s.heap.push {cls:=.type "dict",data:=.dict #[]}).objs.size) (vO (cells:=X.env.cells) (acc:=[]) L));rw[<-hcl] at B;show(c',B,?_);rw[hcl] at B;rcases sH (di B) with q|⟨h1,_,_⟩
  ·show(cm q).1
  ·let:=ok.P7 _ h1
   rw[hl] at this;cases this
 let okB:(X.G9 s H afI j fp).Ok:=by
  show(I.ok.mod,by change j.scope.kind=_;rw[hsc];show ok.kind,by change j.globals=_;rw[<-aaE];show I.ok.AR,by change j.builtins=_;rw[<-aaE];show I.ok.blt,by change s.heap.objs.size<=j.locals;rw[hL];show aS _,
   λy z c M e2=> ?_,λy L=> ?_,λy c z e=> ?_,I.ok.hd,I.ok.frames,.inl rfl,λb hb=>(?_,λy c e z=> ?_),I.bs,bC I.ok.UP I.sz,λb o e hb=> ?_,λb hb z=> ?_,I.stack,I.Mg)
  ·let M:j.cells.lookup y=ag c:=M
   let e2:j.cells.lookup z=ag c:=e2;rw[hcl] at M e2;show zN (λp hp=> ?_) (λy z c a b=>I.ok.inj y z c (cm a).1 (cm b).1) (di M) (di e2);rw[cV];show oH (cm (y:=p.1) (c:=p.2) hp).2
  ·change∃c,j.cells.lookup y=ag c
   let key:∀k,j.kindOf y=ag k->(k=.cell\/k=.free)->∃c,j.cells.lookup y=ag c:=λk hk hk'=>by
    unfold Env.kindOf at hk;rw[hsc] at hk;let⟨k',e,r⟩:=vF hk;let:k'=.cell\/k'=.free:=by
     rcases r with rfl|⟨rfl,_⟩
     ·show hk'
     ·show .inr rfl
    rcases this with rfl|rfl
    ·let⟨c,q⟩:=zP (n:=(s.heap.push {cls:=.type "dict",data:=.dict #[]}).objs.size) (acc:=iC X.env.cells afI.names []) (di e)
     let⟨c',B⟩:=mem_lookup q;show(c',by rw[hcl];show B)
    ·let⟨c,h1,_⟩:=abb e
     show(c,h1)
   rcases L with L|L
   ·show key _ L (.inl rfl)
   ·show key _ L (.inr rfl)
  ·let z:(afI.names.lookup y==ag BG)=aC:=z
   let z:afI.names.lookup y=ag .cell:=by simpa using z
   let e:j.cells.lookup y=ag c:=e;rw[hcl] at e;rcases sH (di e) with q|⟨_,h2,_⟩
   ·rcases rG q with q|⟨h1,_⟩
    ·cases q
    ·let aaG:=ok.P7 _ h1
     rw[z] at aaG;cases aaG
   ·rw[cV] at h2
    show si h2
  ·change b≠j.locals
   rw[hL];show bw (hfp b hb).2
  ·let e:j.cells.lookup y=ag c:=e
   rcases mem e with⟨h1,_⟩|⟨h1,_⟩
   ·show(hfp b hb).1.2.2.2.2.1 y c h1 z
   ·let h2:s.heap.objs.size+1<=b:=by rw[<-z];show h1
    show absurd (bu (hfp b hb).2 (si h2)) (gY _)
  ·rcases(hfp b hb).1.2.2.2.1 with z|z
   ·show I.ok.Q9 b o e z
   ·show absurd (bu (aI e) (bC I.ok.UP z)) (gY _)
  ·rcases aT.mp (I.Kr b z) with z|z
   ·show(hfp b hb).1.2.1 z
   ·show(hfp b hb).1.2.2.1 z
 show(okB,J,I.bare,Un.nV kp,(λ_=>au,?_,λi y av M e2 D=> ?_),λy c e=> ?_,?_,λy c e=> ?_,λp hp=> ?_,I.fe.nV kp,by rw[vd];show I.len)
 ·change Heap.Ns _ j.locals _
  rw[hL];show Heap.Ns.keeps (Heap.Ns.new ..) λb o e=>xg _ _ _ _ e
 ·let⟨e2,hne⟩:=zf e2
  let hfr:afI.names.lookup y=ag .free/\(j.kindOf y=ag .cell\/j.kindOf y=ag .free):=by
   let key:∀k,j.scope.names.lookup y=ag k->k=.local\/k=.cell\/k=.free->afI.names.lookup y=ag .free/\(j.kindOf y=ag .cell\/j.kindOf y=ag .free):=λk hk hk'=>by
    let hk0:=hk;rw[hsc] at hk;let⟨k',e,r⟩:=vF hk;let no:¬(k'=.local\/k'=.cell):=λhh=>by
     rcases ok.own _ (di e) hh with B|B
     ·let⟨p,hp,hpy⟩:=aY.mp B
      let D:=ok.ix p hp;let:p.1=y:=hpy;rw[this] at D;show hne (aY.mpr (p,hp,CU hN D M))
     ·show B (bg M)
    rcases r with rfl|⟨rfl,rfl⟩
    ·rcases hk' with rfl|rfl|rfl
     ·show absurd (.inl rfl) no
     ·show absurd (.inr rfl) no
     ·show(e,.inr hk0)
    ·show(e,.inl hk0)
   let D:YM j.scope y:=D;rcases D with D|D|D
   ·show key _ D (.inl rfl)
   ·show key _ D (.inr (.inl rfl))
   ·show key _ D (.inr (.inr rfl))
  let⟨m,hn,hl⟩:=I.Dd;let abl:YM X.env.scope y:=(ok.free _ (di hfr.1) J).elim (λk=>.inr (.inl k)) (λk=>.inr (.inr k));let⟨w,r,aaG⟩:=hl i y av M e2 abl;show(w,r,.inr (hfr.2,?_));let⟨c,h1,h2⟩:=abb hfr.1;rcases aaG with⟨k,_⟩|⟨_,c',B,z⟩
  ·let k:X.env.scope.names.lookup y=ag .local:=k
   rcases ok.free _ (di hfr.1) J with k'|k'<;>rw[show X.env.scope.names.lookup y=_ from k'] at k<;>cases k
  ·rw[h2] at B;cases B
   show(c,h1,z.keeps kp)
 ·let e:j.cells.lookup y=ag c:=e
  rcases mem e with⟨h1,_⟩|⟨_,z⟩
  ·let⟨w,z⟩:=I.cell y c h1
   show(w,z.keeps kp)
  ·show(_,z)
 ·change H j.locals=au
  rw[hL];show I.fe.fresh (aS _)
 ·let e:j.cells.lookup y=ag c:=e
  rcases mem e with⟨h1,_⟩|⟨h1,_⟩
  ·show I.sG y c h1
  ·show I.fe.fresh (si h1)
 ·show absurd (show p∈([]:La)++[] from hp) (by simp)
def XQ(I:Inv X pins Y H s)(j:H D=ag (.bZ xs))(L:xs.length<bf)(r:RelV y v)
  (h:∀s',Inv X pins Y (bD H D (.bZ (xs++[y]))) s'->Q .none s'):aW (bp X.prog X.w) X.A (call (.builtin "list.append") [.ref D,v]) Q E s:=by
 let⟨hz',afH,n,z,e⟩:_:=I.fe D _ j;let hl:=z.length;show append_at (hsz:=by rw[bj];lk) e λh' M B=> ?_;show h {s with heap:=h'} (I.pQ (t':=s.toks) (by rw[j];trivial) (.inl rfl) (λb u N q=>(M.2 b N).trans q) (_,B) (by rw[bt];show L,afH++[v],n+1,z.append (.cons r .nil),?_));rw[B];simp
def PTs(X:Cx)(j:aa fK)(t:TT):Prop:=
 ∀pins s Y H Q,Inv X pins Y H s->t Y H Q->
  aW (bp X.prog X.w) X.A (forIn j aC λc r=>if r=aC then do let ok<-JM c X.env (eval c X.env);i8 (jI ok) else i8 (jI r)) (TP X pins Y Q) X.xe s
def Zs:TT:=λ_ H Q=>Q aC H
def rm:PTs X [] Zs:=λ_ _ _ H _ I h=>wpAny_tests_nil (H,I,h)
def Mw(h:PT X c t):PTs X [c] t:=λpins s Y H Q I hw=>wpAny_tests_one (h pins s Y H Q I hw)
end
def NJ(h:aW M A t Q (λ_ _=>False) s)(j:∀a s,Q a s->n a s):aW M A t n E s:=eO h j λ_ _ z=>gF z
def G7(I:Nat->br->Prop)
  (aaC:∀n s,I n s->aW (bp prog w) A (kt it) (λr j=>match r with
   |none=>R (.ok .next) j
   |some v=>aW (bp prog w) A (xi q it v) (λ_ B=>aW (bp prog w) A (assign q env v) (λ_ D=>
     aW (bp prog w) A (forIn L aC λc r=>if r=aC then do let ok<-JM c env (eval c env);i8 (jI ok) else i8 (jI r)) (λok z=>
      if ok=aC then aW (bp prog w) A (eval afO env) (λx M=>
       aW (bp prog w) A (call (.builtin "list.append") [acc,x]) (λ_ N=>∃m,m<n/\I m N) (Hu (bp prog w) A env λe s'=>R (.error e) s') M) (Hu (bp prog w) A env λe s'=>R (.error e) s') z
      else∃m,m<n/\I m z) (Hu (bp prog w) A env λe s'=>R (.error e) s') D) (Hu (bp prog w) A env λe s'=>R (.error e) s') B) (Hu (bp prog w) A env λe s'=>R (.error e) s') j) (Hu (bp prog w) A env λe s'=>R (.error e) s') s)
  (n:Nat)(h:I n s):
  qk (bp prog w) A (.compLoop (.ListComp afO [(q,iter,L,0)] afI afG) 0 it acc env) R s:=by
 show codeAny_loop J I (λn s hI=> ?_) n h;change aW _ A ((compTurn (.ListComp afO [(q,iter,L,0)] afI afG) 0 it acc env).onRaise (λx=>do noteFrame x env;theTreesLotGoes x)) _ _ s;show wpAny_noted ?_;rw[compTurn_list];show ah (AC (ah (eO (aaC n s hI) (λr j aav=> ?_) λ_ _ h'=>h')));cases r with
 |none=>show am aav
 |some v=>
  show ah (eO aav (λ_ B aaE=> ?_) λ_ _ h'=>h');show ah (eO aaE (λ_ D aaG=>ah (eO aaG (λok z aax=> ?_) λ_ _ h'=>h')) λ_ _ h'=>h');cases ok with
  |false=>show am (J,aax)
  |true=>
   show ah (ah (eO aax (λx M aaV=>ah (eO aaV (λ_ N aa0=>am (am (J,aa0))) λ_ _ h'=>h')) λ_ _ h'=>h'))
section
variable{X:Cx}
def tLc(M:TI)(g:TG)(N:TT)(te:TE)(j:aa Nat):TE:=λY H Q=>M Y H λn O=>∀D,O D=au->∃W:Nat->Nat->Hp->Prop,(∃m,W 0 m (bD O D (.bZ [])))/\∀i m H,W i m H->
 (n.stop i H/\Q (.ref D) H)\/(n.go i H/\∃q:Hp->Prop,(∀U,q U->∃B,B<m/\W (i+1) B U)/\∀x U,n.Pg i H x U->g x (nv Y j) U λz H2=>nv z j=nv Y j/\N z H2 λb I=>
  if b=aC then te z I λy L=>∃acc,L D=ag (.bZ acc)/\acc.length<bf/\q (bD L D (.bZ (acc++[y]))) else q I)
def MM{pins:La}{s:br}{Y:St}{H:Hp}{Q:VK}{afO tg iter:fK}{ifs:aa fK}{afI:nh}{own:aa (cX×Nat)}{afG afS:pW}{wi:TI}{g:TG}{tt:TT}{te:TE}{use:ae (aE->Pw Unit)}{Qf:Vp}
  (hc:X.calm=aC)(hN:X.N.Nodup)(aaV:Inv X pins Y H s)(hi:PI X tg iter wi)(ok:JG X.N X.env.scope afI own)
  (hg:∀(s:br) (H:Hp) (C:az) (cl:aa (cX×az)) (n:aa az),PG (X.G9 s H afI (nc afI cl C X.env) n) tg g)(ht:∀(s:br) (H:Hp) (C:az) (cl:aa (cX×az)) (n:aa az),PTs (X.G9 s H afI (nc afI cl C X.env) n) ifs tt)
  (he:∀(s:br) (H:Hp) (C:az) (cl:aa (cX×az)) (n:aa az),PE (X.G9 s H afI (nc afI cl C X.env) n) afO te)(hs:∀x,uI iter X.env x=i8 x)
  (h:tLc wi g tt te (own.map (·.2)) Y H Q)
  (hRR:∀D C s' m U,Inv X pins Y U s'->Q (.ref D) U->s'.heap.Ns C m->AW X pins U C->aaY (bp X.prog X.w) X.A X.xe use Qf (.ref D) C (.ok .next) s'):
  aW (bp X.prog X.w) X.A (abL (.ListComp afO [(tg,iter,ifs,0)] afI afG) afI X.env afS (newList []) aA (eval iter X.env) use) Qf X.xe s:=by
 let abA:∀y∈afI.names,y.2=.free->∃c,X.env.cells.lookup y.1=ag c:=λy hy e=>by
  rcases ok.free y hy e with k|k
  ·show aaV.ok.has _ (.inl k)
  ·show aaV.ok.has _ (.inr k)
 show wpAny_comprehension_free (use:=use) J hs (LF abA) ok.kind (λy hy e=>by rw[ok.P7 y hy,e])
  (gj (hi pins s Y H _ aaV h) λxv s1 hx=>gj hx λitv M h2=> ?_)
 let⟨it,n,tn,acY,H2,e,I2,T,st2,f2,abB⟩:_:=h2;subst e;show dI (IS ?_) (by change 0<=bf;decide);generalize hD:M.heap.objs.size=D;let hDn:H2 D=au:=I2.fe.fresh (uS hD);let⟨W,⟨m0,w0⟩,abD⟩:_:=abB D hDn;generalize hs3:({M with heap:=M.heap.push {cls:=.type "list",data:=.seq ([]:aa aE).toArray}}:br)=j;let I3:Inv X pins Y (bD H2 D (.bZ [])) j:=by
  rw[<-hs3];show I2.pL (t':=M.toks) (λb o e=>al _ e) (uS hD) (bW _,[],0,.nil,?_);rw[<-hD];show aG _ rfl
 let h3:j.heap=M.heap.push {cls:=.type "list",data:=.seq ([]:aa aE).toArray}:=by rw[<-hs3]
 let sz:∀b∈n,b<M.heap.objs.size:=λb q=>by
  let⟨o,e,_⟩:_:=T.obj _ _ st2 b q;show aI e
 let I:∀b∈n,AW X pins (bD H2 D (.bZ [])) b/\b<j.heap.objs.size:=λb q=>by
  let hlt:=sz b q;show((?_,(f2 b q).2),by rw[h3,cV];show oH hlt);rw[aZ (by rw[<-hD];show bw hlt)];show(f2 b q).1
 let st3:tn 0 j.heap:=T.keep _ _ _ st2 λb _ o e=>by rw[h3];show al _ e
 let I4:=Jv I3 ok hN I;let pg:=hg j (bD H2 D (.bZ [])) j.heap.objs.size (gh (j.heap.objs.size+1) afI.names (iC X.env.cells afI.names [])) n;let pt:=ht j (bD H2 D (.bZ [])) j.heap.objs.size (gh (j.heap.objs.size+1) afI.names (iC X.env.cells afI.names [])) n;let pe:=he j (bD H2 D (.bZ [])) j.heap.objs.size (gh (j.heap.objs.size+1) afI.names (iC X.env.cells afI.names [])) n;change qk _ _ (.compStart (.ListComp afO [(tg,iter,ifs,0)] afI afG) 0 (.ref it) (.ref D) (nc afI (gh (j.heap.objs.size+1) afI.names (iC X.env.cells afI.names [])) j.heap.objs.size X.env)) (aaY (bp X.prog X.w) X.A X.xe use Qf (.ref D) j.heap.objs.size) {j with heap:=r8 (j.heap.push {cls:=.type "dict",data:=.dict #[]}) afI.names};let nfp:∀b∈n,(bD H2 D (.bZ [])) b=au:=λb q=>(I b q).1.1;generalize hce:nc afI (gh (j.heap.objs.size+1) afI.names (iC X.env.cells afI.names [])) j.heap.objs.size X.env=z at I4 pg pt pe⊢;let cL:z.locals=j.heap.objs.size:=by subst hce;rfl
 generalize hH3:bD H2 D (.bZ [])=B at I3 I4 pg pt pe w0 nfp I;generalize hs4:({j with heap:=r8 (j.heap.push {cls:=.type "dict",data:=.dict #[]}) afI.names}:br)=s4 at I4⊢;let st4:tn 0 s4.heap:=T.keep _ _ _ st3 λb _ o e=>by rw[<-hs4];show xg _ _ _ _ (al _ e)
 let aa0:∀{σ':St} {U:Hp} {s':br},Inv (X.G9 j B afI z n) [] σ' U s'->(∀b∈n,U b=au)->∀b∈n,AW (X.G9 j B afI z n) [] U b:=λ{σ' U s'} I' hn b q=>
  (hn b q,(I'.ok.exf b q).1,I'.ok.RN b q,.inl q,λx c e=>(I'.ok.exf b q).2 x c e,λp hp=>absurd (show p∈([]:La)++[] from hp) (by simp))
 let abh:qk (bp X.prog X.w) X.A (.compLoop (.ListComp afO [(tg,iter,ifs,0)] afI afG) 0 (.ref it) (.ref D) z) (aaY (bp X.prog X.w) X.A X.xe use Qf (.ref D) j.heap.objs.size) s4:=by
  show G7 (λaaE s'=>∃i U,Inv (X.G9 j B afI z n) [] (nv Y (own.map (·.2))) U s'/\tn i s'.heap/\(∀b∈n,U b=au)/\W i aaE U) ?_ m0 (0,B,I4,st4,nfp,w0);rintro aaE s5 ⟨i,L,I5,st5,n5,w5⟩;rcases abD i aaE L w5 with⟨acg,qq⟩|⟨go,Nx,hNx,step⟩
  ·let td:=T.done (X.G9 j B afI z n) J J J hc i [] s5 _ L (λ_ _=>False) I5 (aa0 I5 n5) st5 acg
   show NJ td λr s6 (hr,I6)=> ?_;subst hr;let I7:Inv X pins Y L s6:=I3.aau (ch:=n) I6.os I6.base I6.fe I6.bare λb q=>((I b q).1.2.2.2.1,(I b q).1.2.1,(I b q).1.2.2.2.2.1,(I b q).1.2.2.2.2.2);let nC:L j.heap.objs.size=au:=by
    let aav:L z.locals=au:=I6.free;rw[cL] at aav;show aav
   let⟨m,hn,_⟩:_:=I6.Dd;let hn:s6.heap.Ns z.locals m:=hn;rw[cL] at hn;show hRR D j.heap.objs.size s6 m L I7 qq hn (I3.Lw (aS _) nC)
  ·let ti:=T.item (X.G9 j B afI z n) J J J hc i [] s5 _ L (λ_ _=>False) I5 (aa0 I5 n5) st5 go
   show NJ ti λr s6 (u,hr,h6)=> ?_;subst hr;show NJ h6 λ_ s7 (x,H7,I7,r7,y7,st7,n7)=> ?_;let I7':=I7.QO (aa0 I7 n7) (T.obj _ _ st7);show NJ (pg _ s7 _ H7 x u _ I7' r7 (step x H7 y7)) λ_ s8 (σ8,H8,I8,hw8,q8)=> ?_;show NJ (pt _ s8 σ8 H8 _ I8 q8) λb s9 (H9,I9,q9)=> ?_;let fin:∀{s':br} {U:Hp},Inv (X.G9 j B afI z n) ([]++CP n s7.heap) σ8 U s'->Nx U->∃m,m<aaE/\∃i U,Inv (X.G9 j B afI z n) [] (nv Y (own.map (·.2))) U s'/\tn i s'.heap/\(∀b∈n,U b=au)/\W i m U:=λ{s' U} I' nx=>by
    let⟨m',hm,w'⟩:_:=hNx U nx;let abn:∀b∈n,∀o,s7.heap.get? b=ag o->s'.heap.get? b=ag o/\U b=au:=λb q o e=>
     let aav:=I'.MB #[b,o] (b7 _ (b7 _ (xC q e)))
     (aav.1,aav.2.1)
    let hl:(nv Y (own.map (·.2))).length=σ8.length:=by rw[<-hw8,vd]
    show(m',hm,i+1,U,(I'.xR (pins:=[])).ab5 hl (λac1 v e=> ?_),T.keep _ _ _ st7 λb q o e=>(abn b q o e).1,λb q=> ?_,w')
    ·rw[<-hw8] at e
     show(zf e).1
    ·let⟨o,e,_⟩:_:=T.obj _ _ st7 b q
     show(abn b q o e).2
   cases b with
   |false=>
    simp![bJ,d8] at q9⊢;show fin I9 q9
   |true=>
    simp![mG] at q9⊢;show NJ (pe _ s9 σ8 H9 _ I9 q9) λaav s10 (yv,H10,I10,r10,acc,acD,acV,nx)=> ?_;show XQ (X:=X.G9 j B afI z n) I10 acD acV r10 λs11 I11=>fin I11 nx
 show codeAny_compStart_list abh (T.self X.A 0 _ _ _ st4 abh)
def CQ(hc:X.calm=aC)(q:X.N.Nodup)(hi:PI X tg iter z)(ok:JG X.N X.env.scope afI own)
  (B:∀(s:br) (H:Hp) (C:az) (j:aa (cX×az)) (n:aa az),PG (X.G9 s H afI (nc afI j C X.env) n) tg g)(D:∀(s:br) (H:Hp) (C:az) (j:aa (cX×az)) (n:aa az),PTs (X.G9 s H afI (nc afI j C X.env) n) I L)
  (M:∀(s:br) (H:Hp) (C:az) (j:aa (cX×az)) (n:aa az),PE (X.G9 s H afI (nc afI j C X.env) n) afO te)(hs:∀x,uI iter X.env x=i8 x:=by intro _;rfl):
  PE X (.ListComp afO [(tg,iter,I,0)] afI afG) (tLc z g L te (own.map (·.2))):=by
 intro pins s Y H Q aav h;rw[eval_ListComp];show MM hc q aav hi ok B D M hs h λaax C s' m U I' aaC hn f=>(m,hn,λh'' sb=> ?_);let⟨f0,f1,f2,f3,f4,f5⟩:_:=f;show(.ref aax,U,I'.n6 (t':=s'.toks) (λb o hb e=>(sb.2 b hb).trans e) f0 f1 f3 f4 f5,J,aaC)
def CI(hc:X.calm=aC)(D:X.N.Nodup)(hy:X.N[i]?=ag y)(I:X.env.scope.names.lookup y=ag .local)
  (hsw:yS (.ListComp afO [(tg,iter,q,0)] afI afG) (ag (.Name y B)) aaE.line X.env=i8 aC)(hi:PI X tg iter L)(ok:JG X.N X.env.scope afI own)
  (hg:∀(s:br) (H:Hp) (C:az) (j:aa (cX×az)) (n:aa az),PG (X.G9 s H afI (nc afI j C X.env) n) tg g)(ht:∀(s:br) (H:Hp) (C:az) (j:aa (cX×az)) (n:aa az),PTs (X.G9 s H afI (nc afI j C X.env) n) q M)
  (he:∀(s:br) (H:Hp) (C:az) (j:aa (cX×az)) (n:aa az),PE (X.G9 s H afI (nc afI j C X.env) n) afO te)(hs:∀x,uI iter X.env x=i8 x:=by intro _;rfl):
  PS X (.Assign [.Name y B] (.ListComp afO [(tg,iter,q,0)] afI afG) aaE) (Qi (tLc L g M te (own.map (·.2))) (rE i)):=by
 intro pins s Y H aav aaG h;rw[exec_Assign_Name_used _ _ _ _ hsw];show ah (AC (ah ?_));change aW _ X.A (do let _<-abL (.ListComp afO [(tg,iter,q,0)] afI afG) afI X.env (firstIterPos [(tg,iter,q,0)] afG) (newList []) aA (eval iter X.env) (ag (assign (.Name y B) X.env))) _ _ s;let h:tLc L g M te (own.map (·.2)) Y H (λx O=>rE i x Y O aav.nx):=h;show ah (gj (MM (Qf:=λ_ s'=>SP X pins aav .next s') hc D aaG hi ok hg ht he hs h λaax C s' m U I' aaV hn f=> ?_) λ_ s' hq=>am (am hq));change aW _ _ (assign (.Name y B) X.env (.ref aax)) _ _ _;show VU (Ff (v:=V.ref aax) I' D hy (.inl I) J (λs2 I2 (a,sb,ha)=> ?_) (.inr I));let⟨f0,f1,f2,f3,f4,f5⟩:_:=f;let haC:C≠a:=by
  rcases ha with z|z
  ·rw[z];show f1
  ·showλe=>f4 y a z e.symm
 show(m,hn.sameBut sb haC,λh3 sb3=> ?_);show(_,U,I2.n6 (t':=s2.toks) (λb o hb e=>(sb3.2 b hb).trans e) f0 f1 f3 f4 f5,aaV)
end
def yr{lo:Int}{n:Nat}{g:TG}{M:TT}{te:TE}{q:aa Nat}{Y:St}{O:Hp}{D:az}{N:Hp->Prop}(Pv:Nat->Hp->Prop)(h0:Pv 0 (bD O D (.bZ [])))
  (hs:∀i H,i<n->Pv i H->g (.int (lo+i)) (nv Y q) H λj H2=>nv j q=nv Y q/\M j H2 λb z=>
   if b=aC then te j z λy B=>∃acc,B D=ag (.bZ acc)/\acc.length<bf/\Pv (i+1) (bD B D (.bZ (acc++[y]))) else Pv (i+1) z)(hd:∀H,Pv n H->N H):
  ∃W:Nat->Nat->Hp->Prop,(∃m,W 0 m (bD O D (.bZ [])))/\∀i m H,W i m H->
   ((UW lo n).stop i H/\N H)\/((UW lo n).go i H/\∃I:Hp->Prop,(∀U,I U->∃m',m'<m/\W (i+1) m' U)/\∀x U,(UW lo n).Pg i H x U->g x (nv Y q) U λj H2=>nv j q=nv Y q/\M j H2 λb z=>
    if b=aC then te j z λy B=>∃acc,B D=ag (.bZ acc)/\acc.length<bf/\I (bD B D (.bZ (acc++[y]))) else I z):=by
 show(λi m H=>m=n - i/\i<=n/\Pv i H,(n,by simp,bW _,h0),?_);rintro i m H ⟨rfl,hi,p⟩;by_cases L:i<n
 ·show .inr (L,Pv (i+1),λU p'=>(n -(i+1),by lk,J,L,p'),λx U y=> ?_)
  let⟨e,y⟩:=y;subst e y;show hs i _ L p
 ·let e:i=n:=by lk
  subst e;show .inl (aS _,hd H p)
def yt{K:aq}{a:az}{xs:aa V}{g:TG}{L:TT}{te:TE}{n:aa Nat}{Y:St}{O:Hp}{D:az}{M:Hp->Prop}(Pv:Nat->Hp->Prop)(h0:Pv 0 (bD O D (.bZ [])))(hl:∀i H,i<=xs.length->Pv i H->eE K H a xs)
  (hs:∀i x H,xs[i]?=ag x->Pv i H->g x (nv Y n) H λj H2=>nv j n=nv Y n/\L j H2 λb z=>
   if b=aC then te j z λy B=>∃acc,B D=ag (.bZ acc)/\acc.length<bf/\Pv (i+1) (bD B D (.bZ (acc++[y]))) else Pv (i+1) z)(hd:∀H,Pv xs.length H->M H):
  ∃W:Nat->Nat->Hp->Prop,(∃m,W 0 m (bD O D (.bZ [])))/\∀i m H,W i m H->
   ((VM K a).stop i H/\M H)\/((VM K a).go i H/\∃I:Hp->Prop,(∀U,I U->∃N,N<m/\W (i+1) N U)/\∀x U,(VM K a).Pg i H x U->g x (nv Y n) U λj H2=>nv j n=nv Y n/\L j H2 λb z=>
    if b=aC then te j z λy B=>∃acc,B D=ag (.bZ acc)/\acc.length<bf/\I (bD B D (.bZ (acc++[y]))) else I z):=by
 show(λi m H=>m=xs.length - i/\i<=xs.length/\Pv i H,(xs.length,by simp,bW _,h0),?_);rintro i m H ⟨rfl,hi,p⟩;let q:=hl i H hi p;by_cases hlt:i<xs.length
 ·show .inr ((xs,xs[i],q,by simp[hlt]),Pv (i+1),λU p'=>(xs.length -(i+1),by lk,J,hlt,p'),λx U y=> ?_)
  let⟨e,y⟩:=y;subst e;show hs i x _ (y xs q) p
 ·let e:i=xs.length:=by lk
  subst e;show .inl ((xs,q,aS _),hd H p)
def aaw(N:aa cX)(n afI:nh)(j:aa (cX×Nat)):Bool:=
 (match afI.kind with| .function=>aC|_=>aA)&&(afI.names.all λy=>decide (afI.names.lookup y.1=ag y.2))&&(j.all λp=>decide (N[p.2]?=ag p.1))&&
  (afI.names.all λy=>match y.2 with
   | .free=>(match n.names.lookup y.1 with|some .cell=>aC|some .free=>aC|_=>aA)
   | .local=>decide (y.1∈j.map (·.1))||decide (y.1∉N)
   | .cell=>decide (y.1∈j.map (·.1))||decide (y.1∉N)
   |_=>aC)
def mW(h:aaw N z afI B=aC):JG N z afI B:=by
 unfold aaw at h;simp![cW,tp,cx] at h;let⟨⟨⟨h1,h2⟩,D⟩,n⟩:_:=h;show(?_,h2,D,λy j e=> ?_,λy j e=> ?_)
 ·split at h1
  ·assumption
  ·cases h1
 ·let q:=n y j
  simp![e] at q;split at q<;>first|show .inl (by assumption)|show .inr (by assumption)|cases q
 ·let q:=n y j
  rcases e with e|e<;>(simp![e,p6,cx] at q;show q)
section
variable{prog:bq}{w:World}{A:dG}{R:Result->br->Prop}{s:br}{afO t0 i0 t1 i1:fK}{af5 af6:aa fK}{afI:nh}{afG:pW}{it acc:aE}{env:L8}
end
section
variable{X:Cx}
end
section
variable{κ:Type} [DecidableEq κ]
def dZ(kvs:aa (κ×V))(k:κ):ae V:=(kvs.find? λj=>decide (j.1=k)).map (·.2)
def fT(kvs:aa (κ×V))(k:κ)(v:V):aa (κ×V):=
 if(kvs.any λj=>decide (j.1=k))=aC then kvs.map (λj=>if j.1=k then #[j.1,v] else j) else kvs++[#[k,v]]
def jV(kvs:aa (κ×V))(k:κ):aa (κ×V):=kvs.filter λj=>decide (j.1≠k)
def jx{p:κ×V}{r:aa (κ×V)}{k:κ}(e:p.1=k):dZ (p::r) k=ag p.2:=by simp[dZ,eZ,e]
def iZ{p:κ×V}{r:aa (κ×V)}{k:κ}(e:¬p.1=k):dZ (p::r) k=dZ r k:=by simp[dZ,eZ,e]
theorem ph(k:κ):∀kvs:aa (κ×V),(kvs.any λj=>decide (j.1=k))=(dZ kvs k).isSome
 |[]=>rfl
 |p::r=>by
  rw[sj];by_cases e:p.1=k
  ·simp![jx e,decide_eq_true e,Bool.true_or,J4]
  ·rw[iZ e,decide_eq_false e,Vg];show ph k r
theorem HK(k j:κ)(y:V):∀kvs:aa (κ×V),dZ (kvs.map λn=>if n.1=k then #[n.1,y] else n) j=(dZ kvs j).map λx=>if j=k then y else x
 |[]=>rfl
 |p::r=>by
  let q:=HK k j y r;rw[bi];by_cases h:p.1=k
  ·rw[aH h]
   by_cases e:p.1=j
   ·rw[jx (p:= #[p.1,y]) e,jx e,ux,aH (e.symm.trans h)]
   ·rw[iZ (p:= #[p.1,y]) e,iZ e,q]
  ·rw[aD h]
   by_cases e:p.1=j
   ·rw[jx (p:=p) e,jx e,ux,aD (λz=>h (e.trans z))]
   ·rw[iZ (p:=p) e,iZ e,q]
theorem qh(k j:κ)(y:V):∀kvs:aa (κ×V),dZ kvs k=au->dZ (kvs++[#[k,y]]) j=if j=k then ag y else dZ kvs j
 |[],_=>by
  by_cases e:k=j
  ·rw[aH e.symm];show jx (p:= #[k,y]) e
  ·rw[aD (λz=>e z.symm)];show iZ (p:= #[k,y]) e
 |p::r,n=>by
  rw[PM];let q:¬p.1=k:=λz=>by rw[jx z] at n;cases n
  rw[iZ q] at n;let B:=qh k j y r n;by_cases e:p.1=j
  ·rw[jx e,jx e,aD (λz=>q (e.trans z))]
  ·rw[iZ e,iZ e,B]
def qp(kvs:aa (κ×V))(k j:κ)(y:V):dZ (fT kvs k y) j=if j=k then ag y else dZ kvs j:=by
 unfold fT;by_cases a:(kvs.any λn=>decide (n.1=k))=aC
 ·rw[aH a,HK]
  rw[ph] at a;by_cases e:j=k
  ·let⟨x,z⟩:=Option.isSome_iff_exists.mp a
   rw[aH e,e,z,ux,aH J]
  ·rw[aD e]
   cases dZ kvs j with
   |none=>rfl
   |some x=>rw[ux,aD e]
 ·rw[aD a]
  show qh k j y kvs ?_;rw[ph] at a;cases q:dZ kvs k with
  |none=>rfl
  |some x=>rw[q] at a;show(a J).elim
def nQ(kvs:aa (κ×V))(k:κ)(v:V):(fT kvs k v).length<=kvs.length+1:=by
 unfold fT;split
 ·rw[ao];lk
 ·rw[bt,aN,dS];lk
def sx{kvs:aa (κ×V)}{k:κ}(v:V)(h:dZ kvs k=au):fT kvs k v=kvs++[#[k,v]]:=by
 unfold fT;rw[ph,h];show aD (by decide)
def nE.sD(r:nE o u):o.isSome=u.isSome:=by
 cases o with
 |none=>cases u with
  |none=>rfl
  |some _=>show(show False from r).elim
 |some _=>cases u with
  |none=>show(show False from r).elim
  |some _=>rfl
theorem nE.getD(r:nE o u)(j:RelV d n):RelV (o.getD d) (u.getD n):=by
 cases o with
 |none=>cases u with
  |none=>show j
  |some _=>show(show False from r).elim
 |some _=>cases u with
  |none=>show(show False from r).elim
  |some _=>show r
def KV.val{kvs:aa (κ×V)}{B:aa (κ×aE)}(r:KV kvs B)(k:κ):nE (dZ kvs k) (nG B k):=by
 unfold KV at r;induction r with
 |nil=>show jF
 | @cons p q ps j h t D=>
  let⟨h1,h2⟩:=h;by_cases e:p.1=k
  ·let n:q.1=k:=h1.symm.trans e
   let b:nG (q::j) k=ag q.2:=by simp[nG,eZ,n]
   rw[jx e,b];show h2
  ·let n:¬q.1=k:=λz=>e (h1.trans z)
   let b:nG (q::j) k=nG j k:=by simp[nG,eZ,n]
   rw[iZ e,b];show D
theorem KV.any(r:KV kvs n)(k:κ):(kvs.any λj=>decide (j.1=k))=n.any λj=>decide (j.1=k):=by
 unfold KV at r;induction r with
 |nil=>rfl
 |cons h t q=>rw[sj,sj,q,h.1]
def KV.WH(r:KV kvs n)(k:κ)(B:RelV y u):
  KV (kvs.map λj=>if j.1=k then #[j.1,y] else j) (n.map λj=>if j.1=k then #[j.1,u] else j):=by
 unfold KV at r⊢;induction r with
 |nil=>show .nil
 | @cons p q ps I h t D=>
  rw[bi,bi];show .cons ?_ D;let⟨h1,h2⟩:=h;by_cases e:p.1=k
  ·rw[aH e,aH (h1.symm.trans e)];show(h1,B)
  ·rw[aD e,aD (λz=>e (h1.trans z))];show(h1,h2)
def KV.put(r:KV kvs j)(k:κ)(n:RelV y u):KV (fT kvs k y) (stored j k u):=by
 unfold fT stored;rw[r.any k];by_cases e:(j.any λq=>decide (q.1=k))=aC
 ·rw[aH e,aH e];show r.WH k n
 ·rw[aD e,aD e];show Vb r (J,n)
def KV.drop(r:KV kvs n)(k:κ):KV (jV kvs k) (without n k):=by
 unfold KV at r⊢;unfold jV without;induction r with
 |nil=>show .nil
 | @cons p q ps D h t j=>
  let⟨h1,h2⟩:=h;rw[gL,gL];by_cases e:p.1=k
  ·let a:¬decide (p.1≠k)=aC:=by simp[e]
   let b:¬decide (q.1≠k)=aC:=by simp[h1.symm.trans e]
   rw[aD a,aD b];show j
  ·let B:¬q.1=k:=λz=>e (h1.trans z)
   let a:decide (p.1≠k)=aC:=by simp[e]
   let b:decide (q.1≠k)=aC:=by simp[B]
   rw[aH a,aH b];show .cons (h1,h2) j
theorem KV.length(r:KV kvs j):kvs.length=j.length:=c9 r
def DJ(kvs:aa (κ×V))(k:κ):(jV kvs k).length<=kvs.length:=eY _ _
end
def wZ(r:RelV (kV k) u):(iO P w).is k u=aC:=by
 cases k with
 |inl i=>let⟨t,e⟩:=(show∃t,u=sR i t from r);subst e;show IU P w i t
 |inr x=>let⟨t,e⟩:=(show∃t,u=zW x t from r);subst e;show IT P w x t
abbrev KT(H:Hp):aa (aa fq.NK×V)->aa (aa fq.NK×az×aE)->Prop:=fG λp q=>p.1=q.1/\jo H p.1 q.2.1/\RelV p.2 q.2.2
def KT.val{H:Hp}{kvs:aa (aa fq.NK×V)}{xs:aa (aa fq.NK×az×aE)}(r:KT H kvs xs)(k:aa fq.NK):nE (dZ kvs k) ((pS xs k).map (·.2)):=by
 induction r with
 |nil=>show jF
 | @cons p q ps j h t B=>
  let⟨h1,_,h2⟩:=h;by_cases e:p.1=k
  ·let n:q.1=k:=h1.symm.trans e
   let b:pS (q::j) k=ag q.2:=by simp[pS,eZ,n]
   rw[jx e,b];show h2
  ·let n:¬q.1=k:=λz=>e (h1.trans z)
   let b:pS (q::j) k=pS j k:=by simp[pS,eZ,n]
   rw[iZ e,b];show B
def KT.WH(r:KT H kvs xs)(k:aa fq.NK)(n:RelV y u):
  KT H (kvs.map λj=>if j.1=k then #[j.1,y] else j) (xs.map (putAt k u)):=by
 induction r with
 |nil=>show .nil
 | @cons p q ps I h t B=>
  rw[bi,bi];show .cons ?_ B;let⟨h1,h2,D⟩:_:=h;unfold putAt;by_cases e:p.1=k
  ·rw[aH e,aH (h1.symm.trans e)];show(h1,h2,n)
  ·rw[aD e,aD (λz=>e (h1.trans z))];show(h1,h2,D)
def KT.put(r:KT H kvs xs)(k:aa fq.NK)(n:jo H k b)(j:RelV y u):
  KT H (fT kvs k y) (nH xs k b u):=by
 let e:(kvs.any λz=>decide (z.1=k))=(pS xs k).isSome:=by
  rw[ph,(r.val k).sD,qV]
 unfold fT nH;rw[e];by_cases q:(pS xs k).isSome=aC
 ·rw[aH q,aH q];show r.WH k j
 ·rw[aD q,aD q];show Vb r (J,n,j)
def KT.keeps(r:KT H kvs xs)(j:∀b ys,H b=ag (.dC ys)->U b=ag (.dC ys)):KT U kvs xs:=
 Paired.Rj r λ_ _ z=>(z.1,jo.bA j z.2.1,z.2.2)
section
variable{P:bq}{w:World}{H:Hp}{h:cT}{a:az}
def Vo(ok:sL P w H h)(e:Rd H a u):fP P w H h a u:=e.ok ok
def Ax(ok:sL P w H h)(e:Rd H a (.dK kvs)):kvs.length<=bf/\(a==dM)=aA/\∃j,KV kvs j/\h.DictOf (iO P w) a j:=
 show fP P w H h a (.dK kvs) from Vo ok e
def RS(ok:sL P w H h)(e:H a=ag (.dK kvs)):kvs.length<=bf/\(a==dM)=aA/\∃j,KV kvs j/\h.DictOf (iO P w) a j:=Ax ok (.inl e)
theorem Je:∀{j:aa Int} {n:aa aE},eD (j.map V.int) n->ItemsAre (intKind P w) j n
 |[],_,r=>by rw[qo] at r;cases r;show .nil
 |k::j,_,r=>by
  rw[bi] at r;cases r with
  |cons h t=>
   let⟨u,rfl⟩:=h;show .cons (by change rL k (sR k u)=aC;simp[rL]) (Je t)
def GX(ok:sL P w H h)(e:H a=ag (.dC (j.map V.int))):oJ (intKind P w) h j a:=by
 let⟨_,afH,r,o,h1,h2,n,q⟩:_:=(show fP P w H h a (.dC (j.map V.int)) from ok a _ e);show(o,afH.toArray,n,h1,h2,q,by simpa using Je r)
def Uo(ok:sL P w H h):∀{ks:aa fq.NK} {B:aa V} {n:aa aE},fG (Se H) ks B->eD B n->fq.kT P w h ks n:=by
 intro ks B n z;induction z generalizing n with
 |nil=>
  intro q;cases q;show .nil
 | @cons k _ _ _ a r D=>
  intro q;cases q with
  |cons b t=>
   cases k with
   |inl i=>
    cases(show _=V.int _ from a);show .cons b (D t)
   |inr j=>
    let⟨c,rfl,hc⟩:=a;show .cons (c,b,GX ok hc) (D t)
def og(ok:sL P w H h)(e:jo H ks a):(fq.fC P w).is h ks a:=by
 let⟨j,q,z⟩:_:=e;let⟨_,afH,r,o,h1,h2,n,B⟩:_:=(show fP P w H h a (.dC j) from ok a _ q);show(o,afH.toArray,n,h1,h2,B,by simpa using Uo ok z r)
def uE(ok:sL P w H h)(e:Rd H a (.dT kvs)):kvs.length<=bf/\(a==dM)=aA/\
  ∃xs,KT H kvs xs/\h.DictOfH (fq.fC P w) a xs:=by
 let⟨z,y,xs,r,o,es,ep,h1,h2,B,D,I⟩:_:=(show fP P w H h a (.dT kvs) from Vo ok e);show(z,y,xs,r,o,es,ep,h1,h2,B,D,λx j=> ?_,I);let all:∀{l:aa (aa fq.NK×V)} {m:aa (aa fq.NK×az×aE)},KT H l m->∀x∈m,(fq.fC P w).is h x.1 x.2.1:=by
  intro l m q;induction q with
  |nil=>intro x j;show nomatch j
  | @cons p q ps M n t L=>
   intro x j;rcases aT.mp j with e|j
   ·subst e
    show og ok (by rw[<-n.1];show n.2.1)
   ·show L x j
 show all r x j
def Jm(ok:sL P w H h)(e:H a=ag (.dT kvs)):kvs.length<=bf/\(a==dM)=aA/\
  ∃xs,KT H kvs xs/\h.DictOfH (fq.fC P w) a xs:=uE ok (.inl e)
end
def oW(H:Hp)(a:az)(y:V)(r:ae V):Prop:=
 (∃kvs k,Rd H a (.dK kvs)/\y=kV k/\r=dZ kvs k)\/∃kvs k b,Rd H a (.dT kvs)/\y=.ref b/\jo H k b/\r=dZ kvs k
def xG(H:Hp)(a:az)(y v:V)(U:Hp):Prop:=
 (∃kvs k,H a=ag (.dK kvs)/\y=kV k/\kvs.length<bf/\U=bD H a (.dK (fT kvs k v)))\/
 ∃kvs k b,H a=ag (.dT kvs)/\y=.ref b/\jo H k b/\kvs.length<bf/\U=bD H a (.dT (fT kvs k v))
theorem oW.k{H:Hp}{a:az}{kvs:aa (Key×V)}{k:Key}(e:H a=ag (.dK kvs)):oW H a (kV k) (dZ kvs k):=.inl (kvs,k,.inl e,J,J)
def oW.t{H:Hp}{a b:az}{kvs:aa (aa fq.NK×V)}{k:aa fq.NK}(e:H a=ag (.dT kvs))(j:jo H k b):oW H a (.ref b) (dZ kvs k):=.inr (kvs,k,b,.inl e,J,j,J)
theorem xG.k{H:Hp}{a:az}{kvs:aa (Key×V)}{k:Key}{v:V}(e:H a=ag (.dK kvs))(hl:kvs.length<bf):xG H a (kV k) v (bD H a (.dK (fT kvs k v))):=.inl (kvs,k,e,J,hl,J)
def xG.t{H:Hp}{a b:az}{kvs:aa (aa fq.NK×V)}{k:aa fq.NK}{v:V}(e:H a=ag (.dT kvs))(j:jo H k b)(hl:kvs.length<bf):
  xG H a (.ref b) v (bD H a (.dT (fT kvs k v))):=.inr (kvs,k,b,e,J,j,hl,J)
section
variable{X:Cx}{pins:La}{Y:St}{H:Hp}{s:br}{a:az}{y v:V}{u r:aE}{o:ae V}{A:dG}{E:Vp}
def Inv.VH(I:Inv X pins Y H s):dM<s.heap.objs.size:=by
 let h:=(I.mod.AR.keeps I.bk).lt;show oG (by decide) h
def OG(M:A.units+65<fF)(I:Inv X pins Y H s)(g:oW H a y (ag v))(L:RelV y u)(h:∀j s',Inv X pins Y H s'->RelV v j->Q j s'):
  aW (bp X.prog X.w) A (wM (.ref a) u) Q E s:=by
 rcases g with⟨kvs,k,e,n,l⟩|⟨kvs,k,b,e,n,N,l⟩
 ·subst n
  let⟨z,hd,vs,q,B⟩:_:=Ax I.fe e;let⟨j,hw,D⟩:_:=nE.wc (v:=v) (o:=nG vs k) (by rw[l];show q.val k);show X1 (wZ L) B.mapOf hw (h j _ (I.xL _) D)
 ·subst n
  cases(show u=aK b from L);let⟨z,hd,xs,q,B⟩:_:=uE I.fe e;let⟨j,hw,D⟩:_:=nE.wc (v:=v) (o:=(pS xs k).map (·.2)) (by rw[l];show q.val k);let⟨p,hp,hp2⟩:_:=bv.mp hw;show wpAny_getItem_heap (fq.nest_room M) (og I.fe N) B hp ?_;rw[hp2];show h j _ (I.xL _) D
def acN(M:A.units+65<fF)(I:Inv X pins Y H s)(g:oW H a y o)(L:RelV y u)(h:∀s',Inv X pins Y H s'->Q (.bool o.isSome) s'):
  aW (bp X.prog X.w) A (fk .In u (.ref a)) Q E s:=by
 rcases g with⟨kvs,k,e,j,l⟩|⟨kvs,k,b,e,j,N,l⟩
 ·subst j
  let⟨z,n,vs,B,D⟩:_:=Ax I.fe e;show wpAny_in_of (wZ L) n D.mapOf ?_;rw[<-(B.val k).sD,<-l];show h _ (I.xL _)
 ·subst j
  cases(show u=aK b from L);let⟨z,n,xs,B,D⟩:_:=uE I.fe e;show wpAny_in_heap (fq.nest_room M) (og I.fe N) n D ?_;let q:=(B.val k).sD;rw[qV] at q;rw[<-q,<-l];show h _ (I.xL _)
def UK(M:A.units+65<fF)(I:Inv X pins Y H s)(g:oW H a y o)(L:RelV y u)(h:∀s',Inv X pins Y H s'->Q (.bool (!o.isSome)) s'):
  aW (bp X.prog X.w) A (fk .NotIn u (.ref a)) Q E s:=by
 rcases g with⟨kvs,k,e,j,l⟩|⟨kvs,k,b,e,j,N,l⟩
 ·subst j
  let⟨z,n,vs,B,D⟩:_:=Ax I.fe e;show wpAny_notIn_of (wZ L) n D.mapOf ?_;rw[<-(B.val k).sD,<-l];show h _ (I.xL _)
 ·subst j
  cases(show u=aK b from L);let⟨z,n,xs,B,D⟩:_:=uE I.fe e;show wpAny_notIn_heap (fq.nest_room M) (og I.fe N) n D ?_;let q:=(B.val k).sD;rw[qV] at q;rw[<-q,<-l];show h _ (I.xL _)
def rF(I:Inv X pins Y H s)(n:UU (H a))(B:fH a s.heap h')(D:∃q,h'.get? a=ag q)(L:fP X.prog X.w (bD H a j) h' a j):
  Inv X pins Y (bD H a j) {s with heap:=h',toks:=N}:=
 I.pQ (x:=a) (e:=a) n (.inl rfl) (λb q M z=>(B.2 b M).trans z) D L
def LD(z:kvs.length<=bf)(n:(a==dM)=aA)(q:KV kvs j)(B:h'.DictOf (iO P w) a j):
  fP P w U h' a (.dK kvs):=(z,n,j,q,B)
def OE(hu:A.units+65<fF)(I:Inv X pins Y H s)(g:xG H a y v U)(ry:RelV y u)(rv:RelV v r)(h:∀s',Inv X pins Y U s'->Q () s'):
  aW (bp X.prog X.w) A (VX (.ref a) u r) Q E s:=by
 rcases g with⟨kvs,k,e,D,l,L⟩|⟨kvs,k,b,e,D,eb,l,L⟩
 ·subst D L
  let⟨z,M,vs,j,N⟩:_:=RS I.fe e;let hz:vs.length<=bf:=by rw[<-j.length];show z
  let hl:(fT kvs k v).length<=bf:=by let:=nQ kvs k v;lk
  show wpAny_setItem_pairs (hsz:=hz) (wZ ry) N λh' n hs=>h _ ?_;let he:∃q,h'.get? a=ag q:=let(q,_,_,B,_):=n;(q,B);show rF I (by rw[e];show jF) hs he (LD hl M (j.put k rv) n)
 ·subst D L
  cases(show u=aK b from ry);let⟨z,M,xs,j,N⟩:_:=Jm I.fe e;let hz:xs.length<=bf:=by rw[<-c9 j];show z
  let hl:(fT kvs k v).length<=bf:=by let:=nQ kvs k v;lk
  show wpAny_setItem_heap (hsz:=hz) (fq.nest_room hu) (og I.fe eb) N λh' n hs=>h _ ?_;let⟨q,es,ep,B,h2,h3,h4,_,h5⟩:_:=n;show rF I (by rw[e];show jF) hs (q,B) (hl,M,_,(j.put k eb rv).keeps λc ys ec=> ?_,q,es,ep,B,h2,h3,h4,h5);rw[aZ (Fv ec e (λz=>nomatch z))];show ec
end
section
variable{X:Cx}{pins:La}{Y:St}{H:Hp}{s:br}{a:az}{kvs:aa (Key×V)}{k:Key}{u:aE}{A:dG}{E:Vp}
def aan(I:Inv X pins Y H s)(e:H a=ag (.dK kvs))(n:RelV (kV k) u)(l:dZ kvs k=ag v)(D:more=[]\/∃x,more=[x])
  (h:∀j s',Inv X pins Y (bD H a (.dK (jV kvs k))) s'->RelV v j->Q j s'):aW (bp X.prog X.w) A (call (.builtin "dict.pop") (.ref a::u::more)) Q E s:=by
 let⟨z,hd,L,B,M⟩:=RS I.fe e;let⟨j,hw,rw'⟩:=nE.wc (v:=v) (o:=nG L k) (by rw[<-l];show B.val k);let hp:(keyPart u).isSome=aC:=by
  cases k with
  |inl i=>let⟨t,q⟩:=(show∃t,u=sR i t from n);subst q;rfl
  |inr x=>let⟨t,q⟩:=(show∃t,u=zW x t from n);subst q;rfl
 let ha:argsOk "dict.pop" (.ref a::u::more,[]):=by
  rcases D with q|⟨x,q⟩
  ·subst q;show ED _ _
  ·subst q;show EC _ _ _
 show pB jv M.typeIs sT ha (meets_dict_pop_there (iO X.prog X.w) a (wZ n) more D hp)
  (L,j,M,by rw[<-B.length];show z,hw,λh' N hs=>h j _ ?_ rw')
 let he:∃q,h'.get? a=ag q:=let(q,_,_,hq,_):=N;(q,hq);show rF I (by rw[e];show jF) hs he (LD (bC (DJ kvs k) z) hd (B.drop k) N)
end
def XU(i:fK):Prop:=∀j n,FX i aA j n=operate [j,n] (wM j n)
def Mf{prog:bq}{w:World}{A:dG}{E:Vp}{s:br}{env:L8}{afN j:fK}{afG:pW}{T id:String}{Q:Vp}
  (hl:wK (.type T) "__getitem__"=i8 (ag (.builtin id)))(I:XU j)
  (h:aW (bp prog w) A (eval afN env) (λo B=>aW (bp prog w) A (eval j env) (λi n=>n.TypeIs o T/\aW (bp prog w) A (wM o i) Q E n) E B) E s):
  aW (bp prog w) A (eval (.Subscript afN j afG) env) Q E s:=by
 show JS (eO h (λo B L=>eO L (λi n q=> ?_) λ_ _ x=>x) λ_ _ x=>x);let⟨hT,q⟩:=q;unfold LW;show ah ?_;rw[getitemInPython_of_ne hT.not_modules];show ah (lW hT hl ?_);let z:aW (bp prog w) A (FX j aA o i) (λr D=>aW (bp prog w) A (letTemporaryGo afN o r>>=λ_=>i8 r) Q E D) E n:=by
  rw[I o i];show wpAny_operating (eO q (λr D M=>ah (wpAny_letTemporaryGo (am M))) λ_ _ x=>x)
 first
  |show am (ah z)
  |show ah (am (ah z))
  |show ah z
def Jp(I:Inv X pins Y H s)(g:oW H a y o):s.TypeIs (.ref a) "dict":=by
 rcases g with⟨kvs,k,e,_,_⟩|⟨kvs,k,b,e,_,_,_⟩
 ·let⟨_,_,n,_,j⟩:=Ax I.fe e
  show j.typeIs
 ·let⟨_,_,xs,_,j⟩:=uE I.fe e
  show j.typeIs
inductive VR(Q:VK)(x y:V)(H2:Hp):Prop|mk:∀a v,x=.ref a->oW H2 a y (ag v)->Q v H2->VR Q x y H2
def ZB(td ty:TE):TE:=λY H Q=>td Y H λx O=>ty Y O (VR Q x)
inductive aaK(Q:VK)(y x:V)(H2:Hp):Prop|mk:∀a o,x=.ref a->oW H2 a y o->Q (.bl o.isSome) H2->aaK Q y x H2
def ace(ty td:TE):TE:=λY H Q=>ty Y H λy O=>td Y O (aaK Q y)
inductive aaJ(Q:VK)(y x:V)(H2:Hp):Prop|mk:∀a o,x=.ref a->oW H2 a y o->Q (.bl (!o.isSome)) H2->aaJ Q y x H2
def TJ(ty td:TE):TE:=λY H Q=>ty Y H λy O=>td Y O (aaJ Q y)
inductive VQ(D:Ends)(Y:St)(v x y:V)(j:Hp):Prop|mk:∀a n,x=.ref a->xG j a y v n->D.nx Y n->VQ D Y v x y j
def ZF(td ty tv:TE):TS:=λD Y H=>tv Y H λv O=>td Y O λx H2=>ty Y H2 (VQ D Y v x)
section
variable{X:Cx}{o i e afN:fK}{afG afS af0:pW}{td ty tv:TE}
def kQ(n:X.A.units+65<fF)(q:PE X o td)(hi:PE X i ty)(z:XU i):PE X (.Subscript o i afG) (ZB td ty):=by
 intro pins s Y H Q I h;show Mf F.slot_dict_getitem.lookup z (gj (q pins s Y H _ I h) λu B (x,O,D,L,M)=>gj (hi pins B Y O _ D M) λiv s2 (y,H2,j,N,a,v,ex,g,q2)=> ?_);subst ex;obtain rfl:u=aK a:=L;show(Jp j g,OG n j g N λw' s3 I3 rw'=>(v,H2,I3,rw',q2))
def GP(j:X.A.units+65<fF)(hi:PE X i ty)(n:PE X o td):PC X .In i o (ace ty td):=by
 intro pins s Y H Q I h;show gj (hi pins s Y H _ I h) λiv q (y,O,z,B,D)=>gj (n pins q Y O _ z D) λu s2 (x,H2,L,M,a,N,ex,g,q2)=> ?_;subst ex;obtain rfl:u=aK a:=M;show acN j L g B λs3 I3=>(.bl N.isSome,H2,I3,J,q2)
def zy(j:X.A.units+65<fF)(hi:PE X i ty)(n:PE X o td):PC X .NotIn i o (TJ ty td):=by
 intro pins s Y H Q I h;show gj (hi pins s Y H _ I h) λiv q (y,O,z,B,D)=>gj (n pins q Y O _ z D) λu s2 (x,H2,L,M,a,N,ex,g,q2)=> ?_;subst ex;obtain rfl:u=aK a:=M;show UK j L g B λs3 I3=>(.bl (!N.isSome),H2,I3,J,q2)
def tV(j:X.A.units+65<fF)(n:PE X o td)(hi:PE X i ty)(q:PE X afN tv)(z:yS afN (ag (.Subscript o i afS)) afG.line X.env=i8 aA):
  PS X (.Assign [.Subscript o i afS] afN afG) (ZF td ty tv):=by
 intro pins s Y H aav I h;show wpAny_Assign_Subscript (gj (q pins s Y H _ I h) λr B (v,O,D,L,M)=>gj (n pins B Y O _ D M) λu N (x,H2,I2,rx,q2)=>gj (hi pins N Y H2 _ I2 q2) λiv s3 (y,H3,I3,ry,a,H4,ex,g,q3)=> ?_) z;subst ex;obtain rfl:u=aK a:=rx;show OE j I3 g ry L λs4 I4=>(Y,H4,I4,q3)
end
def Jo(h:cT)(j:dM<h.objs.size):fP P w H (h.push {cls:=.type "dict",data:=.dict #[]}) h.objs.size (.dK []):=
 (bW _,beq_eq_false_iff_ne.mpr (ff (bw j)),[],.nil,aba h)
def Jn(h:cT)(j:dM<h.objs.size):fP P w H (h.push {cls:=.type "dict",data:=.dict #[]}) h.objs.size (.dT []):=
 (bW _,beq_eq_false_iff_ne.mpr (ff (bw j)),[],.nil,_,#[],0,aG _ rfl,(J,J,J),J,J,Tg)
def Ws:TE:=λ_ H Q=>∀p,H p=au->Q (.ref p) (bD H p (.dK []))
def Wr:TE:=λ_ H Q=>∀p,H p=au->Q (.ref p) (bD H p (.dT []))
section
variable{X:Cx}{afG:pW}
def QY:PE X (.Dict [] [] afG) Ws:=λpins s Y H Q I h=>
 X3 (.ref s.heap.objs.size,_,I.pL (a:=s.heap.objs.size) (o:=.dK []) (t':=s.toks) (λ_ _ q=>al _ q) (aS _) (Jo s.heap I.VH),J,h _ (I.fe.fresh (aS _)))
def qx:PE X (.Dict [] [] afG) Wr:=λpins s Y H Q I h=>
 X3 (.ref s.heap.objs.size,_,I.pL (a:=s.heap.objs.size) (o:=.dT []) (t':=s.toks) (λ_ _ q=>al _ q) (aS _) (Jn s.heap I.VH),J,h _ (I.fe.fresh (aS _)))
end
def Ko:aa (TE×TE)->St->Hp->(aa (V×V)->Hp->Prop)->Prop
 |[],_,H,Q=>Q [] H
 | #[tk,tv]::r,Y,H,Q=>tk Y H λx O=>tv Y O λy H2=>Ko r Y H2 λps j=>Q (#[x,y]::ps) j
abbrev VV:aa (V×V)->aa (aE×aE)->Prop:=fG λp q=>RelV p.1 q.1/\RelV p.2 q.2
def PPs(X:Cx)(afG:pW)(j:aa (ae fK))(n:aa fK)(q:aa (TE×TE)):Prop:=
 ∀pins s Y H Q,Inv X pins Y H s->Ko q Y H Q->
  aW (bp X.prog X.w) X.A (evalPairs (pairTrees j n X.env afG)) (λz s'=>∃ps U,Inv X pins Y U s'/\VV ps z/\Q ps U) X.xe s
def T6:PPs X afG [] [] []:=λpins s Y H Q I h=>U5 ([],H,I,.nil,h)
def IC(j:PE X k tk)(n:PE X v tv)(q:PPs X afG ks z B):
  PPs X afG (ag k::ks) (v::z) (#[tk,tv]::B):=λpins s Y H Q I h=>
 S9 (gj (j pins s Y H _ I h) λu D (x,O,L,M,N)=>gj (n pins D Y O _ L N) λw2 s2 (y,H2,I2,ry,q2)=>
  gj (q pins s2 Y H2 _ I2 q2) λws s3 (ps,H3,I3,rel,q3)=>(#[x,y]::ps,H3,I3,.cons (M,ry) rel,q3))
def C8(kvs more:aa (Key×V)):aa (Key×V):=more.foldl (λacc j=>fT acc j.1 j.2) kvs
def KV.merge:∀{more:aa (Key×V)} {n:aa (Key×aE)} {kvs:aa (Key×V)} {j:aa (Key×aE)},KV more n->KV kvs j->KV (C8 kvs more) (merged j n):=by
 intro more n kvs j r;unfold KV at r;induction r generalizing kvs j with
 |nil=>intro q;show q
 | @cons p q ps D h t z=>
  intro B;let e:KV (fT kvs p.1 p.2) (stored j q.1 q.2):=by
   let:=B.put p.1 h.2;rw[<-h.1];show this
  show z e
theorem wX:∀more kvs,(C8 kvs more).length<=kvs.length+more.length
 |[],kvs=>by change kvs.length<=kvs.length+0;lk
 |p::r,kvs=>by
  let h1:=wX r (fT kvs p.1 p.2);let h2:=nQ kvs p.1 p.2;change(C8 (fT kvs p.1 p.2) r).length<=_;rw[aN];lk
theorem Ea:∀{kvs:aa (Key×V)} {n:aa (aE×aE)},VV (kvs.map λz=> #[kV z.1,z.2]) n->∃j,Carries (iO P w) n j/\KV kvs j
 |[],_,r=>by rw[qo] at r;cases r;show([],jF,.nil)
 |p::kvs,_,r=>by
  rw[bi] at r;cases r with
  | @cons a b D I h t=>
   let⟨j,c,q⟩:=Ea (P:=P) (w:=w) t;let⟨L,B⟩:=b;show(#[p.1,B]::j,(wZ h.1,J,c),.cons (J,h.2) q)
def ZA(n:aa (TE×TE)):TE:=λY H Q=>∀p,H p=au->Ko n Y (bD H p (.dK [])) λps H2=>H2 p=ag (.dK [])/\∃kvs:aa (Key×V),ps=kvs.map (λj=> #[kV j.1,j.2])/\kvs.length<=15/\Q (.ref p) (bD H2 p (.dK (C8 [] kvs)))
def Ue(h:PPs X afG j n D)(L:j.all (·.isSome)=aC)(hl:j.length=n.length)(M:j≠[])
  (N:j.length<=15):PE X (.Dict j n afG) (ZA D):=by
 intro pins s Y H Q I q;let hn:=I.fe.fresh (aS s.heap.objs.size);let I1:=I.pL (a:=s.heap.objs.size) (o:=.dK []) (h':=s.heap.push {cls:=.type "dict",data:=.dict #[]}) (t':=s.toks) (λ_ _ q=>al _ q) (aS _) (Jo s.heap I.VH);show wpAny_Dict_walk (knd:=iO X.prog X.w) L hl M N (gj (h pins _ Y _ _ I1 (q _ hn)) λws s2 (ps,H2,z,rel,e,kvs,ep,lk,q2)=> ?_);subst ep;let⟨rs,c,rk⟩:_:=Ea (P:=X.prog) (w:=X.w) rel;let⟨aax,hd,vs0,r0,dd⟩:_:=RS z.fe e;cases r0;show(rs,c,dd,λh' B hs=>(.ref s.heap.objs.size,_,?_,J,q2));let hz:(C8 [] kvs).length<=bf:=by
  let h1:=wX kvs [];rw[dS] at h1;rw[dN];lk
 let he:∃q,h'.get? s.heap.objs.size=ag q:=let(q,_,_,hq,_):=B;(q,hq);show rF z (by rw[e];show jF) hs he (LD hz hd (rk.merge .nil) B)
structure M1(X:Cx)(o:Expr)(m:Str)(afJ:Pos)(e:Expr)(afL:Pos):Prop where
 base:attributeBase o m X.env (eval o X.env)=eval o X.env
 LB:((backTo afL (starEach [e] X.env)).all (λx=> !x.1)&&(backToKw afL (keywordEach [] X.env)).all (λx=>x.1.isSome)
  &&decide (([e]:List Expr).length+([]:List Keyword).length+(if([]:List Keyword).isEmpty then 0 else 1)<30))=true
 line:(afJ.endLine==afL.line)=true
 Ah:backTo afL (starEach [e] X.env)=[#[false,eval e X.env]]
structure M2(X:Cx)(o:Expr)(m:Str)(afJ:Pos)(e f:Expr)(afL:Pos):Prop where
 base:attributeBase o m X.env (eval o X.env)=eval o X.env
 LB:((backTo afL (starEach [e,f] X.env)).all (λx=> !x.1)&&(backToKw afL (keywordEach [] X.env)).all (λx=>x.1.isSome)
  &&decide (([e,f]:List Expr).length+([]:List Keyword).length+(if([]:List Keyword).isEmpty then 0 else 1)<30))=true
 line:(afJ.endLine==afL.line)=true
 Ah:backTo afL (starEach [e,f] X.env)=[#[false,eval e X.env],#[false,eval f X.env]]
def XW(H:Hp)(a:az):Prop:=(∃kvs,Rd H a (.dK kvs))\/∃kvs,Rd H a (.dT kvs)
def vK(I:Inv X pins Y H s)(d:XW H a):
  s.TypeIs (.ref a) "dict"/\(∀b,aK a=.ref b->∃j,s.heap.get? b=ag j/\j.dict=au)/\(a==dM)=aA:=by
 rcases d with⟨kvs,e⟩|⟨kvs,e⟩
 ·let⟨_,z,B,_,n⟩:_:=Ax I.fe e
  show(n.typeIs,λb q=> ?_,z);cases q;let⟨j,_,_,h1,h2,_⟩:_:=n;show(j,h1,h2.2.1)
 ·let⟨_,z,xs,_,n⟩:_:=uE I.fe e
  show(n.typeIs,λb q=> ?_,z);cases q;let⟨j,_,_,h1,h2,_⟩:_:=n;show(j,h1,h2.2.1)
section
variable{X:Cx}{pins:La}{Y:St}{H:Hp}{s:br}{a:az}{y d:V}{u r:aE}{o:ae V}{A:dG}{E:Vp}
def XD(M:A.units+65<fF)(I:Inv X pins Y H s)(g:oW H a y o)(D:RelV y u)(h:∀L s',Inv X pins Y H s'->RelV (o.getD .jn) L->Q L s'):
  aW (bp X.prog X.w) A (call (.builtin "dict.get") [.ref a,u]) Q E s:=by
 rcases g with⟨kvs,k,e,n,l⟩|⟨kvs,k,b,e,n,N,l⟩
 ·subst n
  let⟨z,q,vs,B,j⟩:_:=Ax I.fe e;show pB fZ j.typeIs kL (rX _ _) (aaU (iO X.prog X.w) a (wZ D) q) (_,j.mapOf,h _ _ (I.xL _) ?_);rw[l];show(B.val k).getD J
 ·subst n
  cases(show u=aK b from D);let⟨z,q,xs,B,j⟩:_:=uE I.fe e;show pB fZ j.typeIs kL (rX _ _) (meetsH_dict_get (fq.fC X.prog X.w) a b q) (fq.nest_room M,k,xs,og I.fe N,j,h _ _ (I.xL _) ?_);rw[l];show(B.val k).getD J
def XC(M:A.units+65<fF)(I:Inv X pins Y H s)(g:oW H a y o)(B:RelV y u)(D:RelV d r)(h:∀L s',Inv X pins Y H s'->RelV (o.getD d) L->Q L s'):
  aW (bp X.prog X.w) A (call (.builtin "dict.get") [.ref a,u,r]) Q E s:=by
 rcases g with⟨kvs,k,e,n,l⟩|⟨kvs,k,b,e,n,N,l⟩
 ·subst n
  let⟨aav,q,vs,z,j⟩:_:=Ax I.fe e;show pB fZ j.typeIs kL (EE _ _ _) (meets_dict_get_default (iO X.prog X.w) a (wZ B) q r) (_,j.mapOf,h _ _ (I.xL _) ?_);rw[l];show(z.val k).getD D
 ·subst n
  cases(show u=aK b from B);let⟨aav,q,xs,z,j⟩:_:=uE I.fe e;show pB fZ j.typeIs kL (EE _ _ _) (meetsH_dict_get_default (fq.fC X.prog X.w) a b q r) (fq.nest_room M,k,xs,og I.fe N,j,h _ _ (I.xL _) ?_);rw[l];show(z.val k).getD D
end
inductive aaL(Q:VK)(a:az)(y:V)(H2:Hp):Prop|mk:∀o,oW H2 a y o->Q (o.getD .jn) H2->aaL Q a y H2
inductive IDo(ty:TE)(Y:St)(F:az->VK)(x:V)(O:Hp):Prop|mk:∀a,x=.ref a->XW O a->ty Y O (F a)->IDo ty Y F x O
def Wu(td ty:TE):TE:=λY H Q=>td Y H (IDo ty Y (aaL Q))
def Wt(td ty tx:TE):TE:=λY H Q=>td Y H λx O=>∃a,x=.ref a/\XW O a/\ty Y O λy H2=>tx Y H2 λz j=>∃o,oW j a y o/\Q (o.getD z) j
def Wq(td ty:TE):TE:=λY H Q=>td Y H λx O=>∃a,x=.ref a/\XW O a/\ty Y O λy H2=>∃kvs k v,H2 a=ag (.dK kvs)/\y=kV k/\dZ kvs k=ag v/\Q v (bD H2 a (.dK (jV kvs k)))
section
variable{X:Cx}{o e f:fK}{afJ afL:pW}{td ty tx:TE}
def IH(n:X.A.units+65<fF)(q:PE X o td)(z:PE X e ty)(m:M1 X o "get" afJ e afL):PE X (.Call (.Attribute o "get" afJ) [e] [] afL) (Wu td ty):=by
 intro pins s Y H Q I h;show ik m.base m.LB m.line gD fZ uw (gj (q pins s Y H _ I h) λu B (x,O,j,D,a,ex,d,L)=> ?_);subst ex;obtain rfl:u=aK a:=D;let⟨t1,M,_⟩:_:=vK j d;show(t1,M,?_);rw[m.Ah];show fh J (gK (dQ (gj (z pins B Y O _ j L) λiv s2 (y,H2,N,ry,ov,g,q2)=>gf ?_)));show XD n N g ry λw' s3 I3 rw'=>(_,H2,I3,rw',q2)
def Q0(n:X.A.units+65<fF)(q:PE X o td)(z:PE X e ty)(B:PE X f tx)(m:M2 X o "get" afJ e f afL):PE X (.Call (.Attribute o "get" afJ) [e,f] [] afL) (Wt td ty tx):=by
 intro pins s Y H Q I h;show ik m.base m.LB m.line gD fZ uw (gj (q pins s Y H _ I h) λu D (x,O,j,L,a,ex,d,M)=> ?_);subst ex;obtain rfl:u=aK a:=L;let⟨t1,N,_⟩:_:=vK j d;show(t1,N,?_);rw[m.Ah];show fh J (gK (dQ (gj (z pins D Y O _ j M) λiv s2 (y,H2,I2,ry,q2)=>
  dQ (gj (B pins s2 Y H2 _ I2 q2) λfv s3 (aax,H3,I3,rz,ov,g,q3)=>gf ?_))))
 show XC n I3 g ry rz λw' s4 I4 rw'=>(_,H3,I4,rw',q3)
def QX(n:PE X o td)(q:PE X e ty)(m:M1 X o "pop" afJ e afL):PE X (.Call (.Attribute o "pop" afJ) [e] [] afL) (Wq td ty):=by
 intro pins s Y H Q I h;show ik m.base m.LB m.line gD jv uv (gj (n pins s Y H _ I h) λu z (x,O,j,B,a,ex,d,D)=> ?_);subst ex;obtain rfl:u=aK a:=B;let⟨t1,L,_⟩:_:=vK j d;show(t1,L,?_);rw[m.Ah];show fh J (gK (dQ (gj (q pins z Y O _ j D) λiv s2 (y,H2,M,N,kvs,k,v,ea,ey,l,q2)=>gf ?_)));subst ey;show aan M ea N l (.inl rfl) λw' s3 I3 rw'=>(v,_,I3,rw',q2)
end
section
variable{X:Cx}{pins:La}{Y:St}{H:Hp}{s:br}{a:az}{kvs:aa (Key×V)}{A:dG}{E:Vp}
end
section
variable{X:Cx}{pins:La}{Y:St}{H:Hp}{s:br}{a:az}{y:V}{u:aE}{A:dG}{E:Vp}
end
def De:wK (.type "list") "keys"=i8 au:=am_miss_of_fast (by first|lia|rfl)
def xS:entryFor table "dict.update.loop"=ag ads:=entryFor_of_tree (by kernel_rfl)
def mT:plainId "dict.update.loop"=aC:=by lia
section
variable{prog:bq}{w:World}{A:dG}{E:Vp}
def Ob(n:s.heap.get? a=ag o)(hc:o.cls=.type "list")(q:o.data=.seq xs k)(z:o.dict=au)(I:A.handled=au)
  (h:∀h' tk,(∀b B,s.heap.get? b=ag B->h'.get? b=ag B)->Q au {s with heap:=h',toks:=tk}):aW (bp prog w) A (SE (.ref a) "keys") Q E s:=by
 let⟨c,dct,dat,L⟩:_:=o;simp only at hc q z;subst hc q z;let⟨M,g,d,tk,os⟩:_:=s;let hT:∀D,((M,g,d,D,os):br).TypeIs (.ref a) "list":=λ_=>(_,n,J);let N:=De;let aav:(["__module__","__name__","__qualname__","__doc__","__annotations__"]:aa cX).contains "keys"=aA:=by lia
 let hsz:("keys":cX).length+100<=bf:=by first|size_fits|lia
 let f1:=U2;let f3:=yO.lookup;let f4:=F.slot_list_getattribute.bind (.ref a);let f5:=am_list_getattr_none;unfold SE getAttrBy? getAttrBy;repeat (any_goals (first|assumption|show hT _|((with_reducible change aW _ _ (call (EW "list.__getattribute__") _ _) _ _ _);show qb yO (hT _) am_entry_list_getattribute (F.args_list_getattribute_2 _ _) (meets_getattribute_miss_list a xs k L "keys" _ N aav hsz) (n,I,λh' D e j=> ?_))|wp_step))
 let⟨t',u',he⟩:_:=j.there;change aW _ _ (AZ _ _ _ _ _ _ _) _ _ _;unfold AZ;repeat (any_goals (first|assumption|wp_step))
 all_goals first|show h _ _ j.keeps|(dsimp only;repeat (any_goals (first|assumption|show h _ _ j.keeps|wp_step)))
end
section
variable{X:Cx}
theorem yh:∀{ps:aa az} {j:aa aE},eD (ps.map V.ref) j->j=ps.map aK
 |[],j,r=>by
  rw[qo] at r;cases r;rfl
 |p::ps,j,r=>by
  rw[bi] at r;cases r with
  |cons h t=>
   cases h;rw[bi,<-yh t]
end
section
variable{X:Cx}{pins:La}{Y:St}{H:Hp}{s:br}{h':cT}
def Inv.Tw{M:Nat}{B:aa az}(I:Inv X pins Y H s)(k:∀b o,b∉B->s.heap.get? b=ag o->h'.get? b=ag o)(j:∀b∈B,AW X pins H b):Inv X pins Y H {s with heap:=h',toks:=M}:=by
 let L:∀b u,H b=ag u->b∉B:=λb u e z=>by
  let q:=(j b z).1;rw[q] at e;cases e
 show I.step (g':=s.gens) (d':=s.drawn) (ch:=B) (λb D=>((j b D).2.2.2.1,(j b D).2.1,(j b D).2.2.2.2.1,(j b D).2.2.2.2.2)) (λb o _ _ hc e _=>k b o hc e) (λb o _ _ hc e _=>(o.slots,k b o hc e))
  (λ_ _ _ _ n=>n) (λb o hc e=>(o,k b o hc e)) (λ_ _ e=>e) (λ_ _ _ e=>e) (λb ps e=>(#[],by rw[e];simp)) (λm N=> ?_) (λb u e=> ?_) I.bare
 ·let⟨o,es,ep,ho,r⟩:=N
  show(o,es,ep,k _ o (λz=>(j _ z).2.1 J) ho,r)
 ·show(I.fe b u e).qT (λc v hc q=>k c v ?_ q) (λ_ q=>q) λ_ _ q=>q
  rcases hc with z|z
  ·rw[z];show L b u e
  ·show L c _ z
def Inv.zh{N:Nat}{D:aa az}{T:az}{L:HO}(I:Inv X pins Y H s)(k:∀b o,b∉D->s.heap.get? b=ag o->h'.get? b=ag o)(n:∀b∈D,AW X pins H b)(hT:s.heap.objs.size<=T)
  (new:fP X.prog X.w (bD H T L) h' T L):Inv X pins Y (bD H T L) {s with heap:=h',toks:=N}:=by
 let B:H T=au:=I.fe.fresh hT;let M:∀b u,H b=ag u->b∉D:=λb u e z=>by
  let q:=(n b z).1;rw[q] at e;cases e
 show I.step (g':=s.gens) (d':=s.drawn) (ch:=D) (λb j=>((n b j).2.2.2.1,(n b j).2.1,(n b j).2.2.2.2.1,(n b j).2.2.2.2.2)) (λb o _ _ hc e _=>k b o hc e) (λb o _ _ hc e _=>(o.slots,k b o hc e))
  (λb o _ e aax=> ?_) (λb o hc e=>(o,k b o hc e)) (λb xs e=> ?_) (λb o u e=> ?_) (λb ps e=>(#[],?_)) (λm hm=> ?_) (λb u e=> ?_) I.bare
 ·rw[aZ (bw (bu (aI e) hT))];show aax
 ·rw[aZ (bI e B)];show e
 ·rw[aZ (bI e B)];show e
 ·rw[aZ (bI e B),e];simp
 ·let⟨o,es,ep,ho,r⟩:=hm
  show(o,es,ep,k _ o (λz=>(n _ z).2.1 J) ho,r)
 ·by_cases j:b=T
  ·subst j
   rw[aw] at e;cases e;show new
  ·rw[aZ j] at e
   show(I.fe b u e).qT (λc v hc q=>k c v ?_ q) (λc q=>by rw[aZ (bI q B)];show q) λc xs q=>by rw[aZ (bI q B)];show q
   rcases hc with z|z
   ·rw[z];show M b u e
   ·show M c _ z
def Inv.ZZ(I:Inv X pins Y H s)(h:H d=ag u)(B:UU (ag u)):∃j,Inv X pins Y (bD H d (.lH j u)) s:=by
 let x:=I.fe d u h;let ex:∃j,s.heap.get? d=ag j:=by
  cases u with
  |bZ xs=>let⟨_,_,_,_,e⟩:=x;show(_,e)
  |dK kvs=>let⟨_,_,_,_,o,_,_,e,_⟩:=x;show(o,e)
  |dT kvs=>let⟨_,_,_,_,o,_,_,e,_⟩:=x;show(o,e)
  |set S n=>let⟨o,_,_,_,e,_⟩:=x;show(o,e)
  |lM C dx fs=>let⟨_,_,_,e,_⟩:=x;show(_,e)
  |ext L=>let⟨_,⟨_,e⟩,_⟩:=x;show(_,e)
  |_=>show gF B
 let⟨j,e⟩:=ex;let D:fP X.prog X.w (bD H d (.lH j u)) s.heap d (.lH j u):=by
  show(e,x.qT (λb v _ q=>q) (λb q=> ?_) λb xs q=> ?_)
  ·rw[aZ (λz=>by rw[z,h] at q;cases q;show B)];show q
  ·rw[aZ (λz=>by rw[z,h] at q;cases q;show B)];show q
 show(j,I.pQ (x:=d) (e:=d) (t':=s.toks) (h':=s.heap) (by rw[h];show B) (.inl rfl) (λb v _ q=>q) (j,e) D)
def Inv.ME(I:Inv X pins Y H s)(h:H d=ag u)(n:UU (ag u)):∀o' j,X.H_0 d≠ag (.lH o' j):=λo' j e=>by
 let q:=I.base.frzs d o' j e;rw[h] at q;cases q;show n
def Inv.Gh(I:Inv X pins Y H s)(h:H d=ag (.lH od u))(M:∀o' B,X.H_0 d≠ag (.lH o' B)):Inv X pins Y (bD H d u) s:=by
 let j:∀b o,H b=ag o->(∀o' B,o≠.lH o' B)->b≠d:=λb o e N z=>by
  rw[z,h] at e;cases e;show N _ _ rfl
 let neN:∀b,H b=au->b≠d:=λb e z=>by rw[z,h] at e;cases e
 show(I.ok,I.os,I.bare,(I.base.keep,I.base.slot,λb o e n L=> ?_,I.base.there,λb xs e=> ?_,λb o x e=> ?_,λb ps e=> ?_),I.Dd,I.cell,?_,λx c e=> ?_,λp hp=> ?_,λb o e=> ?_,I.len)
 ·rw[aZ (neN b (I.base.free b o e n L))];show I.base.free b o e n L
 ·let q:=I.base.tups b xs e
  rw[aZ (j b _ q (λ_ _ z=>nomatch z))];show q
 ·let q:=I.base.frzs b o x e
  rw[aZ (λz=>by rw[z] at e;show M _ _ e)];show q
 ·let⟨m,q⟩:=I.base.tbls b ps e
  show(m,by rw[aZ (j b _ q (λ_ _ z=>nomatch z))];show q)
 ·rw[aZ (neN _ I.free)];show I.free
 ·rw[aZ (neN c (I.sG x c e))];show I.sG x c e
 ·let⟨e,n,r⟩:=I.MB p hp
  show(e,by rw[aZ (neN _ n)];show n,r)
 ·by_cases D:b=d
  ·rw[D,aw] at e
   cases e;rw[D];let⟨_,x⟩:=I.fe d _ h;show x.qT (λc v _ q=>q) (λc q=>by rw[aZ (j c _ q (λ_ _ z=>nomatch z))];show q) λc xs q=>by rw[aZ (j c _ q (λ_ _ z=>nomatch z))];show q
  ·rw[aZ D] at e
   show(I.fe b o e).qT (λc v _ q=>q) (λc q=>by rw[aZ (j c _ q (λ_ _ z=>nomatch z))];show q) λc xs q=>by rw[aZ (j c _ q (λ_ _ z=>nomatch z))];show q
end
def Zx(t:TS):TS:=λD Y H=>∃d u,H d=ag u/\UU (ag u)/\∀j,t (λn U=>U d=ag (.lH j u)/\D.nx n (bD U d u),λv U=>U d=ag (.lH j u)/\D.rt v (bD U d u),λn U=>U d=ag (.lH j u)/\D.bk n (bD U d u),λn U=>U d=ag (.lH j u)/\D.ct n (bD U d u)) Y (bD H d (.lH j u))
section
variable{X:Cx}
def T0{st:qc}{t:TS}(h:PS X st t):PS X st (Zx t):=by
 intro pins s Y H D I hw;let⟨d,u,z,B,hw⟩:_:=hw;let⟨L,M⟩:_:=I.ZZ z B;show gj (h pins s Y _ _ M (hw L)) λf N q=> ?_;cases f with
 |next=>let⟨j,U,n,e,q⟩:=q;show(j,_,n.Gh e (I.ME z B),q)
 |brk=>let⟨j,U,n,e,q⟩:=q;show(j,_,n.Gh e (I.ME z B),q)
 |cont=>let⟨j,U,n,e,q⟩:=q;show(j,_,n.Gh e (I.ME z B),q)
 |ret v=>let⟨x,j,U,n,r,e,q⟩:=q;show(x,j,_,n.Gh e (I.ME z B),r,q)
def K8(I:Inv X pins Y H s)(o:Eu)
  (T:ET X.prog X.w X.K tg j [s.heap.objs.size] s.heap.objs.size n)(st:n 0 (s.heap.push o))(q:R j H):PIE X pins Y tg R (.ref s.heap.objs.size) {s with heap:=s.heap.push o,toks:=tk}:=by
 show(s.heap.objs.size,[s.heap.objs.size],n,j,H,J,I.nV λb B e=>al _ e,T,st,λb z=> ?_,q);let e:b=s.heap.objs.size:=by simpa using z
 subst e;show I.Lw (aS _) (I.fe.fresh (aS _))
end
section
variable{X:Cx}{tg:fK}
end
section
universe b
def zH(q:(d==dM)=aA)(j:s.heap.get? d=ag o)(hc:o.ExactDict)(n:o.data=.dict es ep)
  (z:Q (.ref s.heap.objs.size) {s with heap:=s.heap.push {cls:=.type "dict_keyiterator",data:=.fields (List.toArray [.ref d,.int 0 0,.int es.size 0,.int ep 0])}}):
  aW (bp prog w) A (JK (.ref d)) Q E s:=by
 let hT:s.TypeIs (.ref d) "dict":=(o,j,hc.1);show Ek hT Ve (cO Ve hT F.entry_dict_iter ?_ (F.args_dict_iter_1 _));unfold adv;show ah ?_;unfold Zn;show ah (iG hT ?_);change aW _ _ (i8 (aK d)) _ _ s;show am ?_;change aW _ _ (nJ d>>=_) _ _ s;unfold nJ;rw[aD (by rw[q];show bH)];show ah (am ?_);show ah (fR j n ?_);show ah (ot j n ?_);show ah (dI (am (_,J,"dict_keyiterator",_,(_,aG _ rfl,J),gJ.lookup,?_)));simpa [fb] using z
def wW(j:s.heap.IsKeyIter it d i n ep)(B:s.heap.get? d=ag L)(D:L.data=.dict es ep)
  (M:es.size=n)(N:es[i]?=ag en)(hQ:∀h',h'.IsKeyIter it d (i+1) n ep->fH it s.heap h'->Q (ag en.key) {s with heap:=h'}):aW (bp prog w) A (kt (.ref it)) Q E s:=by
 let⟨o,z,hc,q⟩:=id j;unfold kt;show ah (iV (c7 (name:=mN "__next__") j.typeIs gJ
  (cO gJ j.typeIs EG ?_ (Ev _))))
 show ah (am ?_);show ah ?_;show ah ?_;first|show ah (lK j.typeIs (am ?_))|show ah (oo j.typeIs (am ?_))
 show ah (pA z q ?_);let aav:hX "dict_keyiterator"=aA:=by decide
 simp![aav,bJ,d8];change aW _ _ (if(aK d==dJ)=aC then _ else _) _ _ s;rw[aD (show¬((aK d==dJ)=aC) from bH)];show ah (am ?_);show ah (fR B D ?_);rw[aD (by rw[M];simp)];show ah (am ?_);show ah (ot B D ?_);rw[aD (by simp)];show am ?_;let⟨aax,hen⟩:=Array.getElem?_eq_some_iff.mp N;simp![show¬((i:Int)<0) from by lk,d8,bE,jP aax];show ah ?_;first|show ah (lK j.typeIs (am ?_))|show ah (oo j.typeIs (am ?_))
 show ah (Po j.typeIs ?_);change aW _ _ (Su (.ref it) 1 (fb ((i:Int)+1))>>=_) _ _ s;show ah (sN z q (by simp) ?_);let I:(s.heap.update it (V4 (·.setIfInBounds 1 (fb ((i:Int)+1))))).IsKeyIter it d (i+1) n ep:=
  (_,gv _ z (J7 (qW q _)),(Px ..).trans hc,by rw[qW q];simp[fb])
 show ah (dD ?_);show ah (Po (s:={s with heap:=s.heap.update it (V4 (·.setIfInBounds 1 (fb ((i:Int)+1))))}) I.typeIs ?_);change aW _ _ (i8 es[i].key) _ _ _;rw[hen];show am (am (_,rfl,am (hQ _ I (eQ ..))))
def ue(L:A.handled=au)(j:s.heap.IsKeyIter it d i n ep)(q:s.heap.get? d=ag M)(z:M.data=.dict es ep)
  (B:es.size=n)(N:n<=i)(hQ:∀h',Ke it s.heap h'->Q au {s with heap:=h'}):aW (bp prog w) A (kt (.ref it)) Q E s:=by
 let⟨o,D,hc,I⟩:=id j;unfold kt;show ah (iV (c7 (name:=mN "__next__") j.typeIs gJ
  (cO gJ j.typeIs EG ?_ (Ev _))))
 show ah (am ?_);show ah ?_;show ah ?_;first|show ah (lK j.typeIs (am ?_))|show ah (oo j.typeIs (am ?_))
 show ah (pA D I ?_);let aav:hX "dict_keyiterator"=aA:=by decide
 simp![aav,bJ,d8];change aW _ _ (if(aK d==dJ)=aC then _ else _) _ _ s;rw[aD (show¬((aK d==dJ)=aC) from bH)];show ah (am ?_);show ah (fR q z ?_);rw[aD (by rw[B];simp)];show ah (am ?_);show ah (ot q z ?_);rw[aD (by simp)];show am ?_;let aax:es.size<=i:=by rw[B];show N
 simp![show¬((i:Int)<0) from by lk,d8,bE,ji aax];show ah ?_;first|show ah (lK j.typeIs (am ?_))|show ah (oo j.typeIs (am ?_))
 change aW _ _ (Su (.ref it) 0 .none>>=_) _ _ s;show ah (sN D I (by simp) ?_);change aW _ _ (U6 (.type "StopIteration") []>>=_) _ _ _;show ah ?_;simp![U6,aaR];show ah (dI ?_ (by size_fits));show ah (m:=yK _ _) (Sr (a:=dJ) (by first|rfl|(simp![yK];rfl)) ?_);show dI ?_ (by size_fits);simp![aaQ];show ah (LV ?_);rw[show A.in1.handled=au from L];show ah (am (FW ?_));show ah (lg (T:="StopIteration") (b:=aC) (_,aG _ rfl,rfl) sP ?_);show am (hQ _ (((eQ ..).extBut.push _).push _))
end
def Xj{κ:Type}{kvs:aa (κ×V)}{n:aa (κ×aE)}(h:KV kvs n):∀{i:Nat} {k:κ} {v:V},kvs[i]?=ag #[k,v]->∃u,n[i]?=ag #[k,u]/\RelV v u:=by
 unfold KV at h;induction h with
 |nil=>intro i k v e;simp at e
 | @cons a b z B r t q=>
  intro i k v e;cases i with
  |zero=>
   simp![sX,ni] at e;subst e;show(b.2,?_,r.2);simp![sX];show eI ag (gX r.1.symm rfl)
  |succ j=>
   simp![sY] at e⊢;show q e
def xB{n B:Type}{G:n->B->Prop}{q:aa n}{z:aa B}(h:fG G q z):∀{i:Nat} {a:n},q[i]?=ag a->∃b,z[i]?=ag b/\G a b:=by
 induction h with
 |nil=>intro i a e;simp at e
 | @cons a b q z r t D=>
  intro i I e;cases i with
  |zero=>
   simp![sX,ni] at e;subst e;show(b,J,r)
  |succ j=>
   simp![sY] at e⊢;show D e
def QD(h:As k u=aC):RelV (kV k) u:=by
 rcases jl h with⟨i,t,rfl,rfl⟩|⟨x,t,rfl,rfl⟩
 ·show(t,J)
 ·show(t,J)
section
variable{X:Cx}{pins:La}{Y:St}{H:Hp}{s:br}{d:az}{o:Eu}
def Inv.Xs(I:Inv X pins Y H s)(h:H d=ag (.lH o (.dK kvs))):
  (d==dM)=aA/\s.heap.get? d=ag o/\o.ExactDict/\∃(es:af jO) (ep:Nat) (j:aa (Key×aE)),o.data=.dict es ep/\es.size=kvs.length/\KV kvs j/\s.heap.DictAt (iO X.prog X.w) d j ep:=by
 let⟨n,z,M,j,q,o',es,ep,B,D,L,r⟩:_:=I.fe d _ h;rw[n] at B;cases B;show(M,n,D,es,ep,j,L,?_,q,o,es,n,D,L,r);let N:=r.2.1.length;let l2:kvs.length=j.length:=c9 q;rw[ft] at N;lk
def Inv.Xr{kvs:aa (aa fq.NK×V)}(I:Inv X pins Y H s)(h:H d=ag (.lH o (.dT kvs))):
  (d==dM)=aA/\s.heap.get? d=ag o/\o.ExactDict/\∃(es:af jO) (ep:Nat),o.data=.dict es ep/\es.size=kvs.length/\
   ∀(i:Nat) (k:aa fq.NK) (v:V),kvs[i]?=ag #[k,v]->∃(j:jO) (q:az),es[i]?=ag j/\j.key=.ref q/\jo H k q:=by
 let⟨n,aav,L,xs,z,o',es,ep,B,M,N,D,_⟩:_:=I.fe d _ h;rw[n] at B;cases B;show(L,n,M,es,ep,N,?_,λi k v e=> ?_)
 ·let l1:es.size=xs.length:=iw D
  let l2:kvs.length=xs.length:=c9 z;lk
 ·let⟨b,hb,e1,e2,_⟩:_:=xB z e
  let q:=yL D i;rw[hb] at q;show(_,b.2.1,q,J,e2)
end
def Itk(d:az)(o:Eu)(kvs:aa (Key×V)):It:=
 (λi H=>H d=ag (.lH o (.dK kvs))/\i<kvs.length,λi H x U=>U=H/\∃k v,kvs[i]?=ag #[k,v]/\x=kV k,λi H=>H d=ag (.lH o (.dK kvs))/\kvs.length<=i)
def Sg(d:az)(o:Eu)(kvs:aa (aa fq.NK×V)):It:=
 (λi H=>H d=ag (.lH o (.dT kvs))/\i<kvs.length,λi H x U=>U=H/\∃k v q,kvs[i]?=ag #[k,v]/\x=.ref q/\jo H k q,λi H=>H d=ag (.lH o (.dT kvs))/\kvs.length<=i)
def wv{o:Eu}{es j:af jO}{ep n:Nat}(h:o.data=.dict es ep)(h':o.data=.dict j n):j=es/\n=ep:=by
 rw[h] at h';cases h';show(J,J)
section
variable{P:bq}{w:World}{K:aq}{tg:fK}{d:az}{o:Eu}{es:af jO}{ep:Nat}
def NF{kvs:aa (Key×V)}(it:az)(hod:o.data=.dict es ep):ET P w K tg (Itk d o kvs) [it] it (λi h=>h.IsKeyIter it d i kvs.length ep) where
 mem:=by simp
 obj:=λi h st b j=>by
  let e:b=it:=by simpa using j
  subst e;let⟨n,e,c,B⟩:_:=st;show(n,e,λv aax=>by rw[B] at aax;cases aax)
 keep:=λi h h' st k=>st.at λn e=>k it (by simp) n e
 item:=by
  intro X D hw L hc i pins s Y H E I q st M;subst D hw L;let⟨N,hi⟩:_:=M;let⟨f0,f1,f2,f3,f4,f5⟩:_:=q it (by simp);let⟨hs,hgd,hx,es',ep',vs,z,hsz,kv,hm⟩:_:=I.Xs N;let⟨rfl,rfl⟩:_:=wv hod z;let⟨⟨k,v⟩,hkv⟩:∃p,kvs[i]?=ag p:=(kvs[i],aL hi);let⟨u,hu,ru⟩:_:=Xj kv hkv;let hl:kvs.length=vs.length:=c9 kv;rw[hl] at st;show wpAny_pyNext_dict_item st hm hu λkey h' aa7 st' sb=> ?_;let I1:Inv X pins Y H {s with heap:=h'}:=I.n6 (t':=s.toks) (λb ob j e=>(sb.2 b j).trans e) f0 f1 f3 f4 f5;let⟨n,e,c,B⟩:_:=id st';show(key,J,Ji (s:={s with heap:=h'}) e c B (by decide) (kV k,H,I1,QD (show As k key=aC from aa7),(J,k,v,hkv,J),?_,λb j=>(q b j).1));change h'.IsKeyIter it d (i+1) kvs.length _;rw[hl];show st'
 done:=by
  intro X D hw L hc i pins s Y H E I q st M;subst D hw L;let⟨N,hi⟩:_:=M;let⟨f0,f1,f2,f3,f4,f5⟩:_:=q it (by simp);let⟨hs,hgd,hx,es',ep',vs,z,hsz,kv,hm⟩:_:=I.Xs N;let⟨rfl,rfl⟩:_:=wv hod z;show ue (I.ok.hd hc) st hgd z hsz hi λh' eb=>(J,I.n6 (t':=s.toks) (λb ob j e=>eb b ob j e) f0 f1 f3 f4 f5)
 self:=λA i s Q E st h=>Sq st h
def Kl(it:az)(hod:o.data=.dict es ep):ET P w K tg (Sg d o kvs) [it] it (λi h=>h.IsKeyIter it d i kvs.length ep) where
 mem:=by simp
 obj:=λi h st b j=>by
  let e:b=it:=by simpa using j
  subst e;let⟨q,e,c,B⟩:_:=st;show(q,e,λv aaE=>by rw[B] at aaE;cases aaE)
 keep:=λi h h' st k=>st.at λq e=>k it (by simp) q e
 item:=by
  intro X D hw L hc i pins s Y H E I z st M;subst D hw L;let⟨N,hi⟩:_:=M;let⟨f0,f1,f2,f3,f4,f5⟩:_:=z it (by simp);let⟨hs,hgd,hx,es',ep',n,hsz,ent⟩:_:=I.Xr N;let⟨rfl,rfl⟩:_:=wv hod n;let⟨⟨k,v⟩,hkv⟩:∃p,kvs[i]?=ag p:=(kvs[i],aL hi);let⟨en,aa0,hen,abc,hq⟩:_:=ent i k v hkv;show wW st hgd n hsz hen λh' st' sb=> ?_;let I1:Inv X pins Y H {s with heap:=h'}:=I.n6 (t':=s.toks) (λb ob j e=>(sb.2 b j).trans e) f0 f1 f3 f4 f5;let⟨q,e,c,B⟩:_:=id st';show(en.key,J,Ji (s:={s with heap:=h'}) e c B (by decide) (.ref aa0,H,I1,abc,(J,k,v,aa0,hkv,J,hq),st',λb j=>(z b j).1))
 done:=by
  intro X D hw L hc i pins s Y H E I z st M;subst D hw L;let⟨N,hi⟩:_:=M;let⟨f0,f1,f2,f3,f4,f5⟩:_:=z it (by simp);let⟨hs,hgd,hx,es',ep',n,hsz,ent⟩:_:=I.Xr N;let⟨rfl,rfl⟩:_:=wv hod n;show ue (I.ok.hd hc) st hgd n hsz hi λh' eb=>(J,I.n6 (t':=s.toks) (λb ob j e=>eb b ob j e) f0 f1 f3 f4 f5)
 self:=λA i s Q E st h=>by
  show Ek st.typeIs E3 (cO E3 st.typeIs F.entry_dict_keyiterator_iter ?_ (F.args_dict_keyiterator_iter_1 _));change aW _ _ (ret (.ref it)) _ _ s;show am (_,J,"dict_keyiterator",_,st.typeIs,gJ.lookup,h)
end
def aaf(td:TE):TI:=λY H R=>td Y H λx O=>∃d o,x=.ref d/\((∃kvs,O d=ag (.lH o (.dK kvs))/\R (Itk d o kvs) O)\/∃kvs,O d=ag (.lH o (.dT kvs))/\R (Sg d o kvs) O)
section
variable{X:Cx}{tg e:fK}{td:TE}{afJ afL:pW}
def GN(N:PE X e td):PI X tg e (aaf td):=by
 intro pins s Y H R aav h;show gj (N pins s Y H _ aav h) λu M (x,O,n,rx,d,o,ex,q)=> ?_;subst ex;obtain rfl:u=aK d:=rx;rcases q with⟨kvs,z,q⟩|⟨kvs,z,q⟩
 ·let⟨B,D,I,es,ep,vs,j,L,kv,hm⟩:_:=n.Xs z
  show zH B D I j (K8 (tk:=M.toks) n _ (NF _ j) (_,aG _ rfl,J,?_) q);rw[L]<;>rfl
 ·let⟨B,D,I,es,ep,j,L,ent⟩:_:=n.Xr z
  show zH B D I j (K8 (tk:=M.toks) n _ (Kl _ j) (_,aG _ rfl,J,?_) q);rw[L]<;>rfl
end
def FM:pC "zip"=ag (.type "zip"):=by lia
end L2
section
namespace ac4
open PySem PyProof.Rows
end ac4
end
section
namespace TL
open PySem PySem.Builtin PySem.Builtin.Str PySem.StrLaws
end TL
end
namespace L2
open PySem PySem.Spec PyProof.Rows
section
variable{X:Cx}{pins:La}{Y:St}{H:Hp}{s:br}{Q:VK}
end
section
variable{X:Cx}
end
section
variable{X:Cx}{o e:fK}{to te:TE}
end
section
variable{X:Cx}
end
end L2
namespace Att
open PySem PySem.W PySem.Calls PyProof.Rows
section
universe b
variable{K:Frag}
end
end Att
namespace L2
open PySem PySem.Spec PyProof.Rows
def cQ(s:qc)(j:Nat):qc:=match s with
 | .ClassDef _ _ _ n _ _ _ _ _ _ _=>n.getD j (.Pass (0,0,0,0))
 |_=>.Pass (0,0,0,0)
def ku(s:qc):so:=match s with
 | .FunctionDef _ a _ _ _ _ _ _ _ _=>a
 |_=>{posonlyargs:=[],args:=[],vararg:=au,kwonlyargs:=[],kw_defaults:=[],kwarg:=au,defaults:=[]}
def iB(s:qc):aa qc:=match s with
 | .FunctionDef _ _ b _ _ _ _ _ _ _=>b
 |_=>[]
def bo(s:qc):nh:=match s with
 | .FunctionDef _ _ _ _ _ _ j _ _ _=>j
 |_=>{kind:=.function,names:=[],isGenerator:=aA,isCoroutine:=aA}
abbrev Pj:OT:=λ_ _ _ _ _ _=>False
abbrev E0:XK:=λ_ _ _=>False
def Ft:uq Pj X E0:=λ_ _ _ _ _ _ _ h=>h.elim
structure XX(K:PySem.W.Frag)(x qual:Str)(st:Stmt)(f:Addr)(fd:FuncData):Prop where
 ex:∃(oc:Value) (od:Option Addr) (kV doc pm:Value) (an:Option Addr) (cdv ct:Value) (osl:Array (Option Value)),
  fd=PySem.W.fnOf x qual (ku st) (iB st) (bo st) .none kV doc pm an cdv ct/\K.lookup f=some (oc,od,.func fd,osl)/\PySem.W.codeIn K cdv qual=true
 kp:PySem.W.keepIn K (.ref f)=true
section
universe a
def XX.ok{x z:cX}{st:qc}{f:az}{fd:sU}{N ps:aa cX}{k:Nat}{sp:Sp}(F:XX K x z st f fd)(S:bM N ps (bo st))(len:∀j H Q E,sp j H Q E->j.length=ps.length)
  (D:∀(n:aE) (A:dG) (B:aa L8) (s:br) (H:Hp) (j:aa V) (Q:VK) (E:XK),fo k (A.deeper (sQ z (bo st) s.heap.objs.size f n))->sp j H Q E->
   ∃t,JE (DY Pj P w K mg base N z (bo st) f n A B s H E).IM (iB st) t/\t {nx:=λ_ U=>Q .jn U,rt:=Q} (start N j) H):FnOk P w K mg base Pj (k+1) f fd ps sp:=by
 let⟨oc,od,kV,doc,pm,an,n,ct,osl,rfl,lk,I⟩:_:=F.ex;show RJ lk I S len λA B s H j Q E L M=> ?_;let⟨t,h,q⟩:_:=D n A B s H j Q E L M;show(t,h.IM,q)
def XX.w9{x I:cX}{st:qc}{f:az}{fd:sU}{ps:aa cX}(F:XX K x I st f fd)
  (h:∀(kV j n:aE) (q:ae az) (z B:aE) (D:aa aE),D.length=ps.length->qN (eU x I (ku st) (iB st) (bo st) .none kV j n q z B) (D,[])=i8 (ps.zip D)):Binds K fd ps []:=by
 let⟨L,M,kV,j,n,q,z,B,N,rfl,lk,hcd⟩:_:=F.ex;show .all (h kV j n q z B)
def zK{x j:cX}{st:qc}{f:az}{I:aE}{L q:ae az}{M:af (ae aE)}{kV z B n D:aE}(l:K.lookup f=ag (I,L,.func (eU x j (ku st) (iB st) (bo st) .none kV z B q n D),M))
  (c:ju K n j=aC)(k:eG K (.ref f)=aC):XX K x j st f (eU x j (ku st) (iB st) (bo st) .none kV z B q n D):=((I,L,kV,z,B,q,n,D,M,J,l,c),k)
end
section
variable{X:Cx}
def pv(i:Nat)(j:X.N[i]?=ag x:=by rfl)(n:YM X.env.scope x:=by w_up)(q:(x==("__debug__":cX))=aA:=by decide)
  (z:(x==("__classdict__":cX))=aA:=by decide):PE X (.Name x afG) (vm i):=WS j n q z
end
def bB(H U:Hp):Prop:=∀b o,H b=ag o->U b=ag o
def bB.trans(a:bB H O)(b:bB O H2):bB H H2:=λc o h=>b c o (a c o h)
def bB.free(e:bB H U)(h:U l=Ac):H l=Ac:=by
 cases q:H l with
 |none=>rfl
 |some o=>
  rw[e l o q] at h;cases h
def bB.seq{K:aq}{H U:Hp}{a:az}{xs:aa V}(e:bB H U)(h:eE K H a xs):eE K U a xs:=by
 rcases h with(h|⟨o,h⟩)|h
 ·show .inl (.inl (e _ _ h))
 ·show .inl (.inr (o,e _ _ h))
 ·show .inr h
section
variable{κ:Type} [DecidableEq κ]
def HJ{kvs:aa (κ×V)}{k:κ}(h:dZ kvs k=au):¬k∈kvs.map (·.1):=by
 intro m;let⟨p,j,e⟩:=aY.mp m;let q:(kvs.any λn=>decide (n.1=k))=aC:=pb.mpr (p,j,decide_eq_true e);rw[ph,h] at q;show absurd q (by simp)
def Gg{kvs:aa (κ×V)}{k:κ}{v:V}(h:dZ kvs k=ag v):k∈kvs.map (·.1):=by
 let q:(kvs.any λj=>decide (j.1=k))=aC:=by
  rw[ph,h];all_goals rfl
 let⟨p,n,e⟩:=pb.mp q;show aY.mpr (p,n,kU e)
def FG{p:κ×V}{r:aa (κ×V)}{k:κ}(e:p.1=k):jV (p::r) k=jV r k:=by
 unfold jV;rw[gL,aD (by simp[e])]
def zM{p:κ×V}{r:aa (κ×V)}{k:κ}(e:¬p.1=k):jV (p::r) k=p::jV r k:=by
 unfold jV;rw[gL,aH (by simp[e])]
theorem Dz:∀{kvs:aa (κ×V)} {k:κ},¬k∈kvs.map (·.1)->jV kvs k=kvs
 |[],_,_=>rfl
 |p::r,k,h=>by
  let h':¬k∈r.map (·.1):=λm=>by
   let⟨q,j,e⟩:=aY.mp m;show h (aY.mpr (q,aT.mpr (J3 j),e))
  rw[zM λe=>h (aY.mpr (p,aT.mpr (gA J),e)),Dz h']
end
def VI{xs:aa V}{z:Int}{j:Nat}{v:V}(e:z=(j:Int))(h:xs[j]?=ag v):Hs xs z=ag v:=by
 rw[e];show b9 h
end L2
namespace PL
open PySem PyProof.Rows fq mY
open Sw58 (stepLess below)
def oP(s:Hj):NK:=.inr [s.1,(s.2.1:Int),(s.2.2:Int)]
abbrev wz(prog:bq)(w:World)(h:cT)(p:nU)(a:az):Prop:=jB prog w h (p.map oP) a
def HV:oP a=oP b↔a=b:=by
 constructor
 ·intro h
  injection h with h;injection h with c h;injection h with d h;injection h with e _;show SM.qr c (by lk) (by lk)
 ·rintro rfl;rfl
def Qj(a b:Hj)(h:a≠b):HT.lexLt [a.1,(a.2.1:Int),(a.2.2:Int)] [b.1,(b.2.1:Int),(b.2.2:Int)]=stepLess a b:=by
 rw[HT.nB,HT.nB,HT.nB,HT.o5];let e:∀x:Bool,(x=aC↔stepLess a b=aC)->x=stepLess a b:=λx i=>by
  cases x<;>cases q:stepLess a b<;>simp_all
 apply e;rw[SM.mj];by_cases c:a.1=b.1
 ·rw[aH c]
  by_cases f:a.2.1=b.2.1
  ·let d:(a.2.1:Int)=(b.2.1:Int):=by lk
   rw[aH d];let g:¬(a.2.2:Int)=(b.2.2:Int):=λz=>h (SM.qr c f (by lk));rw[aD g,cx];lk
  ·let d:¬(a.2.1:Int)=(b.2.1:Int):=by lk
   rw[aD d,cx];lk
 ·rw[aD c,cx]
  lk
section
universe b
def Qc(h:oJ (intKind prog w) s.heap e b):∃c:af aE,yQ s.heap b c/\oB c.toList e:=by
 let⟨o,c,n,f,hc,g,d⟩:=h;show(c,(o,f,hc,n,g),?_);generalize c.toList=j at d;induction d with
 |nil=>show .nil
 |cons a _ i=>
  let⟨t,rfl⟩:=yN a;show .cons _ t i
theorem HU(B:A.units+8<fF):∀p q n j k R,kT prog w s.heap (p.map oP) n->kT prog w s.heap (q.map oP) j->
  (∀c,below p q=c->(p.length<=q.length/\q.take p.length=p\/q.length<=p.length/\p.take q.length=q)->R #[au,()] s)->(∀c,below p q=c->R #[ag c,()] s)->
  aW (bp prog w) A (forIn ((n.zip j).zipIdx k) (#[au,()]:ae Bool×Unit) λx __s=>match x with
   | #[#[p,q],i]=>do
    let __do_lift<-JN p q
    if(!__do_lift)=aC then do
      let __do_lift<-oneLt' (aA&&i==0) p q
      i8 (uz #[ag __do_lift,()])
     else i8 (jI #[au,()])) R E s
 |[],q,_,j,k,R,f,g,d,h=>by
  cases f;rw[yX,uT,g9];show am (d _ rfl (.inl (bW _,J)))
 |a::p,[],_,_,k,R,f,g,d,h=>by
  cases g;rw[xO,uT,g9];show am (d _ rfl (.inr (bW _,J)))
 |a::p,b::q,_,_,k,R,f,g,d,h=>by
  cases f with
  | @cons _ v _ C D H=>
   cases g with
   | @cons _ u _ I L M=>
    rw[jH,jw,ie];let⟨Y,rfl,o⟩:=D;let⟨bb,rfl,r⟩:=L;let t:A.units<fF:=by lk
    show ah (ah (UZ t o r ?_));by_cases e:a=b
    ·subst e
     rw[decide_eq_true J];simp![nu,bJ,d8];show am ?_;let y:∀c,below p q=c->below (a::p) (a::q)=c:=λc hc=>by
      rw[<-hc];change(stepLess a a||(a==a&&below p q))=below p q;rw[SM.pJ];simp
     show HU B p q C I (k+1) R H M (λc hc hl=>d c (y c hc) ?_) λc hc=>h c (y c hc);rcases hl with⟨l,m⟩|⟨l,m⟩
     ·show .inl (pD l,by change a::q.take p.length=a::p;rw[m])
     ·show .inr (pD l,by change a::p.take q.length=a::q;rw[m])
    ·let N:¬([a.1,(a.2.1:Int),(a.2.2:Int)]:aa Int)=[b.1,(b.2.1:Int),(b.2.2:Int)]:=λz=>e (HV.mp (by unfold oP;rw[z]))
     rw[decide_eq_false N];simp![Tj,mG];let⟨ia,O,Q⟩:=Qc o;let⟨ib,T,U⟩:=Qc r;show ah ?_;rw[oneLt'_eq];simp![qS,bJ,d8];show ah (HT.Lm O T Q U t ?_);show gy ?_;rw[Qj a b e];show am (am (h _ ?_));change(stepLess a b||(a==b&&below p q))=stepLess a b;rw[beq_eq_false_iff_ne.mpr e];simp
theorem FR:∀p q,p.length<=q.length/\q.take p.length=p\/q.length<=p.length/\p.take q.length=q->below p q=decide (p.length<q.length)
 |[],[],_=>rfl
 |[],_::_,_=>by simp[below]
 |_::_,[],_=>by simp[below]
 |a::p,b::q,h=>by
  let e:a=b:=by
   rcases h with⟨_,h⟩|⟨_,h⟩
   ·injection h with h _;show h.symm
   ·injection h with h _
  subst e;let c:=FR p q (by
   rcases h with⟨l,h⟩|⟨l,h⟩
   ·injection h with _ h;show .inl (JV l,h)
   ·injection h with _ h;show .inr (JV l,h))
  change(stepLess a a||(a==a&&below p q))=_;rw[SM.pJ,c];simp
def IR:∀{h:cT} {a:aa NK} {b:aa aE},kT prog w h a b->a.length=b.length:=by
 intro _ _ _ z;induction z with
 |nil=>
  show J
 |cons _ r c=>
  rw[aN,aN,c]
def place_lt(f:A.units+8<fF)(g:wz prog w s.heap p a)(i:wz prog w s.heap q b)(h:Q (below p q) s):
  aW (bp prog w) A (JL (lN aA) (.ref a) (.ref b)) Q E s:=by
 let⟨u,j,v,k,_,l,d⟩:=g;let⟨x,m,y,n,_,o,e⟩:=i;rw[Ln];show ah (rS k l (ah (rS n o ?_)));let r:p.length=j.size:=by let:=IR d;rw[ao,ft] at this;show this
 let t:q.length=m.size:=by let:=IR e;rw[ao,ft] at this;show this
 show ah (HU f p q _ _ 0 _ d e (λc hc hl=> ?_) λc hc=> ?_)
 ·show am ?_
  rw[<-r,<-t,<-FR p q hl];show h
 ·show am ?_
  rw[<-hc];show h
end
end PL
namespace LX
open PySem PySem.Spec PyProof.Rows L2
theorem Fx(f:a->b):∀(l:aa a) j,(l.map f).eraseIdx j=(l.eraseIdx j).map f
 |[],_=>rfl
 |_::_,0=>rfl
 |x::l,j+1=>by
  change f x::(l.map f).eraseIdx j=f x::(l.eraseIdx j).map f;rw[Fx f l j]
section
variable{prog:bq}{w:World}{K:Type} [DecidableEq K] {knd:aa8 prog w K}{A:dG}{E:Vp}{s:br}
def Fe(n:knd.room A)(q:knd.is s.heap k a)(t:s.heap.DictOfH knd d c)(I:c.length<=bf)
  (u:pS c k=au->Q au {s with toks:=s.toks+knd.draws k})
  (v:∀(j:Nat) p l,c[j]?=ag #[k,p]->pS c k=ag p->l.DictOfH knd d (c.eraseIdx j)->fH d s.heap l->Q (ag (JO knd #[k,p])) {s with heap:=l,toks:=s.toks+knd.draws k}):
  aW (bp prog w) A (BH d (.ref a)) Q E s:=by
 let⟨o,y,z,g,hc,b,h,r,m⟩:_:=t;unfold BH;show dD ?_;show ah (knd.pyHash n q (ah (SW n q g b h r m (λB=> ?_) λj p i=> ?_)))
 ·show am (u (V0 B))
 ·show ah (fR g b ?_)
  rw[yL h j,i];let C:=iw h;show ah (So g b ?_);show am (v j p _ i (atKey_of_get m i) (_,_,z+1,gv _ g (Nl (pP b _)),hc.mapDictKeys _,pP b _,?_,λx D=> ?_,?_) (eQ ..))
  ·let H:j<y.size:=by rw[C];show(List.getElem?_eq_some_iff.mp i).1
   simp[Array.eraseIdxIfInBounds,H,h,Fx]
  ·show knd.keeps (r x (List.mem_of_mem_eraseIdx D)) g b (eQ ..)
  ·show Zf ((List.eraseIdx_sublist _ _).map _) m
def ZS(u:knd.room A.in1)(v:knd.is s.heap k a)(r:(d==dM)=aA)(h:s.heap.DictOfH knd d b)(y:b.length<=bf)
  (i:pS b k=au->∀l,Q x {s with toks:=l})
  (z:∀j p g l,b[j]?=ag #[k,p]->pS b k=ag p->g.DictOfH knd d (b.eraseIdx j)->fH d s.heap g->Q p.2 {s with heap:=g,toks:=l}):
  aW (bp prog w) A (call (.builtin "dict.pop") [.ref d,.ref a,x]) Q E s:=by
 show cO jv h.typeIs sT ?_ (EC _ _ _);unfold E6;show ah ?_;unfold pd;show ah (iG h.typeIs ?_);show am ?_;let⟨o,m,U,B,_,C,D,_,_⟩:_:=id h;simp![keyPart,J5,bJ,d8];show ah (fR B C ?_);show ah (am ?_);by_cases c:m.isEmpty=aC
 ·rw[c]
  simp![mG];show ah (jp (ah (am ?_)));let H:b=[]:=by
   let:=iw D;let i:m.size=0:=by simpa using c
   show Bg (by lk)
  let n:∀R,R () s->aW (bp prog w) A.in1 (kZ d (.ref a)) R E s:=λR q=>by
   unfold kZ;rw[r];simp![bJ,d8];show am q
  try simp![J6,mG]
  show ah (n _ ?_);show ah (jp (am (_,J,i (by rw[H];rfl) s.toks)))
 ·let I:m.isEmpty=aA:=by simpa using c
  rw[I];simp![bJ,d8];show ah (Fe u v h y (λL=> ?_) λj p g M N O T=> ?_)
  ·let n:∀t R,R () t->aW (bp prog w) A.in1 (kZ d (.ref a)) R E t:=λt R q=>by
    unfold kZ;rw[r];simp![bJ,d8];show am q
   simp![J6,mG];show ah (n _ _ ?_);show ah (jp (am (_,J,i L _)))
  ·simp![qm,bJ,d8]
   show ah (qL (am (_,J,z j p g _ M N O T)))
end
def nE.IQ(r:nE o (au:ae aE)):o=au:=by
 cases o with
 |none=>rfl
 |some v=>show r.elim
def nE.Ib(r:nE o (ag u)):∃v,o=ag v/\RelV v u:=by
 cases o with
 |none=>show r.elim
 |some v=>show(v,J,r)
def KT.drop:∀{i:aa (aa fq.NK×V)} {c:aa (aa fq.NK×az×aE)} {j:Nat} {p:az×aE},KT H i c->(c.map (·.1)).Nodup->c[j]?=ag #[k,p]->KT H (jV i k) (c.eraseIdx j):=by
 intro i c j p z;induction z generalizing j with
 |nil=>
  intro _ d;simp at d
 | @cons a b _ _ h t n=>
  intro g d;rw[bi,eJ] at g;cases j with
  |zero=>
   let e:b= #[k,p]:=aJ d;subst e;rw[FG h.1];change KT H (jV _ k) _;rw[Dz (λz=>g.1 (by
    let:∀{l:aa (aa fq.NK×V)} {m:aa (aa fq.NK×az×aE)},KT H l m->l.map (·.1)=m.map (·.1):=by
     intro l m q;induction q with
     |nil=>rfl
     |cons x _ n=>rw[bi,bi,x.1,n]
    rw[<-this t];show z))]
   show t
  |succ j=>
   let r:=d;rw[sY] at r;let u:¬a.1=k:=λz=>g.1 (by
    rw[<-h.1,z];show aY.mpr (_,bg r,J))
   rw[zM u];show .cons h (n g.2 r)
def Wp(td ty tx:TE):TE:=λg H Q=>td g H λx h=>∃a,x=.ref a/\XW h a/\ty g h λy i=>tx g i λz c=>∃d k b,c a=ag (.dT d)/\y=.ref b/\jo c k b/\
 (∀v,dZ d k=ag v->Q v (bD c a (.dT (jV d k))))/\(dZ d k=au->Q z c)
section
variable{X:Cx}{o e f:fK}{afJ afL:pW}{td ty tx:TE}
def QW(C:X.A.units+65<fF)(D:PE X o td)(L:PE X e ty)(M:PE X f tx)(m:M2 X o "pop" afJ e f afL):PE X (.Call (.Attribute o "pop" afJ) [e,f] [] afL) (Wp td ty tx):=by
 intro g s i H aaV I h;show ik m.base m.LB m.line gD jv uv (gj (D g s i H _ I h) λu N (aa0,O,p,Q,a,T,d,U)=> ?_);subst T;obtain rfl:u=aK a:=Q;let⟨Y,t2,_⟩:_:=vK p d;show(Y,t2,?_);rw[m.Ah];show fh J (gK (dQ (gj (L g N i O _ p U) λiv s2 (aa1,H2,I2,ry,q2)=>
  dQ (gj (M g s2 i H2 _ I2 q2) λfv s3 (z,r,b,rz,j,k,aav,l,ey,eb,q3,q4)=>gf ?_))))
 subst ey;obtain rfl:iv=aK aav:=ry;let⟨hl,t,xs,n,x⟩:_:=Jm b.fe l;let hz:xs.length<=bf:=by rw[<-c9 n];show hl
 let c:=n.val k;show ZS (fq.nest_room C) (og b.fe eb) t x hz (λhn tk=> ?_) λaa5 aa7 h' tk hj hp dd' hs=> ?_
 ·rw[hn] at c
  show(z,r,b.xL _,rz,q4 (nE.IQ c))
 ·rw[hp] at c
  let⟨v,hv,rvv⟩:_:=nE.Ib c;let⟨q,es,ep,y,h2,h3,h4,_,h5⟩:_:=dd';let⟨_,_,_,_,_,_,_,_,hnd⟩:_:=x;let new:fP X.prog X.w (bD r a (.dT (jV j k))) h' a (.dT (jV j k)):=by
   show(bC (DJ j k) hl,t,_,(KT.drop n hnd hj).keeps λabb ys B=> ?_,q,es,ep,y,h2,h3,h4,h5);rw[aZ (Fv B l (λz=>nomatch z))];show B
  show(v,_,rF b (by rw[l];show jF) hs (q,y) new,rvv,q3 v hv)
end
def sK(h h':cT):Prop:=∀b o,h.get? b=ag o->o.cls=.type "tuple"->h'.get? b=ag o
def sK.Bp(k:∀b o,h.get? b=ag o->h'.get? b=ag o):sK h h':=λb o e _=>k b o e
def sK.sameBut(a:fH I h h')(d:h.get? I=ag x)(hc:x.cls≠.type "tuple"):sK h h':=λb o e c=>by
 let f:b≠I:=λz=>by
  subst z;rw[d] at e;cases e;show hc c
 show(a.2 b f).trans e
section
variable{prog:bq}{w:World}{h h':cT}
def Oy(k:sK h h')(x:oJ (intKind prog w) h b a):oJ (intKind prog w) h' b a:=by
 let⟨o,c,n,d,hc,r⟩:_:=x;show(o,c,n,k a o d hc,hc,r)
def N7(k:sK h h'):∀{c:aa fq.NK} {d:aa aE},fq.kT prog w h c d->fq.kT prog w h' c d:=by
 intro c d z;induction z with
 |nil=>show .nil
 | @cons j _ _ _ a r f=>
  cases j with
  |inl i=>show .cons a f
  |inr i=>
   let⟨b,e,g⟩:=a;show .cons (b,e,Oy k g) f
def nO(k:sK h h')(x:fq.jB prog w h b a):fq.jB prog w h' b a:=by
 let⟨o,c,n,d,hc,e,f⟩:_:=x;show(o,c,n,k a o d hc,hc,e,N7 k f)
def uj(k:sK h h')(a:∀o,h.get? S=ag o->h'.get? S=ag o)(x:h.DictOfH (fq.fC prog w) S b):h'.DictOfH (fq.fC prog w) S b:=by
 let⟨o,c,d,e,hc,f,g,i,j⟩:_:=x;show(o,c,d,a o e,hc,f,g,λy l=>nO k (i y l),j)
end
def o0(a more:aa (aa fq.NK×az×aE)):aa (aa fq.NK×az×aE):=more.foldl (λa q=>nH a q.1 q.2.1 q.2.2) a
def Aj(b:aa (aa fq.NK×az×aE))(k:aa fq.NK)(a:az)(v:aE):(nH b k a v).length<=b.length+1:=by
 unfold nH;split
 ·rw[ao];show kX _
 ·rw[bt];show aS _
section
variable{prog:bq}{w:World}{A:dG}{E:Vp}
def yq{h:cT}(x:h.IsListIter I l i):∃o,h.get? I=ag o/\o.cls≠.type "tuple":=by
 let⟨o,a,hc,_⟩:_:=x;show(o,a,?_);rw[hc];intro z;injection z with z;show absurd z (by decide)
theorem Fd(hu:A.units+66<fF)(Y:A.handled=au)(hlI:l≠I)(u:S≠I)(hSl:S≠l):
  ∀d i a v t s,y.size=i+d.length->a.length+d.length<=bf->
   (∀j q,d[j]?=ag q->∃b:az,y[i+j]?=ag (.ref b)/\b≠S/\b≠I/\yQ s.heap b (List.toArray [.ref q.2.1,q.2.2])/\fq.jB prog w s.heap q.1 q.2.1)->
   s.heap.IsListIter I l i->s.heap.IsList l y->s.heap.DictOfH (fq.fC prog w) S a->
   (∀h' m,h'.DictOfH (fq.fC prog w) S (o0 a d)->(∀b o,b≠S->b≠I->s.heap.get? b=ag o->h'.get? b=ag o)->R (.ok (.ret res)) {s with heap:=h',toks:=m})->
   qk (bp prog w) A (.builtin "dict.update.loop" ([.ref S,.ref I,.int v t,res],[])) R s
 |[],i,a,v,t,s,B,hln,C,n,hl,D,H=>by
  show gO xS ?_;rw[eK mT _];change aW _ A.in1 (kt (.ref I)>>=_) _ _ s;show ah (Pl (A:=A.in1) Y n hl (by first|show ji (uS B)|(simp at B;simp;lk)) λh' L=> ?_);change aW _ A.in1 (zd S []>>=_) _ _ _;show ah (am (am ?_));let⟨oi,M,N⟩:_:=yq n;let m:sK s.heap h':=λb o e c=>L b o (λz=>by rw[z,M] at e;cases e;show N c) e;show H h' s.toks (uj m (λo e=>L S o u e) D) λb o _ O e=>L b o O e
 |q::d,i,a,v,t,s,B,hln,C,n,hl,D,H=>by
  let⟨b,O,hbS,hbI,aa5,hk⟩:_:=C 0 q J;rw[aN] at B hln;let⟨oi,M,N⟩:_:=yq n;show gO xS ?_;rw[eK mT _];change aW _ A.in1 (kt (.ref I)>>=_) _ _ s;show ah (OU (x:=.ref b) n hl (by simpa using O) λf aa7 g=> ?_);let Q:sK s.heap f:=sK.sameBut g M N;let ht1:yQ f b (List.toArray [.ref q.2.1,q.2.2]):=aa5.extBut g.extBut hbI;let hl1:f.IsList l y:=hl.extBut g.extBut hlI;let hm1:f.DictOfH (fq.fC prog w) S a:=uj Q (λo e=>(g.2 S u).trans e) D;let hk1:fq.jB prog w f q.1 q.2.1:=nO Q hk;let⟨o,ho,hc,abE,hd⟩:_:=id ht1;change aW _ A.in1 (holding [aK b] _>>=_) _ _ _;show ah (dD ?_);show ah (aaO ?_);unfold AN;show ah (rR (T:="tuple") (o,ho,hc) ?_);rw[aH (by first|decide|rfl|simp)];show ah (fV ho hd (am ?_));change aW _ A.in1 (holding [aK q.2.1,q.2.2] (dictSet S (.ref q.2.1) q.2.2)) _ _ _;show dD (AY (knd:=fq.fC prog w) (k:=q.1) (show A.units+1+64<fF by lk) hk1 hm1 (λh2 hm2 p=> ?_) (by lk));let⟨r,hod,hcd⟩:∃r,f.get? S=ag r/\r.cls≠.type "tuple":=by
   let⟨r,_,_,h1',h2',_⟩:_:=hm1;show(r,h1',?_);rw[h2'.1];intro z;injection z with z;show absurd z (by decide)
  show am (iW mT _,Fd hu Y hlI u hSl d (i+1) (nH a q.1 q.2.1 q.2.2) (v+1) 0 _ (show y.size=i+1+d.length by lk) ?_ (λj q' e=> ?_) ?_ ?_ hm2 λh' m hd' abo=> ?_)
  ·let z:=Aj a q.1 q.2.1 q.2.2
   lk
  ·let⟨b',hb',aaG,aaV,abB,hk'⟩:_:=C (j+1) q' (by simpa using e)
   show(b',?_,aaG,aaV,(abB.extBut g.extBut aaV).extBut p.extBut aaG,nO (sK.sameBut p hod hcd) (nO Q hk'));rw[show i+1+j=i+(j+1) by lk];show hb'
  ·show aa7.at λo' e=>p.extBut I o' (ff u) e
  ·show hl1.extBut p.extBut (ff hSl)
  ·show H h' m hd' λc U h3 h4 e=>abo c U h3 h4 (p.extBut c U h3 (g.extBut c U h4 e))
def zQ(hu:A.units+67<fF)(u:A.handled=au)(hl:s.heap.get? l=ag c)(hc:c.cls=.type "list")(I:c.dict=au)
  (v:c.data=.seq k n)(L:k.size=prs.length)(M:prs.length<=bf)
  (N:∀(j:Nat) q,prs[j]?=ag q->∃b:az,k[j]?=ag (.ref b)/\yQ s.heap b (List.toArray [.ref q.2.1,q.2.2])/\fq.jB prog w s.heap q.1 q.2.1)
  (h:∀h' m,h'.DictOfH (fq.fC prog w) s.heap.objs.size (o0 [] prs)->(∀b o,s.heap.get? b=ag o->h'.get? b=ag o)->Q (.ref s.heap.objs.size) {s with heap:=h',toks:=m}):
  aW (bp prog w) A (call (.type "dict") [.ref l]) Q E s:=by
 show aaZ (Q₁:=λx y=>x=.ref s.heap.objs.size/\y={s with heap:=s.heap.push {cls:=.type "dict",data:=.dict #[]}}) E1 (A8 _) EB (X5 _ (J,J)) ?_;rintro x y ⟨rfl,rfl⟩;let p:(s.heap.push {cls:=.type "dict",data:=.dict #[]}).DictOfH (fq.fC prog w) s.heap.objs.size []:=F7 s.heap;let f:∀b o,s.heap.get? b=ag o->(s.heap.push {cls:=.type "dict",data:=.dict #[]}).get? b=ag o:=λb o e=>al _ e;show(p.typeIs,Es _ _,?_);unfold AM;show ah ?_;unfold zb;show ah (iG p.typeIs ?_);show am ?_;change aW _ _ (mD "dict.__init__" s.heap.objs.size (.ref l) [] .none) _ _ _;unfold mD;show ah (rR (c,f _ _ hl,hc) ?_);rw[aH (by first|decide|rfl|simp)];show ah (Ob (f _ _ hl) hc v I u λa O d=> ?_);rw[aH (show(au:ae aE).isNone=aC from rfl)];show ah (jp ?_);let z:a.IsList l k:=(c,d _ _ (f _ _ hl),hc,n,v);let g:s.heap.objs.size<a.objs.size:=by
  let e:(s.heap.push {cls:=.type "dict",data:=.dict #[]}).get? s.heap.objs.size=ag {cls:=.type "dict",data:=.dict #[]}:=aG _ rfl;show aI (d _ _ e)
 show ah (uH z ?_);let i:∀b o,a.get? b=ag o->(a.push {cls:=.type "list_iterator",data:=.fields (List.toArray [.ref l,.int 0 0])}).get? b=ag o:=λb o e=>al _ e;let B:=aI hl;let t:∀b o,s.heap.get? b=ag o->(a.push {cls:=.type "list_iterator",data:=.fields (List.toArray [.ref l,.int 0 0])}).get? b=ag o:=λb o e=>i _ _ (d _ _ (f _ _ e));let C:=Fd (A:=A.in1) (R:=wants (λr T=>r=.none/\Q (.ref s.heap.objs.size) T) E) (show A.units+1+66<fF by lk) u
  (bw (oG B g)) (bw g) (cZ B) prs 0 [] 0 0
  {s with heap:=a.push {cls:=.type "list_iterator",data:=.fields (List.toArray [.ref l,.int 0 0])},toks:=O} (by rw[L,gE]) (by rw[dS,gE];show M)
  (λj q e=>by
   let⟨b,U,D,Y⟩:_:=N j q e;let H:=D.lt;show(b,by rw[gE];show U,bw H,bw (oG H g),D.keeps t,nO (sK.Bp t) Y))
  (_,aG _ rfl,J,J) (z.at λo e=>i _ _ e) (uj (sK.Bp i) (λo e=>i _ _ e) (uj (sK.Bp d) (λo e=>d _ _ e) p))
  (λh' m hd' aax=>(J,h h' m hd' λb o e=>aax b o (bw (aI e)) (bw (oG (aI e) g)) (t _ _ e)))
 first
  |show am (iW mT _,C)
  |show ah (am (am (iW mT _,C)))
end
def kE(b more:aa (aa fq.NK×V)):aa (aa fq.NK×V):=more.foldl (λc a=>fT c a.1 a.2) b
theorem qB:∀more a,(kE a more).length<=a.length+more.length
 |[],a=>aS _
 |b::more,a=>by
  change(kE (fT a b.1 b.2) more).length<=_;let c:=qB more (fT a b.1 b.2);let d:=nQ a b.1 b.2;rw[aN];lk
def KT.merge:∀{more:aa (aa fq.NK×V)} {e:aa (aa fq.NK×az×aE)} {c:aa (aa fq.NK×V)} {d:aa (aa fq.NK×az×aE)},KT H more e->KT H c d->KT H (kE c more) (o0 d e):=by
 intro more e c d z;induction z generalizing c d with
 |nil=>showλr=>r
 | @cons a b _ _ h t f=>
  intro r;let g:KT H (fT c a.1 a.2) (nH d b.1 b.2.1 b.2.2):=by
   rw[<-h.1];show r.put a.1 h.2.1 h.2.2
  change KT H (kE (fT c a.1 a.2) _) (o0 (nH d b.1 b.2.1 b.2.2) _);show f g
section
variable{X:Cx}
def yH(K:aq)(H:Hp)(p:az)(a:aa fq.NK×V):Prop:=∃b,gg K H p [.ref b,a.2]/\jo H a.1 b
def N2(I:L2.Inv X N O H s):∀{d:aa az} {f:aa (aa fq.NK×V)},fG (yH X.K H) d f->
  ∃a:aa (aa fq.NK×az×aE),KT H f a/\a.length=d.length/\∀(j:Nat) q,a[j]?=ag q->∃b:az,d[j]?=ag b/\yQ s.heap b (List.toArray [.ref q.2.1,q.2.2])/\fq.jB X.prog X.w s.heap q.1 q.2.1:=by
 intro _ _ z;induction z with
 |nil=>
  show([],.nil,J,λj q e=>by simp at e)
 | @cons p g _ _ h t k=>
  let⟨a,r,hl,l⟩:_:=k;let⟨b,m,i⟩:_:=h;let⟨Q,n,o,_⟩:_:=I.tuple m;let⟨u,y,v,x,B⟩:_:=vals2 n;subst v;obtain rfl:u=aK b:=x;show(#[g.1,b,y]::a,.cons (J,i,B) r,by rw[aN,aN,hl],λj q e=> ?_);cases j with
  |zero=>
   let C: #[g.1,b,y]=q:=aJ e;subst C;show(p,J,o,og I.fe i)
  |succ j=>
   let⟨c,D,L,M⟩:_:=l j q (by simpa using e);show(c,by simpa using D,L,M)
def rH(n:X.A.units+67<fF)(o:X.calm=aC):uG X (.type "dict") (λi H Q=>∃a d c,i=[.ref a]/\eE X.K H a (d.map V.ref)/\fG (yH X.K H) d c/\
  ∀p,H p=au->Q (.ref p) (bD H p (.dT (kE [] c)))):=by
 intro aaC s σ H i us Q I r q;let⟨a,d,c,t,u,v,q⟩:_:=q;subst t;let⟨aaE,x,y⟩:_:=vals1 r;subst x;cases y;let⟨its,z,B,f⟩:_:=I.list u;let C:=yh z;subst C;rw[ao] at f;let⟨g,l,hl,D⟩:_:=N2 I v;let⟨aaV,aa0,L,hc,M,N⟩:_:=B;show zQ (prs:=g) n (I.ok.hd o) L hc M N (by simp[hl]) (by rw[hl];show f) (λj O e=> ?_) λh' tk T k=> ?_
 ·let⟨b,U,Y,e3⟩:_:=D j O e
  show(b,by simp[U],Y,e3)
 ·let hm:(s.heap.objs.size==dM)=aA:=beq_eq_false_iff_ne.mpr (cZ I.VH)
  let aav:(kE [] c).length<=bf:=by
   show bC (qB c []) ?_;rw[dS,gE,c9 l,hl];show f
  let m:=I.fe.fresh (aS _);let aax:KT (bD H s.heap.objs.size (.dT (kE [] c))) (kE [] c) (o0 [] g):=(KT.merge l .nil).keeps λb ys e=>by rw[aZ (bI e m)];show e
  let⟨q1,es,ep,g1,g2,g3,g4,_,g5⟩:_:=T;show(.ref s.heap.objs.size,bD H s.heap.objs.size (.dT (kE [] c)),I.pL k (aS _) (show fP X.prog X.w _ _ _ (.dT (kE [] c)) from(aav,hm,o0 [] g,aax,q1,es,ep,g1,g2,g3,g4,g5)),J,q _ m)
end
open PySem.W
def aaB(h:cT)(d:az)(o:Eu):Prop:=h.get? d=ag o
section
variable{prog:bq}{w:World}{d:az}{o:Eu}{es:af jO}{ep:Nat}
def Nz(p:A.handled=au)(I:az)(q:d≠I)(k:o.data=.dict es ep):
  Walks prog w A I [I,d] [I] es.size (λi v=>∃l,es[i]?=ag l/\v=l.key) (λi h=>h.IsKeyIter I d i es.size ep/\aaB h d o) where
 sub:=λb a=>by simp at a;simp[a]
 frame:=λi h f st m=>(st.1.at λg e=>m I (by simp) g e,m d (by simp) o st.2)
 item:=λi s Q E r st c=>by
  let j:es[i]?=ag es[i]:=jP r;show wW st.1 st.2 k J j λf t n=> ?_;show c _ f s.toks (_,j,J) (t,(n.2 d q).trans st.2) λb g a e=>(n.2 b (by simpa using a)).trans e
 done:=λs Q E st c=>ue p st.1 st.2 k J (aS _) λf j=>c f s.toks λb g a e=>j b g (by simpa using a) e
 self:=λi s Q E st c=>Sq st.1 c
def Mi(lo:(d==dM)=aA)(b:o.ExactDict)(e:o.data=.dict es ep):KdlSrc prog w "dict" d d es.size (λi v=>∃f,es[i]?=ag f/\v=f.key) (λh=>aaB h d o) where
 type:=λs a=>(o,a,b.1)
 there:=λh a=>(aI a,aI a)
 keep:=λh k a g=>g d (.inl rfl) o a
 notList:=by decide
 notTuple:=by decide
 hint:=λA E s Q a c=>kdl_hint_dict (o,a,b.1) c
 iter:=λA s j a=>(_,_,(λE Q c=>zH lo a b e c),Nz j _ (bw (aI a)) e,((_,aG _ rfl,J,J),al _ a))
end
section
variable{X:Cx}
def Og{P:bq}{w:World}:∀{a:aa (aa fq.NK×V)} {b:aa (aa fq.NK×az×aE)},KT H a b->fG (λc (q:az)=>jo H c.1 q) a (b.map (·.2.1)):=by
 intro _ _ z;induction z with
 |nil=>
  show .nil
 |cons h t e=>
  show .cons h.2.1 (e)
theorem sw:∀a:aa az,eD (a.map V.ref) (a.map aK)
 |[]=>.nil
 |p::a=>.cons rfl (sw a)
def Eb(x:X.calm=aC):uG X (.type "list") (λk H Q=>∃a g,k=[.ref a]/\Rd H a (.dT g)/\∀(l:az) (m:aa az),H l=au->fG (λy (q:az)=>jo H y.1 q) g m->Q (.ref l) (bD H l (.bZ (m.map V.ref)))):=by
 intro aav s σ H k us Q I r q;let⟨a,g,z,A,q⟩:_:=q;subst z;let⟨aax,B,C⟩:_:=vals1 r;subst B;cases C;let⟨hl,lo,b,n,o,es,ep,D,E,L,p,_,_⟩:_:=uE I.fe A;let M:=iw p;let t:b.length<=bf:=by rw[<-c9 n];show hl
 show kdl_call (Mi lo E L) (I.ok.hd x) D (by rw[M];show t) λh' tk h c N O j=> ?_;let T:h.toList=(b.map (·.2.1)).map aK:=by
  apply j9;intro i;rw[il];by_cases U:i<es.size
  ·let⟨v,u⟩:∃v,h[i]?=ag v:=(_,jP (by rw[j.1];show U))
   let⟨en,Y,h2⟩:_:=j.2 i v u;rw[u,h2];let f:=yL p i;rw[Y] at f;cases e:b[i]? with
   |none=>rw[e] at f;cases f
   |some aaC=>
    rw[e] at f;rw[aF,aF,e,(aJ f)];rfl
  ·rw[ji (by rw[j.1];lk),b8 (by rw[ao,ao];lk)]
 let ea:h=((b.map (·.2.1)).map aK).toArray:=by rw[<-T,pF]
 show(.ref s.heap.objs.size,bD H s.heap.objs.size (.bZ ((b.map (·.2.1)).map V.ref)),I.pL N (aS _) (show fP X.prog X.w _ _ _ (.bZ ((b.map (·.2.1)).map V.ref)) from(by rw[ao,ao];show t,_,c,sw _,by rw[<-ea];show O)),J,q _ _ (I.fe.fresh (aS _)) (Og (P:=X.prog) (w:=X.w) n))
end
end LX
namespace LX
open PySem PySem.Spec PyProof.Rows L2
def TopE(e:jO)(p:Int×V):Prop:=e.hash=hashInt p.1/\(∃t,e.key=.int p.1 t)/\RelV p.2 e.val
structure TopD(K:PySem.W.Frag)(a:Addr)(oY:List (Int×V)):Prop where
 obj:∃o es ep,K.lookup a=some o/\o.ExactDict/\o.data=.dict es ep/\Paired TopE es.toList oY
 nd:(oY.map (·.1)).Nodup
 acs:(a==sysModules)=false
def atT(a:aa (Int×V))(i:Int):ae V:=(a.find? λp=>decide (p.1=i)).map (·.2)
def yD(c:p.1=i):atT (p::r) i=ag p.2:=by unfold atT;rw[eZ];simp[c]
def yE(c:¬p.1=i):atT (p::r) i=atT r i:=by unfold atT;rw[eZ];simp[c]
def Tx:∀{b:aa jO} {d:aa (Int×V)},fG TopE b d->∃a:aa (Key×aE),Pairs (iO P w) b a/\a.map (·.1)=d.map (λp=>(cy p.1:Key))/\
  (∀e∈b,∃k,(iO P w).is k e.key=aC/\e.hash=(iO P w).hash k)/\∀i,nE (atT d i) (nG a (cy i)):=by
 intro _ _ z;induction z with
 |nil=>
  show([],.nil,J,λe l=>(by cases l),λi=>trivial)
 | @cons e p _ _ h t m=>
  let⟨a,n,q,r,s⟩:=m;let⟨u,⟨v,y⟩,A⟩:=h;let j:(iO P w).is (cy p.1) e.key=aC:=by
   rw[y];change rL p.1 (.int p.1 v)=aC;simp[rL]
  show(#[cy p.1,e.val]::a,.cons j J n,by rw[bi,bi,q],λx f=> ?_,λi=> ?_)
  ·rcases aT.mp f with rfl|f
   ·show(cy p.1,j,u)
   ·show r x f
  ·by_cases c:p.1=i
   ·let g:nG (#[cy p.1,e.val]::a) (cy i:Key)=ag e.val:=by unfold nG;rw[eZ];simp[c]
    rw[yD c,g];show A
   ·let B:¬(cy p.1:Key)=cy i:=λz=>c (Hk z)
    let g:nG (#[cy p.1,e.val]::a) (cy i:Key)=nG a (cy i):=by unfold nG;rw[eZ];simp[B]
    rw[yE c,g];show s i
theorem TopD.at(I:L2.Inv X u v H s)(d:TopD X.K a c):
  ∃b:aa (Key×aE),s.heap.DictOf (iO X.prog X.w) a b/\∀i,nE (atT c i) (nG b (cy i)):=by
 let⟨o,f,g,j,k,l,m⟩:_:=d.obj;let⟨b,n,p,q,r⟩:_:=Tx m;show(b,(o,f,g,I.Hq a o j,k,l,λe t=>q e (Array.mem_toList_iff.mpr t),n,?_),r);rw[p];let:=d.nd;rw[gZ,bN] at this⊢;show this.imp λh z=>h (Hk z)
def Zu(td ty:TE)(K:aq):TE:=λb H Q=>td b H λx d=>ty b d λy f=>∃a c i v,x=.ref a/\y=.int i/\TopD K a c/\atT c i=ag v/\Q v f
def Zt(td ty:TE)(K:aq):TE:=λb H Q=>td b H λx d=>∃a c,x=.ref a/\TopD K a c/\ty b d λy f=>∃i,y=.int i/\Q ((atT c i).getD .jn) f
section
variable{X:Cx}{o e:fK}{afG afJ afL:pW}{td ty:TE}
def Ld(g:PE X o td)(j:PE X e ty)(l:XU e):PE X (.Subscript o e afG) (Zu td ty X.K):=by
 intro b s c H Q I h;show Mf F.slot_dict_getitem.lookup l (gj (g b s c H _ I h) λu m (x,n,p,q,t)=>gj (j b m c n _ p t) λN O (y,w,d,z,a,T,i,v,A,B,C,D,E)=> ?_);subst A B;obtain rfl:u=aK a:=q;let⟨U,f,L⟩:_:=TopD.at d C;let r:=L i;rw[D] at r;let⟨Y,hw,M⟩:_:=L2.nE.wc r;show(f.typeIs,X1 (wZ (k:=cy i) z) f.mapOf hw (v,w,d.xL _,M,E))
def Ub(q:PE X o td)(r:PE X e ty)(m:M1 X o "get" afJ e afL):PE X (.Call (.Attribute o "get" afJ) [e] [] afL) (Zt td ty X.K):=by
 intro f s g H Q I h;show ik m.base m.LB m.line gD fZ uw (gj (q f s g H _ I h) λu t (x,v,j,y,a,z,A,c,B)=> ?_);subst A;obtain rfl:u=aK a:=y;let⟨U,l,_⟩:_:=TopD.at j c;show(l.typeIs,λb d=> ?_,?_)
 ·injection d with d
  subst d;let⟨C,_,_,D,E,_⟩:_:=l;show(C,D,E.2.1)
 rw[m.Ah];show fh J (gK (dQ (gj (r f t g v _ j B) λY s2 (aav,L,n,M,i,N,O)=>gf ?_)));subst N;let⟨vs,p,T⟩:_:=TopD.at n c;show pB fZ p.typeIs kL (rX _ _) (aaU (iO X.prog X.w) a (wZ (k:=cy i) M) c.acs) (_,p.mapOf,((atT z i).getD .jn,L,n.xL _,?_,O));show(T i).getD J
end
end LX
namespace LX
open PySem PyProof.Rows HT
def QG(A:dG)(s:br)(a:Int)(t:V3)(c:Int)(u:V3)(prog:bq)(w:World)(E:Vp)(Q:Vp)(h:Q (.bool (decide (c<a))) s):
  aW (bp prog w) A (richCompare .Gt (.int a t) (.int c u)) Q E s:=by
 let z:aW (bp prog w) A (fk .Gt (.int a t) (.int c u)) Q E s:=Zb h;show z
section
open PySem.SeqAt
open PySem.AutoSeq1 (wpAny_loadPart')
open PySem.MeetsSeq PySem.MeetsSeq2 PySem.MeetsSeq3
def EL(l b:az)(i j:af aE)(n O:Nat)(Q T:ae az)(U Y:af (ae aE))(p q:aa Int)(H:oB i.toList p)(I:oB j.toList q):
  Meets (adp ([.ref l,.ref b],[]))
   (λ_ R s=>s.heap.get? l=ag {cls:=.type "tuple",dict:=Q,data:=.seq i n,slots:=U}/\s.heap.get? b=ag {cls:=.type "tuple",dict:=T,data:=.seq j O,slots:=Y}/\
    R (.ok (.ret (.bool (lexLt q p)))) s):=
 .of_wp λprog w A R s h=>by
  let⟨r,g,d,v,os⟩:=s;let⟨hl,hb,h⟩:=h;let f2:=BI;let z1:i.size=p.length:=by rw[<-H.length];simp
  let z2:j.size=q.length:=by rw[<-I.length];simp
  wp_walk using wpAny_loadPart' hl,wpAny_loadPart' hb,qa _ (λL b B=>b.1=au/\B=(r,g,d,v,os)/\∃x y k m,L=x.zip y/\
   oB x k/\oB y m/\k.length+j.size=m.length+i.size/\R (.ok (.ret (.bool (lexLt m k)))) (r,g,d,v,os)) _
  case turn=>
   rintro⟨aa0,aa1⟩ L b B ⟨C,rfl,x,y,k,m,e,D,z,o,f⟩;cases D with
   |nil=>rw[yX] at e;cases e
   |cons a t aav=>
    cases z with
    |nil=>rw[xO] at e;cases e
    |cons c u aax=>
     rw[jH] at e;injection e with hyx aaE;injection hyx with hy hx;subst hy hx;rw[nB] at f;simp![aN] at o;let⟨aaG,he,M⟩:=Jl A.in1 (r,g,d,v,os) a t c u;show ah (he prog w _ _ ?_);cases aaG with
     |true=>
      rw[aH (M.mp J).symm] at f
      wp_walk
      show(J,J,_,_,_,_,aaE,aav,aax,by lk,f)
     |false=>
      rw[aD (λaaV=>absurd (M.mpr aaV.symm) bH)] at f
      wp_walk using(QG A.in1 (r,g,d,v,os) a t c u prog w)
      show(_,J,by simpa using f)
  case fin=>
   rintro⟨b1,b2⟩ B ⟨C,rfl,x,y,k,m,e,D,z,o,f⟩;simp only at C;subst C;let N:lexLt m k=decide (j.size<i.size):=by
    cases D with
    |nil=>
     cases z with
     |nil=>
      simp![dS] at o;rw[o5];first|show(decide_eq_true (by lk)).symm|show(decide_eq_false (by lk)).symm
     |cons c u hw=>
      simp![dS,aN] at o;rw[vI];first|show(decide_eq_true (by lk)).symm|show(decide_eq_false (by lk)).symm
    |cons a t N=>
     cases z with
     |nil=>
      simp![dS,aN] at o;rw[vH];first|show(decide_eq_true (by lk)).symm|show(decide_eq_false (by lk)).symm
     |cons c u hw=>
      rw[jH] at e;cases e
   rw[N] at f
   wp_walk
   show(_,rfl,by simpa [vb] using f)
  case h=>
   show(rfl,rfl,i.toList,j.toList,p,q,rfl,H,I,by lk,h)
end
section
universe b
def Lu(hl:yQ s.heap l d)(m:yQ s.heap b e)(o:oB d.toList a)(p:oB e.toList c)
  (q:A.units<fF)(h:Q (.bool (lexLt c a)) s):aW (bp prog w) A (fk .Gt (.ref l) (.ref b)) Q E s:=by
 let⟨⟨z,r,B,t⟩,f,hc,n,g⟩:_:=id hl;let⟨⟨C,u,data2,v⟩,i,j,y,k⟩:_:=id m;simp only at hc g j k;subst hc g j k;show OW (op:=.Gt) (_,f,J) (_,i,J) F.slot_tuple_gt F.entry_tuple_gt (F.args_tuple_gt_2 _ _) (EL l b d e n y r u t v a c o p)
  (f,i,show oX (lexLt c a)≠JQ/\Q (.bool (lexLt c a)) s from((λx=>nomatch x),h)) q
end
section
open L2
variable{X:Cx}
inductive ZN(K:aq)(x y:V)(H:Hp)(Q:VK):Prop|mk:∀a b c d,x=.ref a->y=.ref b->gg K H a (c.map V.int)->gg K H b (d.map V.int)->Q (.bl (HT.lexLt d c)) H->ZN K x y H Q
def WZ(c:X.A.units<fF):zT X (fk .Gt) (ZN X.K):=by
 intro o s p H x y v u Q I d e h;let⟨a,b,f,g,rfl,rfl,i,j,q⟩:=h;cases d;cases e;let⟨r,k,l,_⟩:=I.tuple i;let⟨t,m,n,_⟩:=I.tuple j;show Lu l n (intsAre_of k) (intsAre_of m) c (.bl (HT.lexLt g f),H,I,J,q)
end
end LX
namespace LX
open PySem PySem.Spec PyProof.Rows L2
inductive Mt(K:aq)(x:V)(d:aa V)(H:Hp)(Q:VK):Prop|mk:∀(a:az) (e:aa az) (b:aa (aa Int)) (q:az) (c:aa Int) (j:Nat),x=V.ref a->d=[V.ref q]->eE K H a (e.map V.ref)->fG (λp f=>H p=ag (.dC (f.map V.int))) e b->H q=ag (.dC (c.map V.int))->b[j]?=ag c->(∀m,m<j->b[m]?≠ag c)->Q (.int (j:Nat)) H->Mt K x d H Q
def N3:∀{l:aa c} {m:aa k},fG R l m->∀{i:Nat} {a:c},l[i]?=ag a->∃b,m[i]?=ag b/\R a b:=by
 intro _ _ z;induction z with
 |nil=>
  intro i a h;simp at h
 |cons r t d=>
  intro f a h;cases f with
  |zero=>
   let e:=aJ h;subst e;show(_,J,r)
  |succ i=>
   let⟨b,g,j⟩:= @d i a (by simpa using h);show(b,by simpa using g,j)
def Ol(h:ItemsAre (intKind P w) a b):ItemsAre (intKind e f) a b:=by
 induction h with
 |nil=>show .nil
 |cons c _ d=>show .cons c d
def xU:oJ (intKind P w) h b a->oJ (intKind g j) h b a:=λ(o,i,n,c,d,e,f)=>(o,i,n,c,d,e,Ol f)
open Classical in
noncomputable def Fm (P:bq) (w:World) (h:cT) (a:aa Int) (u:aE):Bool:=decide (∃b,u=.ref b/\oJ (intKind P w) h a b)
section
variable{X:Cx}
def Oa(hu:X.A.units+8<fF):MtR X "list.index" (Mt X.K):=by
 intro aa5 s σ H aa7 xs v us Q I B C h;let⟨a,b,r,q,f,j,rfl,rfl,D,t,o,u,E,k⟩:=h;cases B;cases C with
 |cons L M=>
  rename_i N ut;cases M;obtain rfl:N=aK q:=L;let⟨its,O,⟨⟨cls,T,abd,U⟩,n,x,hc,hdn,y⟩,Y⟩:=I.list D;simp only at hc y;subst hc y;let ei:=yh O;subst ei;let z:j<b.length:=by rw[(c9 t)];show(List.getElem?_eq_some_iff.mp u).1
  let tq:=GX I.fe o;let at_:∀m (d:m<b.length),∃g,r[m]?=ag g/\oJ (intKind X.prog X.w) s.heap g b[m]:=λm d=>by
   let⟨g,l,i⟩:=N3 t (aL d);show(g,l,GX I.fe i)
  let same_iff:∀m (d:m<b.length),Fm X.prog X.w s.heap f (.ref b[m])=aC↔r[m]?=ag f:=λm d=>by
   let⟨g,l,i⟩:=at_ m d;unfold Fm;rw[@decide_eq_true_iff _ (adm _),l];constructor
   ·rintro⟨abh,e,hb⟩
    injection e with e;subst e;rw[i.inj hb]
   ·intro e
    let e':=aJ e;subst e';show(_,J,i)
  let hja:j<(b.map aK).toArray.size:=by simpa using z
  let hsl:=dN;rw[ao] at Y;show qb EA (_,x,J) F.entry_list_index (F.args_list_index_2 _ _)
   (SeqAt.list_indexAt a (b.map aK).toArray n T U (.ref q) (Fm X.prog X.w s.heap f) j hja (by lk) ?_ ?_) (x,λu' hu'=> ?_,?_)
  ·let p:(b.map aK).toArray[j]=aK b[j]:=by simp
   rw[p];show(same_iff j z).mpr u
  ·intro m d hmj
   let hml:m<b.length:=by simpa using d
   let p:(b.map aK).toArray[m]=aK b[m]:=by simp
   rw[p];cases c:Fm X.prog X.w s.heap f (.ref b[m]) with
   |false=>rfl
   |true=>show absurd ((same_iff m hml).mp c) (E m hmj)
  ·let hu2:u'∈b.map aK:=by simpa using hu'
   let⟨abl,hp1,hp2⟩:=aY.mp hu2;let⟨m,d,hpm⟩:=List.mem_iff_getElem.mp hp1;subst hp2 hpm;let⟨g,l,i⟩:=at_ m d;let eb:Fm X.prog X.w s.heap f (.ref b[m])=decide (g=f):=by
    let:=same_iff m d;rw[l] at this;cases c:Fm X.prog X.w s.heap f (.ref b[m]) with
    |true=>show(decide_eq_true (aJ (this.mp c))).symm
    |false=>show(decide_eq_false (λe=>by rw[this.mpr (by rw[e])] at c;cases c)).symm
   rw[eb];intro abm abn abo Q o;show UZ (show X.A.units+1<fF by lk) (xU i) (xU tq) o
  ·show(.int (j:Nat),H,I.xL _,(_,J),k)
end
open PySem.W
abbrev GV(x:aE)(f:Bool)(d:az)(i n ep:Nat)(p q:aE):Eu:={cls:=.type "dict_itemiterator",dict:=au,data:=.fields (List.toArray [x,.bool f,.ref d,.int i 0,.int n 0,.int ep 0,p,q]),slots:= #[]}
def YN(h:cT)(b S:az)(x:aE)(f:Bool):Prop:=(x=.none/\f=aA)\/∃a o,x=fb (a:Nat)/\h.get? a=ag o/\a≠b/\a≠S
abbrev BU(k v:aE):Eu:={cls:=.type "tuple",data:=.seq (List.toArray [k,v])}
section
universe b
def WX(hi:s.heap.get? c=ag (GV I f d i n j p q))(hS:S<s.heap.objs.size)(ow:YN s.heap c S I f)
  (L:∀r M N p' q',r.get? c=ag (GV M N d i n j p' q')->YN r c S M N->r.get? s.heap.objs.size=ag (BU k v)->r.objs.size=s.heap.objs.size+1->(∀b o,b≠c->s.heap.get? b=ag o->r.get? b=ag o)->(I=.none->M=fb (s.heap.objs.size:Nat)/\N=aA)->aaC (.ref s.heap.objs.size) {s with heap:=r}):
  aW (bp prog w) A (sn (.ref c) 6 k v) aaC E s:=by
 let⟨t,aaE,dr,tk,os⟩:=s;let O:=aI hi;unfold sn;show ah (sO ?_);generalize B:t.push (BU k v)=l;let h:l.get? c=ag (GV I f d i n j p q):=by rw[<-B];show al _ hi
 let Q:l.get? t.objs.size=ag (BU k v):=by rw[<-B];show aG _ rfl
 let T:l.objs.size=t.objs.size+1:=by rw[<-B,cV]
 let C:∀b o,b≠c->t.get? b=ag o->l.get? b=ag o:=λb o _ e=>by rw[<-B];show al _ e
 show ah ?_;unfold PR;rcases ow with⟨rfl,rfl⟩|⟨a,D,rfl,ha,H,anS⟩
 ·show ah (dj h J J (am ?_));simp![mG]
  show ah (dj h J J ?_);show ah (dj h J J ?_);show ah (eX h (by simp) λy m z=> ?_);replace m:y.get? c=ag (GV .none aA d i n j k q):=m;show ah (eX m (by simp) λh4 U b4=> ?_);replace U:h4.get? c=ag (GV .none aA d i n j k v):=U;show ah (eX U (by simp) λh5 Y b5=> ?_);replace Y:h5.get? c=ag (GV (fb (t.objs.size:Nat)) aA d i n j k v):=Y;show ah (eX Y (by simp) λh6 i6 b6=> ?_);replace i6:h6.get? c=ag (GV (fb (t.objs.size:Nat)) aA d i n j k v):=i6;let u:∀b o,b≠c->l.get? b=ag o->h6.get? b=ag o:=λb o g e=>lL b6 b o g (lL b5 b o g (lL b4 b o g (lL z b o g e)));let t6:=u _ _ (cZ O) Q;show ah (qL (am (L h6 _ aA k v i6 (.inr (_,_,J,t6,cZ O,cZ hS)) t6 ?_ (λb o g e=>u b o g (C b o g e)) λ_=>(J,J))));show b6.1.trans (b5.1.trans (b4.1.trans (z.1.trans T)))
 ·let a2:=C a D H ha
  show ah (dj h J J ?_);change aW _ _ (Sy ((a:Int).toNat)>>=_) _ _ _;rw[bE];show ah (kdx_alive a2 ?_);simp![qm,bJ,d8];show ah (dj h J (x:=.bool f) J ?_);cases f with
  |true=>
   rw[aD (by decide)];show am ?_;simp![bJ,d8];show am (L l _ aC p q h (.inr (a,D,J,a2,H,anS)) Q T C λaav=>nomatch aav)
  |false=>
   rw[aH (by decide)];show ah (eX h (by simp) λy m z=> ?_);replace m:y.get? c=ag (GV (fb (a:Nat)) aC d i n j p q):=m;let u:∀b o,b≠c->l.get? b=ag o->y.get? b=ag o:=λb o g e=>lL z b o g e;show am ?_;simp![bJ,d8];show am (L y _ aC p q m (.inr (a,D,J,u a D H a2,H,anS)) (u _ _ (cZ O) Q) ?_ (λb o g e=>u b o g (C b o g e)) λaav=>nomatch aav);show z.1.trans T
structure VS(h:Heap)(d:Addr)(od:Obj)(es:Array DictEntry)(ep:Nat):Prop where
 at_:h.get? d=some od
 data:od.data=.dict es ep
def Rc(q:s.heap.get? c=ag (GV x f d i r.size v p aav))(hS:S<s.heap.objs.size)
  (ow:YN s.heap c S x f)(hsi:S≠c)(t:VS s.heap d od r v)(hen:r[i]?=ag M)
  (hQ:∀h k l y z,h.get? c=ag (GV k l d (i+1) r.size v y z)->YN h c S k l->h.get? s.heap.objs.size=ag (BU M.key M.val)->h.objs.size=s.heap.objs.size+1->(∀b o,b≠c->s.heap.get? b=ag o->h.get? b=ag o)->(x=.none->k=fb (s.heap.objs.size:Nat)/\l=aA)->aaC (ag (.ref s.heap.objs.size)) {s with heap:=h}):
  aW (bp prog w) A (kt (.ref c)) aaC E s:=by
 let⟨B,g,C,D,os⟩:=s;let j:SG (B,g,C,D,os) (.ref c) "dict_itemiterator":=(_,q,J);unfold kt;show ah (iV (c7 j i9 (cO i9 j vX ?_ (uZ _))));show ah (am (ah (ah ?_)));first|show ah (lf j (am (ah (pA q rfl ?_))))|show ah (nR j (am (ah (pA q rfl ?_))))
 simp![show hX "dict_itemiterator"=aC by decide,mG];change aW _ _ (if(aK d==dJ)=aC then _ else _) _ _ _;rw[aD (show¬(aK d==dJ)=aC fromλe=>nomatch (eq_of_beq e))];show ah (am (ah (fR t.at_ t.data ?_)));rw[aD (by simp)];show ah (am (ah (ot t.at_ t.data ?_)));rw[aD (by simp)];show am ?_;simp![show¬((i:Int)<0) from by lk,d8,bE,hen];show ah ?_;first|show ah (lf j (am (ah (px j ?_))))|show ah (nR j (am (ah (px j ?_))))
 change aW _ _ (Su (.ref c) 3 (fb ((i:Int)+1))>>=_) _ _ (B,g,C,D,os);show ah (eX q (by simp) λm u n=> ?_);replace n:fH c B m:=n;replace u:m.get? c=ag (GV x f d (i+1) r.size v p aav):=by
  let e:((i+1:Nat):Int)=(i:Int)+1:=by lk
  unfold GV;rw[e];simpa [fb] using u
 let N:SG (m,g,C,D,os) (.ref c) "dict_itemiterator":=(_,u,rfl);show ah (dD (ah (px N (ah (px N ?_)))));let O:=n.1;let ow1:YN m c S x f:=by
  rcases ow with o|⟨a,Q,e,ha,T,n2⟩
  ·show .inl o
  ·show .inr (a,Q,e,n.extBut a Q T ha,T,n2)
 show WX u (show S<m.objs.size by rw[O];show hS) ow1 λh k l y z e1 e2 H I U L=> ?_;dsimp only at H I U L⊢;rw[O] at H I L⊢;show am (_,rfl,am (hQ h k l y z e1 e2 H I (λb o Y e=>U b o Y (n.extBut b o Y e)) L))
def RR(k:A.handled=au)(b:s.heap.get? c=ag (GV x f d i h.size l p q))
  (g:VS s.heap d o h l)(m:h.size<=i)(n:∀j,Ke c s.heap j->Q au {s with heap:=j}):aW (bp prog w) A (kt (.ref c)) Q E s:=by
 let a:s.TypeIs (.ref c) "dict_itemiterator":=(_,b,J);unfold kt;show ah (iV (c7 a i9 (cO i9 a vX ?_ (uZ _))));show ah (am (ah (ah ?_)));first|show ah (lf a (am (ah (pA b rfl ?_))))|show ah (nR a (am (ah (pA b rfl ?_))))
 simp![show hX "dict_itemiterator"=aC by decide,mG];change aW _ _ (if(aK d==dJ)=aC then _ else _) _ _ _;rw[aD (show¬(aK d==dJ)=aC fromλe=>nomatch (eq_of_beq e))];show ah (am (ah (fR g.at_ g.data ?_)));rw[aD (by simp)];show ah (am (ah (ot g.at_ g.data ?_)));rw[aD (by simp)];show am ?_;simp![show¬((i:Int)<0) from by lk,d8,bE,ji m];show ah ?_;first|show ah (lf a (am ?_))|show ah (nR a (am ?_))
 change aW _ _ (Su (.ref c) 2 .none>>=λ_=>_) _ _ s;show ah (sN b rfl (by simp) ?_);show ah ?_;simp![U6,aaR];show ah (dI ?_ (by size_fits));show ah (Sr (by first|rfl|(simp![yK]<;>rfl)) ?_);show dI ?_ (by size_fits);simp![aaQ];show ah (LV ?_);rw[show A.in1.handled=au from k];show ah (am (FW ?_));show ah (lg (_,aG _ rfl,rfl) sP ?_);show am (n _ (((eQ ..).extBut.push _).push _))
def Rv(b:s.heap.IsItemsView r d)(a:VS s.heap d i c e)
  (f:Q (.ref s.heap.objs.size) {s with heap:=s.heap.push (GV .none aA d 0 c.size e .none .none)}):aW (bp prog w) A (JK (.ref r)) Q E s:=by
 let⟨o,g,_,h⟩:_:=id b;show Ek b.typeIs L7 (cO L7 b.typeIs F.entry_dict_items_iter ?_ (F.args_dict_items_iter_1 _));unfold adr;show ah (am (ah ?_));unfold PV;show ah (dj g h J (am (ah ?_)));unfold PU;show ah (fR a.at_ a.data (ah (ot a.at_ a.data ?_)));simp![show hX "dict_itemiterator"=aC by decide,mG];show dI (am (_,J,"dict_itemiterator",_,(_,aG _ rfl,J),F.slot_dict_itemiterator_next.lookup,?_)) (by simp![sizeOk,qY,bj,bt,aN,dS,dN]<;>lk);simpa [fb,GV,qY] using f
end
structure Got(es:Array DictEntry)(lo:Addr)(h:Heap)(as:List Addr):Prop where
 up:as.Pairwise (·<·)
 hi:∀a∈as,lo<a
 tups:∀(j:Nat) (a:Addr),as[j]?=some a->∃en:DictEntry,es[j]?=some en/\h.get? a=some (BU en.key en.val)
theorem Got.nil{lo:az}:Got es lo h []:=(.nil,(λ_ x=>nomatch x),(λj a x=>by simp at x))
def Got.lt{lo:az}(g:Got es lo h b)(c:a∈b):a<h.objs.size:=by
 let⟨j,e⟩:=List.mem_iff_getElem?.mp c;let⟨_,_,q⟩:=g.tups j a e;show aI q
def Got.keep{lo:az}(g:Got es lo h c)(k:∀b o,lo<b->h.get? b=ag o->d.get? b=ag o):Got es lo d c:=
 (g.up,g.hi,λj a e=>let(f,i,l):=g.tups j a e;(f,i,k a _ (g.hi a (bg e)) l))
def Got.low{lo b:az}(g:Got es lo h c)(hl:b<=lo):Got es b h c:=(g.up,λa d=>qX hl (g.hi a d),g.tups)
def Got.snoc{lo:az}(g:Got es lo h d)(hl:∀a∈d,a<b)(k:lo<b)(l:es[d.length]?=ag f)(m:h.get? b=ag (BU f.key f.val)):Got es lo h (d++[b]) where
 up:=J8.mpr (g.up,sV _ _,λa i c hc=>by rw[bG.mp hc];show hl a i)
 hi:=λa i=>by
  rcases bO.mp i with q|q
  ·show g.hi a q
  ·rw[bG.mp q];show k
 tups:=λj a e=>by
  by_cases n:j<d.length
  ·show g.tups j a (by rw[mR n] at e;show e)
  ·let o:j=d.length:=by
    let:=(List.getElem?_eq_some_iff.mp e).1;rw[bt,va] at this;lk
   subst o;rw[List.getElem?_concat_length] at e;let:=aJ e;subst this;show(f,l,m)
section
universe b
variable{od:Eu}{es:af jO}{ep:Nat}
abbrev Dc(acc:af aE)(c:Nat):Eu:={cls:=.type "list",dict:=au,data:=.seq acc c,slots:= #[]}
def Xh{R:Result->br->Prop}{S I d:az}(hh:A.handled=au)(Q:S<I)(hdS:d≠S)(hdI:d≠I)(hn:es.size<=bf)(T:aE){U:cT}
  (hR:∀l n g c j,(∀b o,b≠S->b≠I->U.get? b=ag o->l.get? b=ag o)->l.get? S=ag (Dc g c)->j.length=es.size->Got es I l j->g.toList=j.map aK->R (.ok (.ret T)) {s with heap:=l,toks:=n}):
  ∀k i h n c g j x p q f,es.size=i+k->h.get? I=ag (GV x f d i es.size ep p q)->YN h I S x f->VS h d od es ep->
   (∀b o,b≠S->b≠I->U.get? b=ag o->h.get? b=ag o)->h.get? S=ag (Dc g c)->g.toList=j.map aK->j.length=i->Got es I h j->
   qk (bp prog w) A (.builtin "list.extend.loop" ([.ref S,.ref I,T],[])) R {s with heap:=h,toks:=n}:=by
 let y:=bw Q;intro k;induction k with
 |zero=>
  intro i h n c g j x p q f hk z Y u M B C D H;show gO BD ?_;rw[eK jJ _];change aW _ A.in1 (kt (.ref I)>>=λ_=>_) _ _ _;show ah (RR hh z u (by lk) λl N=> ?_);show am (hR l n g c j (λb o r m e=>N b o m (M b o r m e)) (N S _ y B) (by lk) (H.keep λb o L e=>N b o (cZ L) e) C)
 |succ k ih=>
  intro i h n c g j x p q f hk z Y u M B C D H;let hsz:g.size=i:=by rw[<-ft,C,ao,D]
  let hil:i<es.size:=by lk
  let hen:=jP hil;let hSl:=aI B;show gO BD ?_;rw[eK jJ _];change aW _ A.in1 (kt (.ref I)>>=λ_=>_) _ _ _;show ah (Rc z hSl Y y u hen λl x' f' p' q' e1 e2 e3 e4 v _=> ?_);dsimp only at e3 e4 v⊢;let hS':=v S _ y B;let t:∀b o,b≠S->l.get? b=ag o->(l.update S (iE (·.push (aK h.objs.size)))).get? b=ag o:=λb o hb e=>(kY _ _ (ff hb)).trans e;show ah (Hh hS' J (am (iW jJ _,?_)) (by rw[hsz];lk) (by change(g.push (aK h.objs.size)).size<=bf+1;rw[Bh,hsz]<;>lk));show ih (i+1) _ n _ (g.push (aK h.objs.size)) (j++[h.objs.size]) x' p' q' f' (by lk) (t I _ (ff y) e1) ?_ (t d _ hdS (v d _ hdI u.at_),u.data) (λb o r m e=>t b o r (v b o m (M b o r m e)))
   (gv _ hS' J) (by rw[Array.toList_push,C,bz]<;>rfl) (by rw[bt,D]<;>rfl) ?_
  ·rcases e2 with o|⟨a,oa,e,O,r,m⟩
   ·show .inl o
   ·show .inr (a,oa,e,t a oa m O,r,m)
  ·show Got.snoc (H.keep λb o L e=>t b o (cZ (oG Q L)) (v b o (cZ L) e)) (λa O=>H.lt O) (aI z) (by rw[D];show hen) (t _ _ (cZ hSl) e3)
def RL{r d S:az}(H:A.handled=au)(q:s.heap.IsItemsView r d)(k:VS s.heap d od es ep)(I:S≠r)(v:d≠S)(l:aE)(x:Nat)(y:s.heap.get? S=ag (Dc #[] x))
  (L:∀a g m c i,(∀b o,b≠S->s.heap.get? b=ag o->a.get? b=ag o)->a.get? S=ag (Dc m c)->i.length=es.size->Got es s.heap.objs.size a i->m.toList=i.map aK->R (.ok (.ret l)) {s with heap:=a,toks:=g})(M:es.size<=bf):
  aW (bp prog w) A.in1 (xK (.ref S) (.ref r) l) (λN n=>match N with| .done f=>R (.ok f) n| .again z=>z.quiet=aC/\qk (bp prog w) A z R n) (λe n=>R (.error e) n) s:=by
 let B:=aI y;let C:∀h t g,(∀b o,b≠S->(s.heap.push (GV .none aA d 0 es.size ep .none .none)).get? b=ag o->h.get? b=ag o)->h.get? S=ag (Dc #[] t)->
   qk (bp prog w) A (.builtin "list.extend.loop" ([.ref S,.ref s.heap.objs.size,l],[])) R {s with heap:=h,toks:=g}:=λh t g u j=>
  Xh H B v (bw (aI k.at_)) M l (λa O m c i Q T hl U Y=>L a O m c i (λb o p e=>Q b o p (bw (aI e)) e) T hl U Y)
   es.size 0 h g t #[] [] .none .none .none aA (gE _).symm (u _ _ (cZ B) (aG _ rfl)) (.inl (J,J)) (u d _ v (al _ k.at_),k.data) (λb o n1 _ e=>u b o n1 (al _ e)) j J J .nil
 unfold xK;show ah (rR q.typeIs ?_);simp![show za (.ref S) (.ref r)=aA by simp[za,I],show(ke "dict_items"==ke "list")=aA by decide,show(ke "dict_items"==ke "tuple")=aA by decide,Vf,bJ,d8];show ah (Rv q k ?_);let j:=al (GV .none aA d 0 es.size ep .none .none) y;let⟨ov,hov,hcv,_⟩:_:=q;show ah (dD (kdx_hint (ov,al _ hov,hcv) ?_));show wpAny_ite_split (λ_=> ?_) (λ_=>am (iW jJ _,C _ x _ (λb o _ e=>e) j));show ah (jp (ah ?_));show ah (Hh j J ?_);let D:=gv (iE (·.push dJ)) j J;show Hh D J (am (iW jJ _,C _ _ _ (λb o p e=> ?_) (gv (iE λaaC=>aaC.pop) D J)));show(kY _ _ (ff p)).trans ((kY _ _ (ff p)).trans e)
def OJ(B:A.handled=au)(C:s.heap.IsItemsView r d)(p:VS s.heap d od es ep)(D:es.size<=bf)
  (h:∀a g f,s.heap.objs.size<a.objs.size->(∀b o,s.heap.get? b=ag o->a.get? b=ag o)->f.length=es.size->Got es s.heap.objs.size a f->R (f.map aK) {s with heap:=a,toks:=g}):
  aW (bp prog w) A (collect (.ref r)) R E s:=by
 let⟨u,v,H⟩:_:=id C;unfold collect;show ah (JH (gO SF ?_));rw[eK AE _];show ah (dI (am (iW nq _,gO X6 ?_)));rw[eK nq _];let q:∀b o,s.heap.get? b=ag o->(s.heap.push (Dc #[] 0)).get? b=ag o:=λb o e=>al _ e;let I:=RL (prog:=prog) (w:=w) (s:={s with heap:=s.heap.push (Dc #[] 0)}) (R:=λy t=>y=.ok (.ret (.ref s.heap.objs.size))/\∃a g j c f,t={s with heap:=a,toks:=g}/\a.get? s.heap.objs.size=ag (Dc j c)/\
   j.toList=f.map aK/\(∀b o,s.heap.get? b=ag o->a.get? b=ag o)/\f.length=es.size/\Got es s.heap.objs.size a f) B (u,q r u v,H) (q d od p.at_,p.data) (cZ (aI v)) (bw (aI p.at_)) (.ref s.heap.objs.size) 0 (aG _ rfl)
  (λa g j c f k i l m n=>(J,a,g,j,c,f,J,i,n,λb o e=>k b o (bw (aI e)) (q b o e),l,m.low (by change s.heap.objs.size<=(s.heap.push _).objs.size;rw[cV]<;>show kX _))) D
 show eO I (λL t x=> ?_) λe t x=> ?_
 ·cases L with
  |done M=>
   let⟨e,a,g,j,c,f,rfl,i,n,k,l,m⟩:_:=x;cases e;show ah (AX i (am ?_));rw[n]<;>show h a g f (aI i) k l m
  |again N=>
   show(x.1,rV x.2 λy O z=> ?_);let⟨rfl,a,g,j,c,f,rfl,i,n,k,l,m⟩:_:=z;show ah (AX i (am ?_));rw[n]<;>show h a g f (aI i) k l m
 ·cases x.1
def Qq(k:A.handled=au)(l:s.heap.IsItemsView r d)(m:VS s.heap d od es ep)(f:es.size<=bf)
  (h:∀a e c,s.heap.objs.size<a.objs.size->(∀b o,s.heap.get? b=ag o->a.get? b=ag o)->c.length=es.size->Got es s.heap.objs.size a c->
   aW (bp prog w) A.in1.in1 (yJ a.objs.size (.ref q) aA) (λg i=>g=.done (.ret .none)/\Q (.ref a.objs.size) i) (λ_ _=>False) {s with heap:=a.push (eP "list" (c.map aK).toArray 0),toks:=e}):
  aW (bp prog w) A (call (.builtin "sorted") [.ref r] [#[mN "key",.ref q]]) Q E s:=by
 show O1 SD OX OZ (ksk_s1 _ _) ?_;unfold uW;show ah (am (ah (OJ k l m f λa e c n p j t=> ?_)));show ah (uP ?_ (by rw[ao,j]<;>show f));let u:(a.push (eP "list" (c.map aK).toArray 0)).get? a.objs.size=ag (eP "list" (c.map aK).toArray 0):=aG _ rfl;show ah (dD (SX slot_list_sort (_,u,J) entry_list_sort ?body ?args));case args=>show ksk_l1 _ _
 case body=>
  rw[ksk_t1];show eO (h a e c n p j t) (λg i x=> ?_) λ_ _ z=>z.elim;let⟨rfl,x⟩:=x;show(_,J,am (_,J,x))
end
section
universe b
def Rt
  (t:s.heap.get? f=ag (rT z i B (.Subscript (.Name d C) (.Constant (.int 1) D H) I) c [] L k M))(N:s.heap.CodeRec (.ref k) i)(O:s.heap.NoLimit)(T:A.depth<fE)
  (U:∀u,qN (kla_fn z i B (.Subscript (.Name d C) (.Constant (.int 1) D H) I) c [] L (.ref k) M) ([u],[])=i8 [#[d,u]])(l:c.names.lookup d=ag .local)(Y:(d==("__debug__":cX))=aA)
  (hco:c.isCoroutine=aA)(aax:c.isGenerator=aA)(m:c.kind=.function)(aaC:∀y∈c.names,y.2≠.cell)(ht:s.heap.get? a=ag (BU aaE v))
  (aaG:∀n tk,(∀b o,s.heap.get? b=ag o->n.get? b=ag o)->p v {s with heap:=n,toks:=tk}):aW (bp prog w) A (call (.ref f) [.ref a]) p E s:=by
 show JI (kla_callFunE T t J hco aax J N ?_);rw[U];show am (Ss aaC (λy hy=>by rw[bG.mp hy];show l) (λg hns hsb=> ?_) m);let h:∀b o,s.heap.get? b=ag o->g.get? b=ag o:=λb o e=>hsb.extBut b o (bw (aI e)) (al _ e);show(O.keeps h,kla_codeExpr ?_);show JS ?_;show wJ (mZ m l hns (v:=.ref a) (by simp[j8]) ?_) Y;show U0 ?_;let q:yQ g a (List.toArray [aaE,v]):=(_,h a _ ht,J,_,J);show wL (x:=v) (s:=(g,_,_,_,_)) q.typeIs slot_tuple_getitem.lookup (abJ (j:=1) (Q:=λr s'=>r=v/\p r s') q (by lk) (by lk) (by rfl) (by rfl) (J,aaG g _ h)) J
end
section
variable{P:bq}{w:World}{H U:Hp}{h h':cT}
def Ut(x:sL P w H h)(k:∀b u,h.get? b=ag u->h'.get? b=ag u)(ext:∀b u,H b=ag u->U b=ag u)(a:∀b u,U b=ag u->H b=ag u\/fP P w U h' b u):sL P w U h':=λb u e=>by
 rcases a b u e with q|q
 ·show(x b u q).qT (λc v _ z=>k c v z) (λc z=>ext c _ z) λc d z=>ext c _ z
 ·show q
variable{X:Cx}{pins:La}{Y:L2.St}{s:br}
def Rx(I:L2.Inv X pins Y H s)(k:∀b u,s.heap.get? b=ag u->h'.get? b=ag u)(ext:∀b u,H b=ag u->U b=ag u)(a:∀b,b<s.heap.objs.size->H b=au->U b=au)
  (c:∀b u,U b=ag u->H b=ag u\/fP X.prog X.w U h' b u):L2.Inv X pins Y U {s with heap:=h',toks:=j}:=by
 show I.step (ch:=[]) (λ_ z=>nomatch z) (λb o _ _ _ e _=>k b o e) (λb o _ _ _ e _=>(o.slots,k b o e)) (λb o _ e n=>a b (aI e) n) (λb o _ e=>(o,k b o e))
  (λb l e=>ext b _ e) (λb o u e=>ext b _ e) (λb p e=>(#[],by rw[ext b _ e];simp)) (λm d=> ?_) (Ut I.fe k ext c) I.bare
 let⟨o,f,g,i,r⟩:=d;show(o,f,g,k _ o i,r)
end
def xc(d r:az):HO:=.ext λh=>h.IsItemsView r d
section
variable{P:bq}{w:World}
def Au(d:az)(a:(d==dM)=aA):MeetsIn P w (Ex ([.ref d],[])) (λ_ R s=>s.TypeIs (.ref d) "dict"/\R (.ok (.ret (.ref s.heap.objs.size))) {s with heap:=s.heap.push {cls:=.type "dict_items",data:=.fields #[.ref d]}}):=
 .of_wp λA R s (b,h)=>by
  unfold Ex;show ah ?_;unfold Zm;show ah (iG b ?_);change aW _ _ (i8 d) _ _ s;show am ?_;change aW _ _ (nJ d>>=λ_=>_) _ _ s;unfold nJ;rw[aD (by rw[a];decide)];show ah (am (ah (dI (am (_,J,h)))))
variable{X:Cx}{e:fK}{td:TE}{afJ afL:pW}
def Wm(td:TE):TE:=λY H Q=>td Y H λx a=>∃d b,x=.ref d/\Rd a d (.dT b)/\∀r,a r=au->Q (.ref r) (bD a r (xc d r))
def QU(i:PE X e td)(j:lZ e "items" X.env (eval e X.env)=eval e X.env:=by rfl)(l:(afJ.endLine==afL.line)=aC:=by rfl):PE X (.Call (.Attribute e "items" afJ) [] [] afL) (Wm td):=by
 intro pins s Y H Q I h;show ik j J l Ti tw Th (gj (i pins s Y H _ I h) λu a (x,m,f,n,d,p,r,t,q)=> ?_);subst r;obtain rfl:u=aK d:=n;let⟨g,v,lo⟩:_:=vK f (.inr (p,t));show(g,v,?_);show aaT tw SO J (wP (J,g,PN _,_,Au d lo,g,?_));let y:fP X.prog X.w (bD m a.heap.objs.size (xc d a.heap.objs.size)) (a.heap.push {cls:=.type "dict_items",data:=.fields #[.ref d]}) a.heap.objs.size (xc d a.heap.objs.size):=
  ((_,aG _ rfl,J,J),(_,aG _ rfl),λB C (o,A,c) k=>(o,k o A,c))
 show(.ref a.heap.objs.size,_,f.pL (λb D z=>al _ z) (aS _) y,J,q _ (f.fe.fresh (aS _)))
end
def LS(X:Cx)(f:aE)(ks:aa cX)(r:aa V->aa V->Hp->VK->Prop):Prop:=
 ∀a s b H c d g h Q,L2.Inv X a b H s->eD c g->eD d h->r c d H Q->aW (bp X.prog X.w) X.A (call f g (ks.zip h)) (EP X a b Q) X.xe s
def acf(r:aa V->aa V->Hp->VK->Prop)(t tk:TA):TE:=λa H Q=>t a H λb c=>tk a c λd f=>r b d f Q
section
variable{X:Cx}{x:cX}{p afG:pW}{e:fK}{es:aa fK}{afT:aa wQ}{ks:aa cX}{t tk:TA}{id:String}{r:aa V->aa V->Hp->VK->Prop}
def Fs(hc:LS X (.builtin id) ks r)(c:Gl X x)(d:X.mg x=au)(f:pC x=ag (.builtin id))(g:PA X (e::es) t)(i:PK X afT tk)(j:x≠"__name__":=by decide)(k:(x==("__debug__":cX))=aA:=by decide)
  (l:(oq afG (jL afT X.env)).all (·.1.isSome)=aC:=by rfl)(m:(oq afG (jL afT X.env)).filterMap (·.1)=ks:=by rfl)(n:bU (e::es) X.env= #[aA,eval e X.env]::bU es X.env:=by rfl)
  (o:((jq afG (bU (e::es) X.env)).any (·.1)||(oq afG (jL afT X.env)).any (·.1.isNone))=aA:=by rfl):PE X (.Call (.Name x p) (e::es) afT afG) (acf r t tk):=by
 intro a s b H Q I h;show jX (vJ I c d f ?_ j k);show callWith_of (P:=λ_=>True) o (λh _=>(Keeper.machine,.inr (.inl rfl),?_)) (evalArgs_kw2 l (gj (g afG a s b H _ I h) λu v (w,y,z,B,C)=> ?_) n)
 ·showλA Q E s _ q=>am q
 show gj (i afG a v b y _ z C) λD L (M,N,O,T,U)=>(trivial,?_);rw[m];show hc a L b N w M u D Q O B T U
end
open mY PL fq
open Sw58 (below)
def lC(a:aa nU)(p:nU):Nat:=(a.filter λq=>below q p).length
def TY(h:below p q=aC\/p=q):lC ps p<=lC ps q:=by
 rcases h with h|rfl
 ·unfold lC
  show Zg ?_;let:ps.filter (λr=>below r p)=(ps.filter λr=>below r q).filter λr=>below r p:=by
   rw[List.filter_filter];show Pb λr _=> ?_;cases c:below r p with
   |false=>rfl
   |true=>rw[SM.pk c h]<;>rfl
  rw[this];show jd
 ·show aS _
def Ms(e:p∈d)(h:below p q=aC):lC d p<lC d q:=by
 induction d with
 |nil=>cases e
 |cons r d f=>
  let step:∀x,lC (r::d) x=(if below r x=aC then 1 else 0)+lC d x:=λx=>by
   unfold lC;rw[gL];split<;>simp<;>lk
  rw[step,step];rcases aT.mp e with rfl|e
  ·rw[SM.my,aH h,aD (by decide)]
   let:=TY (ps:=d) (.inl h);lk
  ·let i:=f e
   let g:below r p=aC->below r q=aC:=λc=>SM.pk c h;split<;>split<;>first|lk|(rename_i a b;show absurd (g a) b)
def Ix(b:p∈a)(d:q∈a):decide (lC a p<lC a q)=below p q:=by
 cases c:below p q with
 |true=>show decide_eq_true (Ms b c)
 |false=>
  show decide_eq_false λz=> ?_;rcases SM.wx p q with t|t|t
  ·rw[t] at c;cases c
  ·subst t;lk
  ·let:=Ms d t
   lk
theorem sB:∀{l:aa k} {m:aa f},l.Perm (m.map g)->∃c:aa f,c.Perm m/\l=c.map g
 |[],m,h=>by
  let:=h.length_eq;cases m with
  |nil=>show([],.nil,J)
  |cons _ _=>simp at this
 |x::l,m,h=>by
  let⟨y,i,rfl⟩:=aY.mp (h.mem_iff.mp aQ);let⟨d,b,rfl⟩:=List.append_of_mem i;let j:(g y::l).Perm (g y::(d++b).map g):=h.trans (by simpa using PB (l₁:=d.map g) (l₂:=b.map g) (a:=g y));let⟨c,p,e⟩:=sB j.cons_inv;show(y::c,(p.cons y).trans PB.symm,by rw[e];rfl)
section
universe b
def Oz(x:wz prog w h p b)(g:p≠[]):∃o a n c d,h.get? b=ag o/\o.cls=.type "tuple"/\o.data=.seq a n/\a[0]?=ag (.ref c)/\h.get? c=ag d/\d.cls=.type "tuple":=by
 let⟨o,f,n,i,hc,j,a⟩:_:=x;cases p with
 |nil=>show absurd rfl g
 |cons z p=>
  rw[bi] at a;generalize e:f.toList=l at a;cases a with
  |cons k _=>
   let⟨c,rfl,d,_,_,m,q,_⟩:_:=k;show(o,f,n,c,d,i,hc,j,?_,m,q);rw[<-il,e];rfl
theorem CK{i:az->nU}:∀(a:aa az),(∀b∈a,wz prog w h (i b) b/\i b≠[])->∃d:aa aE,d.length=a.length/\KatTups h (a.map aK) d/\∀v∈d,∃c e,v=.ref c/\h.get? c=ag e/\e.cls=.type "tuple"
 |[],_=>([],J,.nil,λ_ z=>nomatch z)
 |b::a,f=>by
  let⟨d,j,k,l⟩:_:=CK a λc hc=>f c (aM _ hc);let⟨o,x,n,c,e,m,p,q,r,t,u⟩:_:=Oz (f b aQ).1 (f b aQ).2;show(.ref c::d,by rw[aN,aN,j],.cons m p q r k,λv g=> ?_);rcases aT.mp g with rfl|g
  ·show(c,e,J,t,u)
  ·show l v g
def K7{d:az->nU}{a:aa az}(e:∀b∈a,wz prog w s.heap (d b) b/\d b≠[])(l:0<a.length)(h:Q (lN aA) s):aW (bp prog w) A (El (a.map aK).toArray) Q E s:=by
 let⟨m,n,f,g⟩:_:=CK a e;show kat_kind (T:=.type "tuple") f (by lk) (λv i=> ?_) (by decide) (by show h);let⟨c,o,rfl,j,k⟩:_:=g v i;rw[<-k];show(Looks.ld j).andThen .now
end
open Sw58 (below)
def MF(x:jB prog w h f a)(k:∀b o,h.get? b=ag o->g.get? b=ag o):jB prog w g f a:=by
 let⟨o,c,n,j,m,p,d⟩:=x;show(o,c,n,k _ _ j,m,p,?_);generalize c.toList=l at d;induction d with
 |nil=>show .nil
 |cons e _ q=>
  show .cons ?_ q;rename_i kk v _ _ _;cases kk with
  |inl i=>show e
  |inr B=>
   let⟨b,rfl,r,t,u,y,z⟩:=e;show(b,J,r,t,u,k _ _ y,z)
open Classical in
noncomputable def KY (a:az->nU) (c:aa az):aE->ae Nat
 | .ref b=>if b∈c then ag (lC (c.map a) (a b)) else au
 |_=>au
def ZH(h:b∈a):KY c a (.ref b)=ag (lC (a.map c) (c b)):=by simp[KY,h]
def QB(h:b∉a):KY c a (.ref b)=au:=by simp[KY,h]
section
universe b
def HZ{n bs:aa az}{pl:az->nU}(N:s.heap=f.push (eP "list" (n.map aK).toArray 0))
  (hl:bs.length=n.length)(hz:n.length<=bf)(hu:A.units+8<fF)(aax:∀(i:Nat) a d,n[i]?=ag a->bs[i]?=ag d->∃k,f.get? a=ag (BU k (.ref d)))(r:∀d∈bs,wz prog w f (pl d) d/\pl d≠[])
  (hf:f.get? aaC=ag (rT aaE O aaG (.Subscript (.Name x p1) (.Constant (.int 1) j p2) p3) t [] pm T ctv))(hcd:f.CodeRec (.ref T) O)(aa1:f.NoLimit)(aa5:A.depth<fE)
  (aa7:∀u,qN (kla_fn aaE O aaG (.Subscript (.Name x p1) (.Constant (.int 1) j p2) p3) t [] pm (.ref T) ctv) ([u],[])=i8 [#[x,u]])(hx:t.names.lookup x=ag .local)(hd:(x==("__debug__":cX))=aA)
  (hco:t.isCoroutine=aA)(abc:t.isGenerator=aA)(hk:t.kind=.function)(abd:∀y∈t.names,y.2≠.cell)
  (abe:∀l B c (C:aa (az×az)),(∀d o,f.get? d=ag o->l.get? d=ag o)->l.get? f.objs.size=ag (eP "list" (C.map λz=>aK z.2).toArray c)->C.Perm (bs.zip n)->C.Pairwise (λy z=>below (pl z.1) (pl y.1)=aA)->
   P (.done (.ret .none)) {s with heap:=l,toks:=B}):aW (bp prog w) A (yJ f.objs.size (.ref aaC) aA) P E s:=by
 let hD:s.heap.get? f.objs.size=ag (eP "list" (n.map aK).toArray 0):=by rw[N];show aG _ rfl
 let I:∀g:br,mY.St [f.objs.size] s g->∀d o,f.get? d=ag o->g.heap.get? d=ag o:=λg S d o e=>by
  let⟨l,B,rfl,k⟩:=S;show k d o (λz=>bw (aI e) (bG.mp z)) (by rw[N];show al _ e)
 let L:∀d∈bs,KY pl bs (.ref d)=ag (lC (bs.map pl) (pl d)):=λd r=>ZH r;show NN (b:=aA) (m:=bs.length+1) (rk:=KY pl bs) (rs:=bs.map λd=>lC (bs.map pl) (pl d)) (ks:=bs.map aK) hD (by rw[ao,ao,hl]) (by rw[ao];show hz) ?_ ?_ ?_ ?_ ?_ ?_
 ·intro i v k U Y g S
  rw[aF] at U Y;let⟨a,D,rfl⟩:=bv.mp U;let⟨d,h,rfl⟩:=bv.mp Y;let⟨k,hk1⟩:=aax i a d D h;let u:=I g S;show Rt (u _ _ hf) (hcd.keeps u) (aa1.keeps u) aa5 aa7 hx hd hco abc hk abd (u _ _ hk1) λh3 B k3=> ?_;let⟨l,t2,rfl,_⟩:=S;show(J,h3,B,J,k3)
 ·intro l g S abi q
  let u:=I g S;show K7 (λd h=>(MF (r d h).1 u,(r d h).2)) (by rw[ao] at l;lk) q
 ·intro Γ g hΓ S
  let u:=I g S;show(λv abm e=> ?_,λy z i j abn abi H p q=> ?_)
  ·unfold KY at e
   split at e
   ·split at e
    ·let:=aJ e
     rw[<-this];let:=eY (λq=>below q (pl ‹az›)) (bs.map pl);rw[ao] at this;unfold lC;lk
    ·cases e
   ·cases e
  ·cases y with
   |ref a=>
    cases z with
    |ref d=>
     let D:a∈bs:=by
      by_cases c:a∈bs
      ·show c
      ·rw[QB c] at H;cases H
     let h:d∈bs:=by
      by_cases c:d∈bs
      ·show c
      ·rw[QB c] at p;cases p
     rw[L a D] at H;rw[L d h] at p;cases H;cases p;rw[Ix (dm D) (dm h)] at q;let:=place_lt (E:=λ_ _=>False) (Q:=λc s2=>c=below (pl a) (pl d)/\s2=g) hu (MF (r a D).1 u) (MF (r d h).1 u) (J,J) Γ abn hΓ;show r9 _ _ _ ?_ ?_ _ _ this
     ·rintro c p' s2 ⟨rfl,rfl⟩
      show q p'
     ·showλ_ _ _ z=>z.elim
    |_=>cases p
   |_=>cases H
 ·rw[df,df]
  show jb λd h=>L d h
 ·intro abm hr
  let⟨d,_,rfl⟩:=aY.mp hr;let:=eY (λq=>below q (pl d)) (bs.map pl);rw[ao] at this;unfold lC;lk
 ·intro g out c ps S e1 e2 e3 e4
  let p:(bs.map λd=>lC (bs.map pl) (pl d)).zip (n.map aK)=(bs.zip n).map λz=> #[lC (bs.map pl) (pl z.1),aK z.2]:=by rw[List.zip_map];rfl
  rw[p] at e3;let⟨C,M,rfl⟩:=sB e3;let⟨l,B,rfl,_⟩:=id S;show abe l B c C (I _ S) ?_ M ?_
  ·rw[df] at e2
   let e5:out=(C.map λz=>aK z.2).toArray:=by
    rw[<-pF (xs:=out),e2];rfl
   rw[<-e5];show e1
  ·let e6:=bN.mp e4
   show jD ?_ e6;intro y z hy hz' hle;rw[<-Ix (dm ((lw (M.mem_iff.mp hz')).1)) (dm ((lw (M.mem_iff.mp hy)).1))];show decide_eq_false (Nat.not_lt.mpr hle)
end
open Sw58 (below)
def AV(f:az)(a:Eu):HO:=.ext λh=>h.get? f=ag a
def qK(c:az)(a:cX):HO:=.ext λh=>h.CodeRec (.ref c) a
structure ac2(name qual x:Str)(params:Arguments)(scope:Scope)(p1 p2 p3:Pos)(j:Nat)(pm ctv:Value):Prop where
 bind:∀c u,bindArgs (kla_fn name qual params (.Subscript (.Name x p1) (.Constant (.int 1) j p2) p3) scope [] pm (.ref c) ctv) ([u],[])=pure [#[x,u]]
 Dd:scope.names.lookup x=some .local
 dbg:(x==("__debug__":Str))=false
 co:scope.isCoroutine=false
 gen:scope.isGenerator=false
 kind:scope.kind=.function
 cell:∀y∈scope.names,y.2≠.cell
def MD(h:cT)(b:az):HO:=match h.get? b with
 |some o=>(match o.data with
  | .seq a _=>(match a.toList with
   |[.ref k,.ref v]=>.dC [.ref k,.ref v]
   |_=>.dC [])
  |_=>.dC [])
 |none=>.dC []
def IK(e:h.get? b=ag (BU (.ref k) (.ref v))):MD h b=.dC [.ref k,.ref v]:=by unfold MD;rw[e]
open Classical in
noncomputable def ll (H:Hp) (h:cT) (D:az) (a:aa az) (c:aa V):Hp:=λb=>if b=D then ag (.bZ c) else if b∈a then ag (MD h b) else H b
inductive QJ(K:aq)(k m:aa V)(H:Hp)(Q:VK):Prop|mk:∀(r d f c:az) (g:aa (aa NK×az)) (a:az->nU) (n h x:cX) (o:so) (p:nh) (q s t:pW) (j:Nat) (v w:aE),k=[.ref r]->m=[.ref f]->H r=ag (xc d r)->Rd H d (.dT (g.map λz=> #[z.1,V.ref z.2]))->H f=ag (AV f (rT n h o (.Subscript (.Name x q) (.Constant (.int 1) j s) t) p [] v c w))->H c=ag (qK c h)->ac2 n h x o p q s t j v w->(∀z∈g,jo H ((a z.2).map oP) z.2/\a z.2≠[])->(∀l A (i:aa (aa NK×az)) e,H l=au->e l=ag (.bZ (A.map V.ref))->(∀b u,H b=ag u->e b=ag u)->fG (yH K e) A (i.map λz=> #[z.1,V.ref z.2])->i.Perm g->i.Pairwise (λy z=>below (a z.2) (a y.2)=aA)->Q (.ref l) e)->QJ K k m H Q
section
variable{X:Cx}
theorem Vx:∀{a:aa (aa NK×az)} {b:aa (aa NK×az×aE)},KT H (a.map λz=> #[z.1,V.ref z.2]) b->∀(i:Nat) z,a[i]?=ag z->∃q,b[i]?=ag #[z.1,q,.ref z.2]/\jo H z.1 q
 |[],_,_,i,z,e=>by simp at e
 |c::a,_,.cons h t,0,z,e=>by
  let:=aJ e;subst this;rename_i y b;let⟨k,q,u⟩:=y;let⟨d,f,g⟩:=h;cases d;cases(show u=aK c.2 from g);show(q,J,f)
 |_::a,_,.cons h t,i+1,z,e=>Vx t i z (by simpa using e)
def LH(hu:X.A.units+10<fF)(aa0:X.calm=aC)(abD:X.A.depth+2<fE):LS X (.builtin "sorted") [mN "key"] (QJ X.K):=by
 intro aa1 s σ H xs h us ws abE I rx rz q;let⟨r,aa5,f,c,p,aa7,abN,abb,ab6,acg,acm,p1,p2,p3,act,pm,ctv,rfl,rfl,hv,abc,hf,hc,L,U,q⟩:=q;let⟨u,eu,ru⟩:=vals1 rx;let⟨w',ew,rw'⟩:=vals1 rz;subst eu ew;cases ru;cases rw';let⟨hl,lo,Y,rel,o,en,ep,ho,hx,hdt,he,_,_⟩:=uE I.fe abc;let hsz:en.size=Y.length:=iw he;let hel:p.length=Y.length:=by let:=c9 rel;rw[ao] at this;show this
 rw[ao] at hl;show Qq (I.ok.hd aa0) ((show fP X.prog X.w H s.heap r (xc aa5 r) from I.fe r _ hv).1) (ho,hdt) (by lk) λj tk d k0 B k2 G=> ?_;let hal:p.length=d.length:=by lk
 let D:∀(i:Nat) z a,p[i]?=ag z->d[i]?=ag a->∃q,j.get? a=ag (BU (.ref q) (.ref z.2))/\jo H z.1 q:=λi z a C x=>by
  let⟨q,E,M⟩:=Vx rel i z C;let⟨ent,g3,g4⟩:=G.tups i a x;let g5:=yL he i;rw[g3,E] at g5;rw[(aJ g5)] at g4;show(q,g4,M)
 show HZ (bs:=p.map (·.2)) (pl:=aa7) J (by rw[ao];show hal) (by lk) (show X.A.units+1+1+8<fF by lk) ?_ ?_ (B _ _ ((show fP X.prog X.w H s.heap f (AV f _) from I.fe f _ hf).1)) (((show fP X.prog X.w H s.heap c (qK c abb) from I.fe c _ hc).1).keeps B) (I.nolimit.keeps B) ?_ (L.bind c) L.Dd L.dbg L.co L.gen L.kind L.cell ?_
 ·intro i a b C x
  rw[aF] at x;let⟨z,e3,rfl⟩:=bv.mp x;let⟨q,g,_⟩:=D i z a e3 C;show(_,g)
 ·intro b y
  let⟨z,n,rfl⟩:=aY.mp y;show(MF (og I.fe (U z n).1) B,(U z n).2)
 ·first
   |(change X.A.depth<fE;lk)
   |(change X.A.depth+1<fE;lk)
   |(change X.A.depth+1+1<fE;lk)
 ·intro m tk2 c2 qs N hD aaC abi
  show(rfl,?_);let ez:(p.map (·.2)).zip d=(p.zip d).map λz=> #[z.1.2,z.2]:=by rw[List.zip_map_left];rfl
  rw[ez] at aaC;let⟨h,O,rfl⟩:=sB aaC;let inz:∀z∈h,∃i:Nat,p[i]?=ag z.1/\d[i]?=ag z.2:=λz n=>by
   let⟨i,e⟩:=List.mem_iff_getElem?.mp (O.mem_iff.mp n);show(i,(mQ.mp e).1,(mQ.mp e).2)
  let s1:=hJ k0;let kk:∀b o,s.heap.get? b=ag o->m.get? b=ag o:=λb o e=>N b o (B b o e);let asD:∀a∈d,a<j.objs.size:=λa t=>G.lt t;let asS:∀a∈d,s.heap.objs.size<a:=λa t=>G.hi a t;let atl:∀b,b<s.heap.objs.size->ll H m j.objs.size d ((h.map (·.2)).map V.ref) b=H b:=λb y=>by
   let Q:=bw (bu y s1);let n2:b∉d:=λz=>gY _ (oG y (asS b z));simp[ll,Q,n2]
  let ext:∀b u,H b=ag u->ll H m j.objs.size d ((h.map (·.2)).map V.ref) b=ag u:=λb u e=>by
   rw[atl b (I.fe b u e).lt];show e
  let atD:ll H m j.objs.size d ((h.map (·.2)).map V.ref) j.objs.size=ag (.bZ ((h.map (·.2)).map V.ref)):=by simp[ll]
  let atp:∀a∈d,ll H m j.objs.size d ((h.map (·.2)).map V.ref) a=ag (MD m a):=λa t=>by
   let Q:=bw (asD a t);simp[ll,Q,t]
  let abo:∀a∈d,∃k v,m.get? a=ag (BU (.ref k) (.ref v)):=λa t=>by
   let⟨i,e⟩:=List.mem_iff_getElem?.mp t;let abA:i<p.length:=by rw[hal];show(List.getElem?_eq_some_iff.mp e).1
   let⟨k,g,_⟩:=D i _ a (aL abA) e;show(k,_,N _ _ g)
  let abB:L2.Inv X aa1 σ (ll H m j.objs.size d ((h.map (·.2)).map V.ref)) {s with heap:=m,toks:=tk2}:=by
   show Rx I kk ext (λb y e=>by rw[atl b y];show e) λb u e=> ?_;by_cases c1:b=j.objs.size
   ·subst c1
    rw[atD] at e;let:=aJ e;subst this;show .inr (?_,_,c2,sw _,?_)
    ·let:=O.length_eq
     rw[pX] at this;rw[ao,ao];lk
    ·rw[df] at hD⊢
     show hD
   ·by_cases T:b∈d
    ·let⟨k,v,g⟩:=abo b T
     rw[atp b T,IK g] at e;let:=aJ e;subst this;show .inr (by change 2<=bf;decide,[.ref k,.ref v],.cons rfl (.cons rfl .nil),(_,g,rfl,_,rfl))
    ·show .inl ?_
     simpa [ll,c1,T] using e
  show(.ref j.objs.size,_,abB,rfl,q j.objs.size (h.map (·.2)) (h.map (·.1)) _ (I.fe.fresh s1) atD ext ?_ ?_ ?_)
  ·let go:∀l:aa ((aa NK×az)×az),(∀z∈l,z∈h)->fG (yH X.K (ll H m j.objs.size d ((h.map (·.2)).map V.ref))) (l.map (·.2)) ((l.map (·.1)).map λz=> #[z.1,V.ref z.2]):=by
    intro l;induction l with
    |nil=>intro _;show .nil
    |cons z l ih=>
     intro n;show .cons ?_ (ih λabC hy=>n abC (aM _ hy));let⟨i,C,x⟩:=inz z (n z aQ);let⟨k,E,M⟩:=D i z.1 z.2 C x;show(k,.inl (.inl ?_),M.bA λb xs e=>ext b _ e);rw[atp z.2 (bg x),IK (N _ _ E)]
   show go h λz n=>n
  ·let:=O.map (·.1)
   rw[PD (by lk)] at this;show this
  ·show bN.mpr (bN.mp abi)
end
def Zy(d:cX)(P:az)(afU:so)(afV:fK)(afI:nh)(afG:pW)(g:aE):TE:=λh H Q=>∃b,H P=ag (.oY b)/\TriplesOk b.toList/\
 ((Ng afG b.toList=au/\∀f a e,H f=au->H a=au->f≠a->
   Q (.ref f) (bD (bD (bD H P (.oY (b++(List.toArray [fb afG.line,fb afG.col,.ref a])))) a (qK a d)) f (AV f (rT "<lambda>" d afU afV afI [] g a e))))\/
  ∃a,Ng afG b.toList=ag (.ref a)/\∀f e,H f=au->Q (.ref f) (bD H f (AV f (rT "<lambda>" d afU afV afI [] g a e))))
section
variable{X:Cx}{afU:so}{afV:fK}{afI:nh}{afG:pW}{c P:az}
def QT(aaG:defaultsOf afU X.env= #[[],[]])(C:U7 afI X.env=i8 [])(D:X.env.code=.ref c)(aaV:CodeHd X.base c P)(aa0:X.base.BuiltinsAt X.mg P)(hgP:fj≠P):
  PE X (.Lambda afU afV afI afG) (Zy (X.env.qual++"<lambda>") P afU afV afI afG ((X.mg "__name__").getD .none)):=by
 intro abe s σ H abh I h;let⟨w,i,E,h⟩:_:=h;let x:=I.fe P _ i;let L:=aaV.keeps I.bk;let M:s.heap.BuiltinsAt X.mg P:=by
  let⟨bm,ob,b1,b2,b3,b4,b5,b6⟩:_:=aa0;show(bm,ob,b1,b2,b3,b4,I.bk _ _ b5,b6)
 let N:=I.ok.mod.AR.keeps I.bk;show kla_eval aaG ?_;rcases h with⟨hn,q⟩|⟨f,hf,q⟩
 ·show kla_makeFunction C I.ok.AR N D L x E hn hgP M λf l g tk hx t O aa5 Q=> ?_
  let T:=aI x;let y:=hJ (qX t O);let U:=I.fe.fresh t;let Y:=I.fe.fresh y;let m:∀b,b≠P->b≠f->b≠g.objs.size->bD (bD (bD H P (.oY (w++(List.toArray [fb afG.line,fb afG.col,.ref f])))) f (qK f (X.env.qual++"<lambda>"))) g.objs.size (AV g.objs.size (rT "<lambda>" (X.env.qual++"<lambda>") afU afV afI [] ((X.mg "__name__").getD .none) f l)) b=H b:=λb n1 n2 n3=>by
   rw[aZ n3,aZ n2,aZ n1]
  let atP:bD (bD (bD H P (.oY (w++(List.toArray [fb afG.line,fb afG.col,.ref f])))) f (qK f (X.env.qual++"<lambda>"))) g.objs.size (AV g.objs.size (rT "<lambda>" (X.env.qual++"<lambda>") afU afV afI [] ((X.mg "__name__").getD .none) f l)) P=ag (.oY (w++(List.toArray [fb afG.line,fb afG.col,.ref f]))):=by
   rw[aZ (bw (bu T y)),aZ (bw (bu T t)),aw]
  let j:∀b u,H b=ag u->b≠f/\b≠g.objs.size:=λb u e=>(bI e U,bI e Y);let aax:∀b a,s.heap.get? b=ag a->b≠f/\b≠g.objs.size:=λb a e=>(bw (bu (aI e) t),bw (bu (aI e) y));let p:∀b a,b≠P->s.heap.get? b=ag a->(g.push (rT "<lambda>" (X.env.qual++"<lambda>") afU afV afI [] ((X.mg "__name__").getD .none) f l)).get? b=ag a:=λb a n e=>al _ (hx b a n e);show(.ref g.objs.size,_,I.step (ch:=[]) (λ_ z=>nomatch z) (λb a _ _ _ e n=>p b a (ff (bI i n)) e) (λb a _ _ _ e n=>(a.slots,p b a (ff (bI i n)) e))
   (λb a _ e n=> ?_) (λb a _ e=> ?_) (λb xs e=> ?_) (λb a u e=> ?_) (λb ps' e=> ?_) (λabl hm=> ?_) (λb u e=> ?_) I.bare,J,q g.objs.size f l Y U (cZ O))
  ·rw[m b (ff (bI i n)) (aax b a e).1 (aax b a e).2];show n
  ·by_cases z:b=P
   ·subst z;show(_,al _ Q)
   ·show(a,p b a z e)
  ·rw[m b (λz=>by subst z;rw[i] at e;cases e) (j b _ e).1 (j b _ e).2];show e
  ·rw[m b (λz=>by subst z;rw[i] at e;cases e) (j b _ e).1 (j b _ e).2];show e
  ·by_cases z:b=P
   ·subst z
    rw[i] at e;cases e;show(_,atP)
   ·show(#[],by rw[m b z (j b _ e).1 (j b _ e).2,e];simp)
  ·let⟨a,es,ep,ho,r⟩:_:=hm
   show(a,es,ep,p _ a (ff (bI i I.free)) ho,r)
  ·by_cases A:b=g.objs.size
   ·subst A
    rw[aw] at e;cases e;show(aG _ rfl,(_,aG _ rfl),λh1 h2 z k=>k _ z)
   ·by_cases z2:b=f
    ·subst z2
     rw[aZ A,aw] at e;cases e;let⟨c2,oc,vs,aa7,e2,hoc,r⟩:_:=aa5;cases e2;show((_,oc,vs,aa7,J,al _ hoc,r),(_,al _ hoc),λh1 h2 (c3,oc3,vs3,t3,e3,abd,r3) k=> ?_);cases e3;show(_,oc3,vs3,t3,J,k _ abd,r3)
    ·by_cases B:b=P
     ·subst B
      rw[atP] at e;cases e;show al _ Q
     ·let e0:=e
      rw[m b B z2 A] at e;show(I.fe b u e).qT (λd v hd hv=>p d v (λz=> ?_) hv) (λd hd=> ?_) λd xs hd=> ?_
      ·subst z
       rcases hd with hd|hd
       ·show B hd.symm
       ·rw[i] at hd;cases hd
      ·rw[m d (λz=>by subst z;rw[i] at hd;cases hd) (j d _ hd).1 (j d _ hd).2];show hd
      ·rw[m d (λz=>by subst z;rw[i] at hd;cases hd) (j d _ hd).1 (j d _ hd).2];show hd
 ·show kla_makeFunctionHit C I.ok.AR N D L x E hf M λl g tk hk hsz=> ?_
  show(.ref g.objs.size,_,I.pL (o:=AV g.objs.size (rT "<lambda>" (X.env.qual++"<lambda>") afU afV afI [] ((X.mg "__name__").getD .none) f l)) (λb a e=>al _ (hk b a e)) hsz (aG _ rfl,(_,aG _ rfl),λh1 h2 z k=>k _ z),J,q _ l (I.fe.fresh hsz))
end
end LX
namespace LX
open PySem PySem.Spec PyProof.Rows L2 PySem.W fq
def Wn(tk tv:TE):TE:=λc H Q=>∀p,H p=au->tk c (bD H p (.dT [])) λx f=>tv c f λy a=>a p=ag (.dT [])/\∃b e,x=.ref b/\jo a e b/\Q (.ref p) (bD a p (.dT [#[e,y]]))
section
variable{X:Cx}{k v:fK}{tk tv:TE}{afG:pW}
def QZ(hu:X.A.units+65<fF)(l:PE X k tk)(m:PE X v tv):PE X (.Dict [ag k] [v] afG) (Wn tk tv):=by
 intro g s h aav aax I q;show wpAny_Dict_any J J (by simp) (by simp) (S9 (gj (l g _ h _ _ (I.pL (a:=s.heap.objs.size) (o:=.dT []) (h':=s.heap.push {cls:=.type "dict",data:=.dict #[]}) (t':=s.toks) (λ_ _ q=>al _ q) (aS _) (Jn s.heap I.VH)) (q _ (I.fe.fresh (aS s.heap.objs.size)))) λu n (aaC,p,r,t,x)=>gj (m g n h p _ r x) λy s2 (aaE,H2,c,B,e,b,C,D,i,H)=>U5 ?_));subst D;obtain rfl:u=aK b:=t;let⟨z,L,xs,M,N⟩:_:=Jm c.fe e;cases M;unfold storeAll;rw[ie];show ah (ah (AY (show X.A.units+64<fF by lk) (og c.fe i) N (λaaG j O=>am ?_) (bW _)));change aW _ _ (forIn ([]:aa (aE×aE)) PUnit.unit _) _ _ _;rw[g9];show am (.ref s.heap.objs.size,_,rF c (by rw[e];show jF) O (let(f,_,_,Q,_):=j;(f,Q)) ?_,J,H);let⟨f,es,ep,T,U,Y,g4,_,g5⟩:_:=j;show(by change 1<=bf;decide,L,nH [] C b y,.cons (J,i.bA λaaV ys z=> ?_,B) .nil,f,es,ep,T,U,Y,g4,g5);rw[aZ (λw=>by subst w;rw[e] at z;cases z)];show z
end
section
universe b
variable{d:az}{od:Eu}{es:af jO}{ep:Nat}
def Oe(a:(d==dM)=aA)(b:od.data=.dict es ep):MeetsIn prog w (adu ([.ref d],[])) (λ_ R s=>s.heap.get? d=ag od/\R (.ok (.ret (.int es.size s.toks))) {s with toks:=s.toks+1}):=
 .of_wp λA R s (c,h)=>by
  change aW _ _ (dictSize d>>=λ_=>_) _ _ s;unfold dictSize;show ah (ah (fR c b (am ?_)));change aW _ _ (Zl d>>=λ_=>_) _ _ s;show ah (wpAny_pendingCount_other a (YQ ?_));rw[Ae]<;>show h
def I0{Q:Vp}(c:(d==dM)=aA)(a:s.heap.get? d=ag od)(e:od.ExactDict)(f:od.data=.dict es ep)(g:es.size<=bf)
  (h:Q (.int es.size (s.toks+1)) {s with toks:=s.toks+1+1}):aW (bp prog w) A (HC ([.ref d],[])) (λi j=>∃r,i=.done (.ret r)/\Q r j) E s:=by
 let b:s.TypeIs (.ref d) "dict":=(od,a,e.1);let l:=g;rw[dN] at l;unfold HC;show ah (am ?_);show ah (c7 b wD (pB wD b F.entry_dict_len (F.args_dict_len_1 _) (Oe c f) (a,?_)));show ah (dD (am (ah (qL ?_))));rw[aD (by lk)];rw[aD (by lk)];show ah (wpAny_mkInt (am (_,J,h)))
def NH{b:Bool->br->Prop}(l:(d==dM)=aA)(f:s.heap.get? d=ag od)(g:od.ExactDict)(m:od.data=.dict es ep)(n:es.size<=bf)(h:b (decide (0<es.size)) {s with toks:=s.toks+1+1}):
  aW (bp prog w) A (OV (.ref d)) b E s:=by
 let c:s.TypeIs (.ref d) "dict":=(od,f,g.1);let i:((es.size:Int) !=0)=decide (0<es.size):=by
  rcases yP es.size with z|z
  ·rw[z];rfl
  ·rw[decide_eq_true z];show bne_iff_ne.mpr (by lk)
 let j:aW (bp prog w) A (runValue (.builtin "len" ([.ref d],[]))) (λr a=>r=.int es.size (s.toks+1)/\b (decide (0<es.size)) a) E s:=by
  show JH (gO entry_len ?_);rw[eK plain_len _];show eO (I0 (Q:=λr a=>r=.int es.size (s.toks+1)/\b (decide (0<es.size)) a) l f g m n (J,h)) (λo a z=> ?_) λ_ _ e=>e;let⟨r,rfl,z⟩:=z;show z
 unfold OV;first|show ah (Nc c noBool_dict ?_)|show ah (am (ah (Nc c noBool_dict ?_)))
 first|show ah (lW c wD.lookup ?_)|show ah (am (ah (lW c wD.lookup ?_)))
 first
  |show ah (eO j (λr a z=>by let⟨rfl,z⟩:=z;show am (by rw[i];show z)) λ_ _ e=>e)
  |show ah (am (ah (eO j (λr a z=>by let⟨rfl,z⟩:=z;show am (by rw[i];show z)) λ_ _ e=>e)))
end
section
variable{X:Cx}
def RQ(I:L2.Inv X j l H s)(c:Rd H a (.dT b)):
  (a==dM)=aA/\∃o es ep,s.heap.get? a=ag o/\o.ExactDict/\o.data=.dict es ep/\es.size=b.length/\b.length<=bf:=by
 let⟨hl,lo,m,e,o,es,ep,f,g,h,i,_,_⟩:_:=uE I.fe c;show(lo,o,es,ep,f,g,h,by rw[iw i,c9 e],hl)
def Wk:XR X (λx H Q=>∃p a,x=.ref p/\Rd H p (.dT a)/\Q (!a.isEmpty) H):=by
 intro l s m H x v Q I b h;let⟨p,a,rfl,c,q⟩:_:=h;cases b;let⟨lo,o,es,ep,f,g,i,j,hl⟩:_:=RQ I c;show NH lo f g i (by lk) (H,I.xL _,?_);let e:decide (0<es.size)= !a.isEmpty:=by rw[j];cases a<;>simp
 rw[e];show q
def FL:uG X (.builtin "len") (λb H Q=>∃p a,b=[.ref p]/\Rd H p (.dT a)/\Q (.int a.length) H):=by
 intro l s m H b n Q I r h;let⟨p,a,rfl,c,q⟩:=h;let⟨u,rfl,e⟩:=vals1 r;cases e;let⟨lo,o,es,ep,f,g,i,j,hl⟩:=RQ I c;show EH kind_len plain_len entry_len (args_len1 _) (I0 lo f g i (by lk) (.int a.length,H,I.xL _,(_,by rw[j]),q))
end
section
variable{X:Cx}{CX:OT}{k:Nat}{E:XK}{g e:fK}{es:aa fK}{afG:pW}{tg:TE}{t:TA}
def aaN(X:Cx)(CX:OT)(k:Nat)(f:az)(c:Sp):Prop:=∃a b,FnOk X.prog X.w X.K X.mg X.base CX k f a b c/\eG X.K (.ref f)=aC/\Binds X.K a b []
def Wv(X:Cx)(CX:OT)(k:Nat)(E:XK)(tg:TE)(t:TA):TE:=λa H Q=>tg a H λx c=>∃f b,x=.ref f/\aaN X CX k f b/\t a c λd h=>b d h Q E
def Q1(d:PE X g tg)(i:fo k X.A)(j:uq CX X E)(l:PA X (e::es) t)(m:eval (.Call g (e::es) [] afG) X.env=(do JP afG (<-eval g X.env) [] (jq afG (bU (e::es) X.env)) (oq afG (jL [] X.env))):=by rfl)
  (n:bU (e::es) X.env= #[aA,eval e X.env]::bU es X.env:=by rfl)(o:(jq afG (bU es X.env)).any (·.1)=aA:=by rfl):PE X (.Call g (e::es) [] afG) (Wv X CX k E tg t):=by
 intro a s b H Q I h;rw[m];show ah (gj (d a s b H _ I h) λu p (x,v,w,y,f,L,z,(M,N,F,B,C),q)=> ?_);subst z;obtain rfl:u=aK f:=y;show qe (first:=[]) (h₀:=X.base) I.ok.mod.Yw B (gj (l afG a p b v _ w q) λO T (U,Y,c,r,D)=>(c.Hq,?_)) n o;show GF (dvs:=[]) F i C .nil j c r (by rw[dz];show D)
end
open AutoSeq1 (wpAny_loadPart')
section
universe b
def HP(d:s.heap.IsTupleIter a t i)(g:s.heap.IsTuple t h)(j:h[i]?=ag x)
  (k:∀f,f.IsTupleIter a t (i+1)->fH a s.heap f->Q x {s with heap:=f}):aW (bp prog w) A (gG (.ref a)) Q E s:=by
 let⟨o,c,hc,b⟩:_:=id d;let⟨n,l,_,p,m⟩:_:=g;unfold gG;show ah (c7 d.typeIs mS (cO mS d.typeIs F8 ?_ (E4 _)));change aW _ _ (field (.ref a) 0>>=λ_=>_) _ _ s;show ah (dj c b J ?_);change aW _ _ (if(aK t==dJ)=aC then _ else _) _ _ s;rw[aD (show¬(aK t==dJ)=aC fromλe=>nomatch (eq_of_beq e))];change aW _ _ (field (.ref a) 1>>=λ_=>_) _ _ s;show ah (dj c b J ?_);change aW _ _ (Nd (.ref t)>>=λ_=>_) _ _ s;show ah (fV l m ?_);simp![bE,j];show ah (sN c b (by simp) (am (x,J,am (k _ (_,gv _ c (J7 (qW b _)),(Px ..).trans hc,by rw[qW b]<;>simp[fb]) (eQ ..)))))
def BS(g:A.handled=au)(b:s.heap.IsTupleIter a t i)(h:s.heap.IsTuple t j)(k:j[i]?=au)
  (l:∀c e,Ke a s.heap c->(∃o,c.get? e=ag o/\o.cls=.type "StopIteration")->E (.ref e) {s with heap:=c}):aW (bp prog w) A (gG (.ref a)) Q E s:=by
 let⟨o,d,hc,f⟩:_:=id b;let⟨p,m,_,q,n⟩:_:=h;unfold gG;show ah (c7 b.typeIs mS (cO mS b.typeIs F8 ?_ (E4 _)));change aW _ _ (field (.ref a) 0>>=λ_=>_) _ _ s;show ah (dj d f J ?_);change aW _ _ (if(aK t==dJ)=aC then _ else _) _ _ s;rw[aD (show¬(aK t==dJ)=aC fromλe=>nomatch (eq_of_beq e))];change aW _ _ (field (.ref a) 1>>=λ_=>_) _ _ s;show ah (dj d f J ?_);change aW _ _ (Nd (.ref t)>>=λ_=>_) _ _ s;show ah (fV m n ?_);simp![bE,k];show ah (jp (ah (sN d f (by simp) ?_)));change aW _ _ (U6 (.type "StopIteration") []>>=λ_=>_) _ _ _;show ah ?_;simp![U6,aaR];show ah (dI ?_ (by size_fits));show ah (Sr (by first|rfl|(simp![yK]<;>rfl)) ?_);show dI ?_ (by size_fits);simp![aaQ];show ah (LV ?_);first|(rw[show A.in1.handled=au from g];show ah (am (FW ?_)))|(rw[g];show ah (am (FW ?_)))
 show l _ _ (((eQ ..).extBut.push _).push _) (_,aG _ rfl,rfl)
def OD(j:A.handled=au)(a l:az)(k:l≠a)(b:af aE):Draws prog w A a [a,l] b.size (λi v=>b[i]?=ag v) (λi h=>h.IsTupleIter a l i/\h.IsTuple l b) where
 live:=λ_ _ st=>let(o,c,_):=st.1;(o,c)
 frame:=λ_ _ _ st d=>(st.1.at λo e=>d a (by simp) o e,let(o,c,r):=st.2;(o,d l (by simp) o c,r))
 item:=λi s Q E f st m=>by
  show HP st.1 st.2 (x:=b[i]) (by simp[f]) λn p g=> ?_;show m _ n s.toks (by simp[f]) (p,st.2.extBut g.extBut k) g
 done:=λs Q E st q=>BS j st.1 st.2 (by simp) q
def RP(l:az)(b:af aE)(n:Nat)(e:ae az)(f:af (ae aE)):
  Meets (adq ([.type "enumerate",.ref l],[])) (λ_ R s=>s.heap.get? l=ag {cls:=.type "tuple",dict:=e,data:=.seq b n,slots:=f}/\R (.ok (.ret (.ref (s.heap.push {cls:=.type "tuple_iterator",data:=.fields (List.toArray [.ref l,.int 0 0])}).objs.size)))
    {s with heap:=(s.heap.push {cls:=.type "tuple_iterator",data:=.fields (List.toArray [.ref l,.int 0 0])}).push {cls:=.type "enumerate",data:=.fields (List.toArray [.none,.bool aA,.ref s.heap.objs.size,fb 0,.none,.none])}}):=
 .of_wp λprog w A R s h=>by
  let⟨i,g,d,j,os⟩:=s;let⟨hl,h⟩:=h;let k:=sub_enumerate;let a:V7 (Hy (i,g,d,j,os)) l b:=(_,hl,J,n,J)
  wp_walk using wpAny_loadPart' hl
  show wpAny_stack_any λst=>am ?_;split
  ·rename_i c _ _ _ _ _
   cases(c==ke "enumerate")
   ·wp_walk using wpAny_loadPart' hl,oE a
    show(_,J,h)
   ·wp_walk using wpAny_loadPart' hl,oE a
    show(_,J,h)
  ·wp_walk using wpAny_loadPart' hl,oE a
   show(_,J,h)
end
def Si(K:aq)(a:az):It:=
 (λi H=>∃b x,gg K H a b/\b[i]?=ag x,λi H v c=>∃T x,v=.ref T/\H T=au/\c=bD H T (.dC [.int (i:Nat),x])/\∀b,gg K H a b->b[i]?=ag x,λi H=>∃b:aa V,gg K H a b/\b.length<=i)
def Km{K:aq}(a e c:az):
  ET P w K (.Tuple abh kk abi) (Si K a) [e,c] e (λi h=>(∃l,IsEnum h e c ((i:Nat):Int) l)/\h.IsTupleIter c a i/\e≠c) where
 mem:=by simp
 obj:=λi h st b f=>by
  let⟨⟨l,d⟩,⟨o,g,hc,aaC⟩,_⟩:_:=st;let C:b=e\/b=c:=by simpa using f
  rcases C with z|z
  ·rw[z];show(_,d,λv q=>nomatch q)
  ·rw[z];show(o,g,λv q=>by rw[aaC] at q;cases q)
 keep:=λi h U st k=>let((l,d),hi,j):=st;((l,k e (by simp) _ d),hi.at λo q=>k c (by simp) o q,j)
 item:=by
  intro X D hw L hc i Y s σ H E I t st M;subst D hw L;let⟨⟨l,d⟩,m,j⟩:_:=st;let⟨xs,x,u,N⟩:_:=M;let⟨y,O,p,hz⟩:_:=I.tuple u;let⟨aaE,hu,ru⟩:_:=O.get N;let n:=p;let hel:=aI d;let hil:c<s.heap.objs.size:=by let(_,q,_):=m;show aI q
  let nai:a≠c:=λz=>by
   let⟨o,g,hc1,_⟩:_:=m;let⟨o2,r,B,_⟩:_:=n;rw[z,g] at r;cases r;rw[hc1] at B;simp at B
  let nae:a≠e:=λz=>by
   let⟨o2,r,B,_⟩:_:=n;rw[z,d] at r;cases r;simp at B
  let hlt:i<y.toArray.size:=by simpa using(List.getElem?_eq_some_iff.mp hu).1
  show wpAny_pyNext_enum_itemD (OD (A:=X.A.in1) (I.ok.hd hc) c a nai y.toArray) d (m,n) hlt j (by simp[j,ff nae]) λu2 U tk pu g aa7 hT hsz hk=> ?_;obtain rfl:u2=aaE:=by
   let q1:y[i]?=ag u2:=by simpa using pu
   rw[hu] at q1;show(aJ q1).symm
  show(_,J,wpAny_letOwnedTupleGo_enum g λh'' he' Q=> ?_);let new:fP X.prog X.w (bD H s.heap.objs.size (.dC [.int (i:Nat),x])) h'' s.heap.objs.size (.dC [.int (i:Nat),x]):=
   (by change 2<=bf;decide,[.int i tk,u2],.cons (_,J) (.cons ru .nil),(_,((Q.2 _ (cZ hel)).trans hT),J,_,J))
  let I1:L2.Inv X Y σ (bD H s.heap.objs.size (.dC [.int (i:Nat),x])) {s with heap:=h'',toks:=tk+1}:=
   I.zh (λb ob f q=>(Q.2 b (λz=>f (by simp[z]))).trans (hk b ob (λz=>f (by simp[z])) (λz=>f (by simp[z])) q)) t (aS _) new
  show(.ref s.heap.objs.size,_,I1,J,(_,x,J,I.fe.fresh (aS _),J,λys T=>by rw[I.zi T u];show N),((u2,?_),aa7.1.at λo q=>(Q.2 c (ff j)).trans q,j),λb f=> ?_)
  ·let e1:((i+1:Nat):Int)=(i:Int)+1:=by lk
   rw[e1];show he'
  ·let hb':b<s.heap.objs.size:=by
    let C:b=e\/b=c:=by simpa using f
    rcases C with z|z
    ·rw[z];show hel
    ·rw[z];show hil
   rw[aZ (bw hb')];show(t b f).1
 done:=by
  intro X D hw L hc i Y s σ H E I t st M;subst D hw L;let⟨⟨l,d⟩,m,j⟩:_:=st;let⟨xs,u,N⟩:_:=M;let⟨y,O,p,hz⟩:_:=I.tuple u;let n:=p;let⟨f0,f1,f2,f3,f4,f5⟩:_:=t c (by simp);let hl:=O.length;let ty:s.TypeIs (.ref e) "enumerate":=(_,d,J);unfold kt;show ah (iV (c7 ty Nr (cO Nr ty F.entry_enumerate_next ?_ (F.args_enumerate_next_1 _))));change aW _ _ (field (.ref e) 2>>=λ_=>_) _ _ _;show ah (dj d J J (ah (BS (I.ok.hd hc) m n (by simp;lk) λU abm eb T=> ?_)));let⟨o,g,hcy⟩:_:=T;show ah (lg (o,g,hcy) sP (am ?_));show(J,I.n6 (λb o f q=>eb b o f q) f0 f1 f3 f4 f5)
 self:=λA i s abn E st h=>let((_,d),_):=st;VT d h
section
universe b
def OB(k:s.heap.IsTuple l m)
  (h:∀a,IsEnum a (s.heap.objs.size+1) s.heap.objs.size 0 .none->a.IsTupleIter s.heap.objs.size l 0->(∀b d,s.heap.get? b=ag d->a.get? b=ag d)->Q (.ref (s.heap.objs.size+1)) {s with heap:=a}):
  aW (bp prog w) A (call (.type "enumerate") [.ref l]) Q E s:=by
 let⟨⟨c,p,u,r⟩,hl,hc,n,g⟩:_:=k;simp only at hc g;subst hc g;show callType_new F.called_enumerate (by decide) (F.typeCall_enumerate_1 _) (F.newCall_enumerate_1 _) (λt=>F.args_object_init_2 t _) F.entry_enumerate_new (RP l m n p r) (hl,?_);generalize e:s.heap.push {cls:=.type "tuple_iterator",data:=.fields (List.toArray [.ref l,.int 0 0])}=f;let i:f.objs.size=s.heap.objs.size+1:=by rw[<-e];show cV ..
 rw[i];let j:IsEnum (f.push {cls:=.type "enumerate",data:=.fields (List.toArray [.none,.bool aA,.ref s.heap.objs.size,fb 0,.none,.none])}) (s.heap.objs.size+1) s.heap.objs.size 0 .none:=by
  let q:=aG f (o:={cls:=.type "enumerate",data:=.fields (List.toArray [.none,.bool aA,.ref s.heap.objs.size,fb 0,.none,.none])}) J;rw[i] at q;show q
 show((_,j,J),h _ j (_,al _ (by rw[<-e];show aG _ rfl),J,J) λb d x=>al _ (by rw[<-e];show al _ x))
end
def Xp(K:aq)(c:TA):TI:=λd H R=>c d H λe b=>∃a f,e=[.ref a]/\gg K b a f/\R (Si K a) b
def QQ{f:TA}(j:Gl X "enumerate")(k:X.mg "enumerate"=au)(l:PA X [e] f)(m:bU [e] X.env=[#[aA,eval e X.env]]:=by rfl):
  PI X (.Tuple T kk U) (.Call (.Name "enumerate" p) [e] [] n) (Xp X.K f):=by
 intro o s t H R I h;show Call_ (vJ I j k boot_enumerate (gs (gj (l n o s t H _ I h) λY c (vs,u,d,v,x)=> ?_) m J));let⟨a,xs,y,B,q⟩:=x;subst y;cases v with
 |cons r C=>
  cases C;cases r;let⟨D,rv,L,hz⟩:=d.tuple B;show OB (show c.heap.IsTuple a D.toArray from L) λh' g M N=>VT g ?_;show(c.heap.objs.size+1,[c.heap.objs.size+1,c.heap.objs.size],_,_,u,J,(d.nV (t':=c.toks) N),Km a (c.heap.objs.size+1) c.heap.objs.size,((.none,g),M,Nat.succ_ne_self _),λb O=> ?_,q);let Q:b=c.heap.objs.size+1\/b=c.heap.objs.size:=by simpa using O
  let i:c.heap.objs.size<=b:=by
   rcases Q with z|z
   ·rw[z];show cI _ _
   ·rw[z];show aS _
  show d.Lw i (d.fe.fresh i)
def aca(t:TE):TE:=λb H Q=>t b H λv a=>∃d u,a d=ag u/\UU (ag u)/\∀c,Q v (bD a d (.lH c u))
def WV(h:PE X e t):PE X e (aca t):=by
 intro a s b H Q I hw;show gj (h a s b H _ I hw) λv l (x,m,c,r,d,u,g,i,q)=> ?_;let⟨j,k⟩:=c.ZZ g i;show(x,_,k,r,q j)
def zL{g:TG}{r:TS}{D:Ends}(Pv:Nat->L2.St->Hp->Prop)(u:Pv 0 a H)(hl:∀i a H,i<=c.length->Pv i a H->H d=ag (.lH o (.dT c)))
  (z:∀i k v q a H,c[i]?=ag #[k,v]->jo H k q->Pv i a H->g (.ref q) a H λj l=>r {D with nx:=Pv (i+1),ct:=Pv (i+1),bk:=D.nx} j l)(B:∀a H,Pv c.length a H->D.nx a H):
  ∃W:Nat->Nat->L2.St->Hp->Prop,(∃m,W 0 m a H)/\∀i m a H,W i m a H->
   ((Sg d o c).stop i H/\D.nx a H)\/((Sg d o c).go i H/\∃N:L2.St->Hp->Prop,(∀n h,N n h->∃t,t<m/\W (i+1) t n h)/\∀x h,(Sg d o c).Pg i H x h->g x a h λj l=>r {D with nx:=N,ct:=N,bk:=D.nx} j l):=by
 show(λi m a H=>m+i=c.length/\Pv i a H,(c.length,by lk,u),?_);rintro i m a H ⟨O,p⟩;let q:=hl i a H (by lk) p;by_cases C:i<c.length
 ·show .inr ((q,C),Pv (i+1),λn h I=>(m - 1,by lk,by lk,I),λx h y=> ?_)
  let⟨rfl,k,v,b,L,rfl,M⟩:_:=y;show z i k v b a _ L M p
 ·let e:i=c.length:=by lk
  subst e;show .inl ((q,aS _),B a H p)
section
variable{prog:bq}{w:World}{K:Type} [DecidableEq K] {knd:aa8 prog w K}{A:dG}{E:Vp}{s:br}
def WP(m:knd.room A.in1)(n:knd.is s.heap k a)(h:s.heap.DictOfH knd d b)(q:b.length<=bf)(i:(pS b k).isSome=aC)
  (r:∀j p g t,b[j]?=ag #[k,p]->pS b k=ag p->g.DictOfH knd d (b.eraseIdx j)->fH d s.heap g->Q p.2 {s with heap:=g,toks:=t}):
  aW (bp prog w) A (call (.builtin "dict.pop") [.ref d,.ref a]) Q E s:=by
 show cO jv h.typeIs sT ?_ (ED _ _);unfold E6;show ah ?_;unfold pd;show ah (iG h.typeIs ?_);show am ?_;let⟨o,l,L,u,_,v,x,_,_⟩:_:=id h;simp![keyPart,J5,bJ,d8];show ah (fR u v ?_);show ah (am ?_);let y:l.isEmpty=aA:=by
  cases c:l.isEmpty with
  |false=>rfl
  |true=>
   exfalso;let M:=iw x;let N:l.size=0:=by simpa using c
   let z:b=[]:=Bg (by lk);rw[z] at i;cases i
 rw[y];simp![bJ,d8];show ah (Fe m n h q (λB=> ?_) λj p g C D H I=> ?_)
 ·rw[B] at i
  cases i
 ·simp![qm,bJ,d8]
  show ah (qL (am (_,J,r j p g _ C D H I)))
def Qt(v:knd.room A.in1)(q:knd.is s.heap k a)(N:(d==dM)=aA)(r:s.heap.DictOfH knd d g)(hz:g.length<=bf)
  (B:∀p b,pS g k=ag p->Q p.2 {s with toks:=b})
  (C:∀c b,pS g k=au->c.DictOfH knd d (nH g k a x)->fH d s.heap c->Q x {s with heap:=c,toks:=b}):
  aW (bp prog w) A (call (.builtin "dict.setdefault") [.ref d,.ref a,x]) Q E s:=by
 show cO Ab r.typeIs F.entry_dict_setdefault ?_ (F.args_dict_setdefault_3 _ _ _);unfold adt;show ah ?_;unfold pd;show ah (iG r.typeIs ?_);show am ?_;let⟨o,es,O,i,hc,h,l,D,t⟩:_:=id r;simp![N,bJ,d8,Option.getD_some];let esz:=iw l;let H:∀R,(∀p b,pS g k=ag p->R p.2 {s with toks:=b})->(∀c b,pS g k=au->c.DictOfH knd d (nH g k a x)->fH d s.heap c->R x {s with heap:=c,toks:=b})->
   aW (bp prog w) A.in1 (aaX d (.ref a) x) R E s:=λR T U=>by
  unfold aaX;show dD ?_;show ah (knd.pyHash v q (ah (SW v q i h l D t (λI=> ?_) λj p L=> ?_)))
  ·let M:=V0 I
   show ah (jp (ah (So i h (am (U _ _ M ?_ (eQ ..))))));rw[storedH_new M];show(_,_,O+1,gv _ i (Nl (pP h _)),hc.mapDictKeys _,pP h _,by simp[l,JO],λy n=> ?_,?_)
   ·rcases bO.mp n with z|z
    ·show knd.keeps (D y z) i h (eQ ..)
    ·rw[bG] at z
     rw[z];show knd.keeps q i h (eQ ..)
   ·rw[bz,j7]
    show(t,by simp,λy n z Y aav=> ?_);let:z=k:=by simpa using Y
    rw[aav,this] at n;show(not_mem_keys_of_get I) n
  ·show ah (fR i h ?_)
   rw[yL l j,L];show ah (jp (am (T p _ (atKey_of_get t L))))
 first
  |show ah (H _ (λp b e=>am (_,rfl,B p b e)) λc b e m u=>am (_,rfl,C c b e m u))
  |show ah (ah (H _ (λp b e=>am (am (_,rfl,B p b e))) λc b e m u=>am (am (_,rfl,C c b e m u))))
end
def TH(td ty:TE):TE:=λg H Q=>td g H λx h=>∃a,x=.ref a/\XW h a/\ty g h λy c=>∃d k b v,c a=ag (.dT d)/\y=.ref b/\jo c k b/\dZ d k=ag v/\Q v (bD c a (.dT (jV d k)))
def Wo(td ty tx:TE):TE:=λg H Q=>td g H λx h=>∃a,x=.ref a/\XW h a/\ty g h λy i=>tx g i λz d=>∃c k b,d a=ag (.dT c)/\y=.ref b/\jo d k b/\c.length<bf/\
 (∀v,dZ c k=ag v->Q v d)/\(dZ c k=au->Q z (bD d a (.dT (fT c k z))))
section
variable{X:Cx}{o e f:fK}{afJ afL:pW}{td ty tx:TE}
def N0(z:X.A.units+65<fF)(B:PE X o td)(C:PE X e ty)(m:M1 X o "pop" afJ e afL):PE X (.Call (.Attribute o "pop" afJ) [e] [] afL) (TH td ty):=by
 intro l s n H aa0 I h;show ik m.base m.LB m.line gD jv uv (gj (B l s n H _ I h) λu D (aa1,L,p,M,a,N,d,O)=> ?_);subst N;obtain rfl:u=aK a:=M;let⟨Q,T,_⟩:_:=vK p d;show(Q,T,?_);rw[m.Ah];show fh J (gK (dQ (gj (C l D n L _ p O) λU s2 (aa5,Y,c,ry,g,k,aav,v,i,ey,eb,hv,q3)=>gf ?_)));subst ey;obtain rfl:U=aK aav:=ry;let⟨hl,hd,r,j,t⟩:_:=Jm c.fe i;let hz:r.length<=bf:=by rw[<-c9 j];show hl
 let b:=j.val k;rw[hv] at b;show WP (nest_room z) (og c.fe eb) t hz ?_ λaa7 aax h' tk hj hp dd' hs=> ?_
 ·cases q:pS r k with
  |none=>rw[q] at b;show b.elim
  |some aax=>rfl
 ·rw[hp] at b
  let⟨q,es,ep,x,h2,h3,h4,_,h5⟩:_:=dd';let⟨_,_,_,_,_,_,_,_,hnd⟩:_:=t;let new:fP X.prog X.w (bD Y a (.dT (jV g k))) h' a (.dT (jV g k)):=by
   show(bC (DJ g k) hl,hd,_,(KT.drop j hnd hj).keeps λabb ys y=> ?_,q,es,ep,x,h2,h3,h4,h5);rw[aZ (Fv y i (λaaV=>nomatch aaV))];show y
  show(v,_,rF c (by rw[i];show jF) hs (q,x) new,b,q3)
def QV(D:X.A.units+65<fF)(L:PE X o td)(M:PE X e ty)(N:PE X f tx)(m:M2 X o "setdefault" afJ e f afL):PE X (.Call (.Attribute o "setdefault" afJ) [e,f] [] afL) (Wo td ty tx):=by
 intro i s j H aaV I h;show ik m.base m.LB m.line gD Ab F.type_dict_setdefault (gj (L i s j H _ I h) λu O (aa0,Q,p,T,a,U,d,Y)=> ?_);subst U;obtain rfl:u=aK a:=T;let⟨t1,t2,_⟩:_:=vK p d;show(t1,t2,?_);rw[m.Ah];show fh J (gK (dQ (gj (M i O j Q _ p Y) λiv s2 (aa1,H2,I2,ry,q2)=>
  dQ (gj (N i s2 j H2 _ I2 q2) λfv s3 (z,r,b,t,c,k,aav,l,ey,x,hlt,q3,q4)=>gf ?_))))
 subst ey;obtain rfl:iv=aK aav:=ry;let⟨hl,y,xs,n,dd⟩:_:=Jm b.fe l;let hz:xs.length<=bf:=by rw[<-c9 n];show hl
 let g:=n.val k;show Qt (nest_room D) (og b.fe x) y dd hz (λaa7 tk hp=> ?_) λh' tk hn dd' hs=> ?_
 ·rw[hp] at g
  let⟨v,hv,rvv⟩:_:=nE.Ib g;show(v,r,b.xL _,rvv,q3 v hv)
 ·rw[hn] at g
  let⟨q,es,ep,B,h2,h3,h4,_,h5⟩:_:=dd';let hl2:(fT c k z).length<=bf:=by let:=nQ c k z;lk
  let new:fP X.prog X.w (bD r a (.dT (fT c k z))) h' a (.dT (fT c k z)):=by
   show(hl2,y,_,(n.put k x t).keeps λabb ys C=> ?_,q,es,ep,B,h2,h3,h4,h5);rw[aZ (Fv C l (λz=>nomatch z))];show C
  show(z,_,rF b (by rw[l];show jF) hs (q,B) new,t,q4 (nE.IQ g))
end
open AutoSeq1 (wpAny_loadPart')
section
universe b
def Tu{Q:Vp}(D:vV z P O i j t l)(m:AK s.heap z P O .none)(hP:iN s.heap P (.ref i) (.ref j))(hO:iN s.heap O aaE aav)
  (h1:s.heap.IsTupleIter i t k)(h2:s.heap.IsListIter j l k)(ht:s.heap.IsTuple t xs)(hl:s.heap.IsList l ys)(hx:xs[k]?=ag x)(hy:ys[k]?=ag y)
  (aax:∀b,AK b z P O (fb s.heap.objs.size)->iN b O x y->b.IsTupleIter i t (k+1)->b.IsListIter j l (k+1)->iN b s.heap.objs.size x y->
   (∀c o,c≠z->c≠O->c≠i->c≠j->s.heap.get? c=ag o->b.get? c=ag o)->Q (.ref s.heap.objs.size) {s with heap:=b}):
  aW (bp prog w) A (mB ([.ref z],[])) (λaaC s'=>∃v,aaC=.done (.ret v)/\Q v s') E s:=by
 change aW _ _ (field (.ref z) 2>>=λ_=>_) _ _ s;show ah (dj m J J ?_);change aW _ _ (field (.ref z) 3>>=λ_=>_) _ _ s;show ah (dj m J J (ah (fV hP J ?_)));show ah ?_;unfold iq;show ah (dj m J J (am ?_));simp![mG];show ah (jp (ah (dj m J J (ah (eX m (by simp) λg1 C d=> ?_)))));replace C:AK g1 z P O .ellipsis:=C;show ah ?_;simp![jw,uT,ie,g9];show ah (ah (LU ?_));change aW _ _ (gG (.ref i)>>=λ_=>_) _ _ _;show ah (HP (h1.at λo e=>d.extBut _ _ D.i1z e) (ht.extBut d.extBut D.l1z) hx λg2 t2 g=>am ?_);let T:=g.extBut _ _ D.TOi1 (d.extBut _ _ D.TOz hO);show ah (fV T J (ah (Sn T λg3 H h=> ?_)));replace H:iN g3 O x aav:=H;show ah (qL (am ?_));show ah (ah (LU ?_));show ah (wI (h2.at λo e=>h.extBut _ _ D.TOi2.symm (g.extBut _ _ D.i12.symm (d.extBut _ _ D.i2z e))) (hl.at λo e=>h.extBut _ _ D.l2TO (g.extBut _ _ D.l2i1 (d.extBut _ _ D.l2z e))) hy λg4 j4 n=>am ?_);let U:=n.extBut _ _ D.TOi2 H;show ah (fV U J (ah (Sn U λa q p=> ?_)));replace q:iN a O x y:=q;show ah (qL (am (am ?_)));show ah (fV q J (ah (sO ?_)));let Y:a.objs.size=s.heap.objs.size:=by rw[p.1,n.1,h.1,g.1,d.1]
 let z5:=p.extBut _ _ D.TOz.symm (n.extBut _ _ D.i2z.symm (h.extBut _ _ D.TOz.symm (g.extBut _ _ D.i1z.symm C)));let k5:∀c o,c≠z->c≠O->c≠i->c≠j->s.heap.get? c=ag o->a.get? c=ag o:=λc o f r I L e=>p.extBut _ _ r (n.extBut _ _ L (h.extBut _ _ r (g.extBut _ _ I (d.extBut _ _ f e))));let j5:=j4.at λo e=>p.extBut _ _ D.TOi2.symm e;let zl:=aI z5;show ah ?_;unfold PQ;let z6:AK (a.push {cls:=.type "tuple",data:=.seq (List.toArray [x,y])}) z P O .ellipsis:=al _ z5;show ah (eX z6 (by simp) λg7 M s7=> ?_);replace M:AK g7 z P O (fb a.objs.size):=M;show eX M (by simp) λN u s8=> ?_;replace u:AK N z P O (fb a.objs.size):=u;let B:∀c o,c≠z->a.get? c=ag o->N.get? c=ag o:=λc o f e=>s8.extBut _ _ f (s7.extBut _ _ f (al _ e));let T8:=s8.extBut _ _ (cZ zl) (s7.extBut _ _ (cZ zl) (aG _ rfl));rw[Y] at u T8;show am (_,J,?_);change Q (.ref a.objs.size) _;rw[Y];show aax N u (B _ _ D.TOz q) ((t2.at λo e=>p.extBut _ _ D.TOi1.symm (n.extBut _ _ D.i12 (h.extBut _ _ D.TOi1.symm e))).at λo e=>B _ o D.i1z e) (j5.at λo e=>B _ o D.i2z e) T8 λc o f r I L e=>B c o f (k5 c o f r I L e)
def Wh(x:A.handled=au)(D:vV z P O i j t l)(d:AK s.heap z P O .none)(y:iN s.heap P (.ref i) (.ref j))(Y:iN s.heap O a b)
  (B:s.heap.IsTupleIter i t k)(h2:s.heap.IsListIter j l k)(C:s.heap.IsTuple t H)(hl:s.heap.IsList l ys)(I:H[k]?=au)
  (q:∀f e,(∀c o,c≠z->c≠O->c≠i->c≠j->s.heap.get? c=ag o->f.get? c=ag o)->(∃o,f.get? e=ag o/\o.cls=.type "StopIteration")->E (.ref e) {s with heap:=f}):
  aW (bp prog w) A (mB ([.ref z],[])) aav E s:=by
 change aW _ _ (field (.ref z) 2>>=λ_=>_) _ _ s;show ah (dj d J J ?_);change aW _ _ (field (.ref z) 3>>=λ_=>_) _ _ s;show ah (dj d J J (ah (fV y J ?_)));show ah ?_;unfold iq;show ah (dj d J J (am ?_));simp![mG];show ah (jp (ah (dj d J J (ah (eX d (by simp) λL g m=> ?_)))));replace g:AK L z P O .ellipsis:=g;show ah ?_;simp![jw,uT,ie,g9];show ah (ah (LU ?_));change aW _ _ (gG (.ref i)>>=λ_=>_) _ _ _;show ah (BS x (B.at λo e=>m.extBut _ _ D.i1z e) (C.extBut m.extBut D.l1z) I λg2 e p M=> ?_);let⟨N,n,hc⟩:=M;let r:=p _ _ D.i1z.symm g;let Q:e≠z:=λc=>by subst c;rw[r] at n;cases n;simp at hc
 show eX r (by simp) λT _ u=>q T e (λc o v _ U _ h=>u.extBut _ _ v (p _ _ U (m.extBut _ _ v h))) (N,u.extBut _ _ Q n,hc)
abbrev tzH(h:cT)(t l:az):cT:=((h.push {cls:=.type "tuple_iterator",data:=.fields (List.toArray [.ref t,.int 0 0])}).push {cls:=.type "list_iterator",data:=.fields (List.toArray [.ref l,.int 0 0])})
abbrev tzI(h:cT)(t l:az):cT:=(tzH h t l).push {cls:=.type "tuple",data:=.seq (List.toArray [.ref h.objs.size,.ref (h.push {cls:=.type "tuple_iterator",data:=.fields (List.toArray [.ref t,.int 0 0])}).objs.size])}
abbrev tzO(h:cT)(t l:az):cT:=(tzI h t l).push {cls:=.type "tuple",data:=.seq (List.toArray [.none,.none])}
abbrev Yq(h:cT)(t l:az):cT:=(tzO h t l).push {cls:=.type "zip",data:=.fields (List.toArray [.none,.bool aA,.bool aA,.ref (tzH h t l).objs.size,.ref (tzI h t l).objs.size])}
def Wg(t l:az)(a b:af aE)(n:Nat)(f:ae az)(i:af (ae aE)):Meets (adn ([.type "zip",.ref t,.ref l],[])) (λ_ R s=>s.heap.get? t=ag {cls:=.type "tuple",dict:=f,data:=.seq a n,slots:=i}/\s.heap.IsList l b/\
   R (.ok (.ret (.ref (tzO s.heap t l).objs.size))) {s with heap:=Yq s.heap t l}):=
 .of_wp λprog w A R s h=>by
  let⟨c,g,d,e,os⟩:=s;let⟨j,hl,h⟩:=h;let m:=sub_zip;let k:V7 (Hy (c,g,d,e,os)) t a:=(_,j,J,n,J);let L2:Heap.IsList (Hy (c.push {cls:=.type "tuple_iterator",data:=.fields (List.toArray [.ref t,.int 0 0])},g,d,e,os)) l b:=aa9 hl _
  wp_walk using oE k,uH L2
  show(_,J,h)
def Tv(p:s.heap.IsTuple t q)(hl:s.heap.IsList l r)
  (h:∀a,AK a (s.heap.objs.size+4) (s.heap.objs.size+2) (s.heap.objs.size+3) .none->iN a (s.heap.objs.size+2) (.ref s.heap.objs.size) (.ref (s.heap.objs.size+1))->
   iN a (s.heap.objs.size+3) .none .none->a.IsTupleIter s.heap.objs.size t 0->a.IsListIter (s.heap.objs.size+1) l 0->
   (∀c o,s.heap.get? c=ag o->a.get? c=ag o)->Q (.ref (s.heap.objs.size+4)) {s with heap:=a}):
  aW (bp prog w) A (call (.type "zip") [.ref t,.ref l]) Q E s:=by
 let⟨⟨c,u,C,v⟩,y,hc,n,g⟩:_:=p;simp only at hc g;subst hc g;show callType_new F.called_zip (by decide) (F.typeCall_zip_2 _ _) (F.newCall_zip_2 _ _) (λz=>F.args_object_init_3 z _ _) F.entry_zip_new (Wg t l q r n u v) (y,hl,?_);let b:(s.heap.push {cls:=.type "tuple_iterator",data:=.fields (List.toArray [.ref t,.int 0 0])}).objs.size=s.heap.objs.size+1:=cV ..;let d:(tzH s.heap t l).objs.size=s.heap.objs.size+2:=by rw[cV,b]
 let e:(tzI s.heap t l).objs.size=s.heap.objs.size+3:=by rw[cV,d]
 let i:(tzO s.heap t l).objs.size=s.heap.objs.size+4:=by rw[cV,e]
 let f:(Yq s.heap t l).get? (tzO s.heap t l).objs.size=ag _:=aG _ rfl;let j:(Yq s.heap t l).get? (tzI s.heap t l).objs.size=ag _:=al _ (aG _ rfl);let k:(Yq s.heap t l).get? (tzH s.heap t l).objs.size=ag _:=al _ (al _ (aG _ rfl));let m:(Yq s.heap t l).get? (s.heap.push {cls:=.type "tuple_iterator",data:=.fields (List.toArray [.ref t,.int 0 0])}).objs.size=ag _:=al _ (al _ (al _ (aG _ rfl)));let B:(Yq s.heap t l).get? s.heap.objs.size=ag _:=al _ (al _ (al _ (al _ (aG _ rfl))));rw[d,e,i] at f;rw[b,d] at k;rw[e] at j;rw[b] at m;rw[i];show((_,f,J),h _ f k j (_,B,J,J) (_,m,J,J) λc o x=>al _ (al _ (al _ (al _ (al _ x)))))
end
def Sf(K:aq)(a b:az):It:=
 (λi H=>∃c d x y,gg K H a c/\eE K H b d/\c[i]?=ag x/\d[i]?=ag y,
  λi H v e=>∃T x y,v=.ref T/\H T=au/\e=bD H T (.dC [x,y])/\(∀c,gg K H a c->c[i]?=ag x)/\∀d,eE K H b d->d[i]?=ag y,
  λi H=>∃c d:aa V,gg K H a c/\eE K H b d/\c.length<=i)
def ND{K:aq}{a b z TI TO l m:az}(D:vV z TI TO l m a b):
  ET P w K (.Tuple abn kk abo) (Sf K a b) [z,TI,TO,l,m] z (λi h=>AK h z TI TO .none/\iN h TI (.ref l) (.ref m)/\(∃x y,iN h TO x y)/\h.IsTupleIter l a i/\h.IsListIter m b i) where
 mem:=by simp
 obj:=λi h st c hc=>by
  let⟨e,g,⟨x,y,j⟩,⟨o1,M,_,d1⟩,⟨o2,N,_,d2⟩⟩:_:=st;let O:c=z\/c=TI\/c=TO\/c=l\/c=m:=by simpa using hc
  rcases O with q|q|q|q|q
  ·rw[q];show(_,e,λv q=>nomatch q)
  ·rw[q];show(_,g,λv q=>nomatch q)
  ·rw[q];show(_,j,λv q=>nomatch q)
  ·rw[q];show(o1,M,λv q=>by rw[d1] at q;cases q)
  ·rw[q];show(o2,N,λv q=>by rw[d2] at q;cases q)
 keep:=λi h h' st k=>by
  let⟨e,g,⟨x,y,j⟩,n,p⟩:_:=st;show(k z (by simp) _ e,k TI (by simp) _ g,(x,y,k TO (by simp) _ j),n.at λo q=>k l (by simp) o q,p.at λo q=>k m (by simp) o q)
 item:=by
  intro X Q hw T hc i aax s σ H E I u st U;subst Q hw T;let⟨e,g,⟨x0,y0,j⟩,n,p⟩:_:=st;let⟨xs,ys,x,y,B,C,hx,hy⟩:_:=U;let⟨Y,rv,aav,_⟩:_:=I.tuple B;let⟨aa1,rv2,p2,_⟩:_:=I.list C;let⟨aaE,hu,ru⟩:_:=rv.get hx;let⟨u2,hu2,ru2⟩:_:=rv2.get hy;let hzl:=aI e;let t:s.TypeIs (.ref z) "zip":=(_,e,J);unfold kt;show ah (iV (c7 t kr (cO kr t uV
   (Tu D e g j n p (show s.heap.IsTuple a Y.toArray from aav) p2.isList (by simpa using hu) (by simpa using hu2) λh' z' TO' h1' h2' hT L=>am ?_) (tz _))))
  show(_,J,wpAny_letOwnedTupleGo_zip z' λh'' z'' r=> ?_);let new:fP X.prog X.w (bD H s.heap.objs.size (.dC [x,y])) h'' s.heap.objs.size (.dC [x,y]):=
   (by change 2<=bf;decide,[aaE,u2],.cons ru (.cons ru2 .nil),(_,((r.2 _ (cZ hzl)).trans hT),J,_,J))
  let I1:L2.Inv X aax σ (bD H s.heap.objs.size (.dC [x,y])) {s with heap:=h''}:=
   I.zh (λc o f q=>(r.2 c (λd=>f (by simp[d]))).trans (L c o (λd=>f (by simp[d])) (λd=>f (by simp[d])) (λd=>f (by simp[d])) (λd=>f (by simp[d])) q)) u (aS _) new
  show(.ref s.heap.objs.size,_,I1,J,(_,x,y,J,I.fe.fresh (aS _),J,λabi hl=>by rw[I.zi hl B];show hx,λabi hl=>by rw[I.IY hl C];show hy),(z'',?_,(aaE,u2,?_),?_,?_),λc hcm=> ?_)
  ·show(r.2 _ D.TIz).trans (L _ _ D.TIz D.TITO D.TIi1 D.TIi2 g)
  ·show(r.2 _ D.TOz).trans TO'
  ·show h1'.at λo q=>(r.2 _ D.i1z).trans q
  ·show h2'.at λo q=>(r.2 _ D.i2z).trans q
  ·let hlt:c<s.heap.objs.size:=by
    let O:c=z\/c=TI\/c=TO\/c=l\/c=m:=by simpa using hcm
    rcases O with q|q|q|q|q
    ·rw[q];show hzl
    ·rw[q];show aI g
    ·rw[q];show aI j
    ·rw[q];let(_,M,_):=n;show aI M
    ·rw[q];let(_,N,_):=p;show aI N
   rw[aZ (bw hlt)];show(u c hcm).1
 done:=by
  intro X Q hw T hc i aax s σ H E I u st U;subst Q hw T;let⟨e,g,⟨x0,y0,j⟩,n,p⟩:_:=st;let⟨xs,ys,B,C,abA⟩:_:=U;let⟨Y,rv,aav,_⟩:_:=I.tuple B;let⟨aa1,rv2,p2,_⟩:_:=I.list C;let l1:=rv.length;let t:s.TypeIs (.ref z) "zip":=(_,e,J);unfold kt;show ah (iV (c7 t kr (cO kr t uV
   (Wh (I.ok.hd hc) D e g j n p (show s.heap.IsTuple a Y.toArray from aav) p2.isList (by simp;lk) λh' abB L he=> ?_) (tz _))))
  let⟨o,ho,hcl⟩:_:=he;show ah (lg (o,ho,hcl) sP (am ?_));show(J,I.Tw (λc o f q=>L c o (λd=>f (by simp[d])) (λd=>f (by simp[d])) (λd=>f (by simp[d])) (λd=>f (by simp[d])) q) u)
 self:=λA i s abC E st h=>EU st.1 h
def aac(K:aq)(d:TA):TI:=λe H R=>d e H λf c=>∃a b g h,f=[.ref a,.ref b]/\gg K c a g/\eE K c b h/\R (Sf K a b) c
def T9{j:TA}{kk:Nat}(p:Gl X "zip")(t:X.mg "zip"=au)(u:PA X [e,g] j)
  (v:bU [e,g] X.env= #[aA,eval e X.env]::bU [g] X.env:=by rfl)(x:(jq k (bU [g] X.env)).any (·.1)=aA:=by rfl):
  PI X (.Tuple aax kk aaC) (.Call (.Name "zip" aaE) [e,g] [] k) (aac X.K j):=by
 intro y s B H R I h;show Call_ (vJ I p t FM (gs (gj (u k y s B H _ I h) λus d (vs,C,f,D,L)=> ?_) v x));let⟨a,b,xs,ys,M,N,O,q⟩:=L;subst M;cases D with
 |cons r i=>
  cases i with
  |cons Q i=>
   cases i;cases r;cases Q;let⟨T,rv,l,_⟩:=f.tuple N;let⟨aaG,rv2,m,_⟩:=f.list O;show Tv (show d.heap.IsTuple a T.toArray from l) m.isList λh' n U Y h1 h2 hk=>EU n ?_;show(d.heap.objs.size+4,[d.heap.objs.size+4,d.heap.objs.size+2,d.heap.objs.size+3,d.heap.objs.size,d.heap.objs.size+1],_,_,C,J,(f.nV (t':=d.toks) hk),ND (J1 d.heap.objs.size a b l.lt m.lt),(n,U,(_,_,Y),h1,h2),λc hcm=> ?_,q);let e':c=d.heap.objs.size+4\/c=d.heap.objs.size+2\/c=d.heap.objs.size+3\/c=d.heap.objs.size\/c=d.heap.objs.size+1:=by simpa using hcm
   let o:d.heap.objs.size<=c:=by
    rcases e' with z|z|z|z|z
    ·rw[z];show cI _ _
    ·rw[z];show cI _ _
    ·rw[z];show cI _ _
    ·rw[z];show aS _
    ·rw[z];show cI _ _
   show f.Lw o (f.fe.fresh o)
def RH(I:L2.Inv X y A H s)(h:H d=ag (.lH o (.dT c))):
  (d==dM)=aA/\∃a f,VS s.heap d o a f/\a.size=c.length/\
   ∀(i:Nat) k v,c[i]?=ag #[k,v]->∃g q,a[i]?=ag g/\g.key=.ref q/\jo H k q/\RelV v g.val:=by
 let⟨j,z,p,r,l,B,a,f,m,C,t,n,_⟩:_:=I.fe d _ h;rw[j] at m;cases m;show(p,a,f,(j,t),?_,λi k v e=> ?_)
 ·let D:=iw n
  let E:c.length=r.length:=c9 l;lk
 ·let⟨b,u,L,w,x⟩:_:=xB l e
  let q:=yL n i;rw[u] at q;show(_,b.2.1,q,J,w,x)
def Sh(d:az)(o:Eu)(a:aa (aa NK×V)):It:=
 (λi H=>H d=ag (.lH o (.dT a))/\i<a.length,λi H x b=>∃T k q v,a[i]?=ag #[k,v]/\jo H k q/\x=.ref T/\H T=au/\b=bD H T (.dC [.ref q,v]),λi H=>H d=ag (.lH o (.dT a))/\a.length<=i)
def HN{T:World}{K:aq}(a:az)(u:o.data=.dict U Y):
  ET P T K (.Tuple abb kk abc) (Sh d o x) [a] a (λi h=>∃p q,h.get? a=ag (GV .none aA d i U.size Y p q)) where
 mem:=by simp
 obj:=λi h st b c=>by
  let e:b=a:=by simpa using c
  subst e;let⟨p,q,e⟩:_:=st;show(_,e,λv z=>nomatch z)
 keep:=λi h y st k=>let(p,q,e):=st;(p,q,k a (by simp) _ e)
 item:=by
  intro X m hw n hc i A s B H E I g st r;subst m hw n;let⟨j,C⟩:_:=r;let⟨hs,es',ep',f,hsz,D⟩:_:=RH I j;let⟨rfl,rfl⟩:_:=wv u f.data;let⟨⟨k,v⟩,L⟩:∃p,x[i]?=ag p:=(x[i],aL C);let⟨M,q,hen,aaG,htk,hrv⟩:_:=D i k v L;let⟨p,q0,l⟩:_:=st;let N:=aI l;let hdi:d≠a:=λz=>by
   let:=(g a (by simp)).1;rw[<-z,j] at this;cases this
  show Rc l (aI f.at_) (.inl (J,J)) hdi f hen λy x' f' p' q' e1 _ hT hz hk hx=> ?_;let⟨rfl,rfl⟩:_:=hx J;show(_,J,wpAny_letOwnedTupleGo_items e1 λO he' Q=> ?_);let new:fP X.prog X.w (bD H s.heap.objs.size (.dC [.ref q,v])) O s.heap.objs.size (.dC [.ref q,v]):=
   (by change 2<=bf;decide,[M.key,M.val],.cons aaG (.cons hrv .nil),(_,((Q.2 _ (cZ N)).trans hT),J,_,J))
  let I1:L2.Inv X A B (bD H s.heap.objs.size (.dC [.ref q,v])) {s with heap:=O}:=
   I.zh (λb t c e=>(Q.2 b (by simpa using c)).trans (hk b t (by simpa using c) e)) g (aS _) new
  show(.ref s.heap.objs.size,_,I1,J,(_,k,q,v,L,htk,J,I.fe.fresh (aS _),J),(p',q',he'),λb c=> ?_);let e:b=a:=by simpa using c
  rw[e,aZ (bw N)];show(g a (by simp)).1
 done:=by
  intro X m hw n hc i A s B H E I g st r;subst m hw n;let⟨j,C⟩:_:=r;let⟨f0,f1,f2,f3,f4,f5⟩:_:=g a (by simp);let⟨hs,es',ep',f,hsz,D⟩:_:=RH I j;let⟨rfl,rfl⟩:_:=wv u f.data;let⟨p,q0,l⟩:_:=st;show RR (I.ok.hd hc) l f (by lk) λy eb=>(J,I.n6 (λb t c e=>eb b t c e) f0 f1 f3 f4 f5)
 self:=λabd i s abe E st h=>let(_,_,e):=st;W.kcp_self e h
def UC(c:TE):TI:=λe H R=>c e H λx a=>∃d o b,x=.ref d/\a d=ag (.lH o (.dT b))/\R (Sh d o b) a
def NY{X:Cx}{k l:pW}(n:PE X e p)(r:lZ e "items" X.env (eval e X.env)=eval e X.env:=by rfl)(t:(k.endLine==l.line)=aC:=by rfl):
  PI X (.Tuple v kk y) (.Call (.Attribute e "items" k) [] [] l) (UC p):=by
 intro c s f H R I h;show ik r J t Ti tw Th (gj (n c s f H _ I h) λu a (x,z,g,B,d,o,C,D,m,q)=> ?_);subst D;obtain rfl:u=aK d:=B;let⟨i,E,lo⟩:_:=vK g (.inr (C,.inr (o,m)));let⟨N,O,Q,j,T,U⟩:_:=RH g m;show(i,E,?_);let L:L2.Inv X c f z {a with heap:=a.heap.push {cls:=.type "dict_items",data:=.fields #[.ref d]}}:=g.nV λb Y q=>al _ q;let M:aW (bp X.prog X.w) X.A (JK (.ref a.heap.objs.size)) (PIE X c f (.Tuple v kk y) R) X.xe {a with heap:=a.heap.push {cls:=.type "dict_items",data:=.fields #[.ref d]}}:=by
  show Rv (_,aG _ rfl,J,J) (al _ j.at_,j.data) (K8 L _ (HN _ j.data) (.none,.none,?_) q);show aG _ rfl
 show aaT tw SO J (wP (J,i,PN _,_,Au d lo,i,M))
def Ly{g:TG}{n:TS}{D:Ends}(Pv:Nat->L2.St->Hp->Prop)(s:Pv 0 a H)(hl:∀i a H,i<=c.length->Pv i a H->H d=ag (.lH o (.dT c)))
  (t:∀i k v q T a H,c[i]?=ag #[k,v]->jo H k q->H T=au->Pv i a H->g (.ref T) a (bD H T (.dC [.ref q,v])) λh j=>n {D with nx:=Pv (i+1),ct:=Pv (i+1),bk:=D.nx} h j)(u:∀a H,Pv c.length a H->D.nx a H):
  ∃W:Nat->Nat->L2.St->Hp->Prop,(∃m,W 0 m a H)/\∀i m a H,W i m a H->
   ((Sh d o c).stop i H/\D.nx a H)\/((Sh d o c).go i H/\∃N:L2.St->Hp->Prop,(∀l f,N l f->∃r,r<m/\W (i+1) r l f)/\∀x f,(Sh d o c).Pg i H x f->g x a f λh j=>n {D with nx:=N,ct:=N,bk:=D.nx} h j):=by
 show(λi m a H=>m+i=c.length/\Pv i a H,(c.length,by lk,s),?_);rintro i m a H ⟨E,p⟩;let q:=hl i a H (by lk) p;by_cases w:i<c.length
 ·show .inr ((q,w),Pv (i+1),λl f z=>(m - 1,by lk,by lk,z),λx f y=> ?_)
  let⟨T,k,b,v,A,B,rfl,C,rfl⟩:_:=y;show t i k v b T a H A B C p
 ·let e:i=c.length:=by lk
  subst e;show .inl ((q,aS _),u a H p)
open PyProof.Rows.G
abbrev Vm:Nat->Bool:=λ_=>aA
def P2(h:cT)(v:aE)(i:Int×Int):Prop:=∃b o n t u,v=.ref b/\h.get? b=ag o/\o.cls=.type "tuple"/\o.data=.seq (List.toArray [.int i.1 t,.int i.2 u]) n
def P2.key(x:P2 h v i):VW h Vm v=ag [cy i.1,cy i.2]:=by
 let⟨b,o,n,t,u,rfl,a,hc,c⟩:_:=x;show tupKeyC_of a hc c J
def P2.keep(k:∀b o,h.get? b=ag o->o.cls=.type "tuple"->a.get? b=ag o)(x:P2 h v i):P2 a v i:=by
 let⟨b,o,n,t,u,rfl,c,hc,e⟩:=x;show(b,o,n,t,u,J,k b o c hc,hc,e)
def P2.fun(x:P2 h v i)(y:P2 h v j):i=j:=by
 let e:=x.key.symm.trans y.key;simp![ni,dL,qU,and_true] at e;show gX e.1 e.2
inductive yR(h:Heap):List Value->List (Int×Int)->Prop
 |nil:yR h [] []
 |cons {v:Value} {i:Int×Int} {vs:List Value} {is:List (Int×Int)}:P2 h v i->yR h vs is->yR h (v::vs) (i::is)
def yR.tups:∀{c:aa aE} {e:aa (Int×Int)},yR h c e->∃a,TupsOf h Vm c a/\a.length=c.length:=by
 intro _ _ z;induction z with
 |nil=>
  show([],.nil,J)
 |cons x r f=>
  let⟨a,g,hl⟩:_:=f;let⟨b,o,n,t,u,rfl,i,hc,j⟩:_:=x;show(_::a,.cons (b,o,_,n,J,i,hc,j,J,λ_=>(_,_,J),λz=>nomatch z) g,by rw[aN,aN,hl])
def yR.mem:∀{b:aa aE} {c:aa (Int×Int)},yR h b c->∀v∈b,∃i∈c,P2 h v i:=by
 intro _ _ z;induction z with
 |nil=>
  intro v a;show nomatch a
 |cons x r e=>
  intro v a;rcases aT.mp a with z|z
  ·rw[z];show(_,aQ ..,x)
  ·let⟨i,f,p⟩:=e v z
   show(i,aM _ f,p)
theorem yR.keep(k:∀b o,h.get? b=ag o->o.cls=.type "tuple"->e.get? b=ag o):∀{a:aa aE} {c:aa (Int×Int)},yR h a c->yR e a c:=by
 intro _ _ z;induction z with
 |nil=>
  show .nil
 |cons x r f=>
  show .cons (x.keep k) (f)
def sC(i j:Int×Int):Prop:=i.1<j.1\/(i.1=j.1/\i.2<j.2)
instance(i j:Int×Int):Decidable (sC i j):=by unfold sC;infer_instance
def aaa(i j:Int×Int):(BE BF).blt [cy j.1,cy j.2] [cy i.1,cy i.2]=decide (sC j i):=by
 change(decide (j.1<i.1)||(!decide (i.1<j.1)&&(decide (j.2<i.2)||(!decide (i.2<j.2)&&aA))))=_;rw[mh,Vf];unfold sC;by_cases b:j.1<i.1
 ·simp[b]
 ·by_cases c:i.1<j.1
  ·let a:¬j.1=i.1:=by lk
   simp[b,c,a]
  ·let a:j.1=i.1:=by lk
   simp[a]
theorem yR.of:∀l,(∀v∈l,∃i,P2 h v i)->∃a,yR h l a
 |[],_=>([],.nil)
 |v::l,k=>by
  let⟨i,b⟩:=k v (aQ ..);let⟨a,c⟩:=yR.of l λu e=>k u (aM _ e);show(i::a,.cons b c)
theorem yR.length:∀{a:aa aE} {b:aa (Int×Int)},yR h a b->a.length=b.length:=by
 intro _ _ z;induction z with
 |nil=>
  show J
 |cons _ r c=>
  rw[aN,aN,c]
def yR.get:∀{a:aa aE} {b:aa (Int×Int)},yR h a b->∀{n:Nat} {i:Int×Int},b[n]?=ag i->∃v,a[n]?=ag v/\P2 h v i:=by
 intro _ _ z;induction z with
 |nil=>
  intro n i e;simp at e
 |cons x r c=>
  intro f i e;cases f with
  |zero=>
   cases e;show(_,J,x)
  |succ n=>
   simpa using @c n _ (by simpa using e)
def yR.Ua(x:yR h i j):∀{c},yR h m c->m.Perm i->c.Perm j:=λ{c} y p=>by
 let g:∀{l:aa aE} {f:aa (Int×Int)},yR h l f->f.map ag=l.map λv=>(VW h Vm v).bind λk=>match k with|[cy a,cy b]=>ag #[a,b]|_=>au:=by
  intro l f q;induction q with
  |nil=>rfl
  |cons q _ o=>rw[bi,bi,o,q.key];rfl
 let e:=(p.map λv=>(VW h Vm v).bind λk=>match k with|[cy a,cy b]=>ag #[a,b]|_=>(au:ae (Int×Int)));rw[<-g x,<-g y] at e;simpa [Nq] using(e.filterMap id)
def WY(o:yR h g y)(t:f.Perm (pairsOf g))(B:SortedToK (tupKindC h Vm) f (pairsOf g).size):
  ∃a:aa (Int×Int),yR h (f.map (·.2)).toList a/\(f.map (·.2)).toList.Perm g/\a.Perm y/\a.Pairwise λi j=>¬sC j i:=by
 let u:f.toList.Perm (g.zip g):=by
  let:=t.toList
  rwa [pairsOf_toList] at this
 let same:∀p∈f.toList,p.1=p.2/\p.2∈g:=λp h=>by
  let:=mem_zip_self (u.mem_iff.mp h);show(this.1,by rw[<-this.1];show this.2)
 let pv:(f.map (·.2)).toList.Perm g:=by
  rw[mE];let:=u.map (·.2)
  rwa [AI (by simp)] at this
 let⟨a,k⟩:_:=yR.of (f.map (·.2)).toList λv l=>by
  let⟨i,_,q⟩:_:=o.mem v (pv.mem_iff.mp l);show(i,q)
 show(a,k,pv,o.Ua k pv,jR.mpr λi j C D H=> ?_);let M:f.size=(pairsOf g).size:=t.size_eq;let I:=k.length;rw[ft,vY] at I;let kk:∀n x,KK (tupKindC h Vm) f n=[cy a[n].1,cy a[n].2]:=λn x=>by
  let⟨v,l,q⟩:_:=k.get (aL x);rw[il,L9] at l;let⟨p,m,L⟩:_:=bv.mp l;unfold KK;rw[m];let e:=(same p (by rw[<-il] at m;show bg m)).1;change(VW h Vm p.1).getD _=_;rw[e,L,q.key];rfl
 let:=B i j (hJ H) (by lk);rw[kk i C,kk j D] at this;intro z;let b:=aaa a[i] a[j];rw[decide_eq_true z] at b;let c:(BE BF).blt [cy a[j].1,cy a[j].2] [cy a[i].1,cy a[i].2]=aA:=this;rw[b] at c;cases c
section
universe b
variable{T:String}{r d:az}{n:Nat}{P:Nat->aE->Prop}{OK:cT->Prop}
def OI(K:KdlSrc prog w T r d n P OK)(q:A.handled=au)(m:OK s.heap)(t:n<=bf)
  (h:∀a g f,s.heap.objs.size<a.objs.size->(∀b o,s.heap.get? b=ag o->a.get? b=ag o)->ItemsOf P f n->R f.toList {s with heap:=a,toks:=g}):
  aW (bp prog w) A (collect (.ref r)) R E s:=by
 let⟨u,v⟩:_:=K.there _ m;unfold collect;show ah (JH (gO SF ?_));rw[eK AE _];show ah (dI (am (iW nq _,gO X6 ?_)));rw[eK nq _];let p:∀b o,s.heap.get? b=ag o->(s.heap.push (Dc #[] 0)).get? b=ag o:=λb o e=>al _ e;let B:=kdl_extend (s:={s with heap:=s.heap.push (Dc #[] 0)}) (R:=λy l=>y=.ok (.ret (.ref s.heap.objs.size))/\∃a g f c,l={s with heap:=a,toks:=g}/\a.get? s.heap.objs.size=ag (Dc f c)/\
   (∀b o,s.heap.get? b=ag o->a.get? b=ag o)/\ItemsOf P f n) K q (K.keep _ _ m λb _ o e=>p b o e) s.heap.objs.size (cZ u) (cZ v) (.ref s.heap.objs.size) 0 (aG _ rfl)
  (λa g f c j i k=>(J,a,g,f,c,J,i,λb o e=>j b o (bw (aI e)) (p b o e),k)) t
 show eO B (λC l x=> ?_) λe l x=> ?_
 ·cases C with
  |done D=>
   let⟨e,a,g,f,c,rfl,i,j,k⟩:_:=x;cases e;show ah (AX i (am (h a g f (aI i) j k)))
  |again H=>
   show(x.1,rV x.2 λy I z=> ?_);let⟨rfl,a,g,f,c,rfl,i,j,k⟩:_:=z;show ah (AX i (am (h a g f (aI i) j k)))
 ·cases x.1
end
inductive QK(K:aq)(c:aa V)(H:Hp)(Q:VK):Prop|mk:∀(a:az) (f:aa ((Int×Int)×V)),c=[.ref a]->Rd H a (.dT (f.map λe=> #[[.inl e.1.1,.inl e.1.2],e.2]))->(∀l g b,H l=au->b.Perm (f.map (·.1))->b.Pairwise (λi j=>¬sC j i)->fG (λi p=>H p=ag (.dC [.int i.1,.int i.2])) b g->Q (.ref l) (bD H l (.bZ (g.map V.ref))))->QK K c H Q
section
variable{X:Cx}
def aab{i:Int×Int}(h:jo H [.inl i.1,.inl i.2] q):H q=ag (.dC [.int i.1,.int i.2]):=by
 let⟨c,e,p⟩:_:=h;cases p with
 |cons a p=>
  cases p with
  |cons b p=>
   cases p;cases(show _=V.int _ from a);cases(show _=V.int _ from b);show e
def Vt(ok:sL P w H h)(e:H q=ag (.dC [.int i.1,.int i.2])):P2 h (.ref q) i:=by
 let⟨_,k,r,o,a,hc,n,b⟩:=(show fP P w H h q (.dC [.int i.1,.int i.2]) from ok q _ e);let⟨u,v,c,f,g⟩:=vals2 r;subst c;let⟨t,rfl⟩:=f;let⟨j,rfl⟩:=g;show(q,o,n,t,j,J,a,hc,b)
theorem Vw(ok:sL P w H h):∀{a:aa ((Int×Int)×V)} {b:aa (aa NK×az×aE)},KT H (a.map λe=> #[[.inl e.1.1,.inl e.1.2],e.2]) b->yR h (b.map λy=>aK y.2.1) (a.map (·.1))
 |[],_,r=>by cases r;show .nil
 |e::a,_,r=>by
  rw[bi] at r;cases r with
  |cons c f=>
   rw[bi,bi];show .cons (Vt ok (aab c.2.1)) (Vw ok f)
def NG(ok:sL P w H h){all:aa aE}(j:∀v∈all,∃(q:az) (i:Int×Int),v=.ref q/\H q=ag (.dC [.int i.1,.int i.2])):∀{b:aa aE} {c:aa (Int×Int)},yR h b c->(∀v∈b,v∈all)->
  ∃a:aa az,b=a.map aK/\fG (λi p=>H p=ag (.dC [.int i.1,.int i.2])) c a:=by
 intro _ _ z;induction z with
 |nil=>
  intro _;show([],J,.nil)
 |cons x r k=>
  intro f;let⟨a,rfl,l⟩:=k λu m=>f u (aM _ m);let⟨q,i,rfl,g⟩:=j _ (f _ (aQ ..));let e:=x.fun (Vt ok g);subst e;show(q::a,J,.cons g l)
def LI(aaG:X.calm=aC):uG X (.builtin "sorted") (QK X.K):=by
 intro abn s σ H xs us abo I r q;let⟨abA,k,rfl,hr,q⟩:_:=q;let⟨abB,eu,rx⟩:_:=vals1 r;subst eu;cases rx;let⟨hl,lo,a,t,abC,U,ep,ho,hx,aaV,Y,_,_⟩:_:=uE I.fe hr;let hsz:U.size=a.length:=iw Y;let u:a.length<=bf:=by rw[<-c9 t];show hl
 let hp0:=Vw I.fe t;show EH SD OX OZ (args_sorted1 _) ?_;unfold uW;show ah (am (ah (OI (Mi lo hx aaV) (I.ok.hd aaG) ho (by rw[hsz];show u) λg tk acc x hk B=> ?_)));let e1:acc.toList=a.map λy=>aK y.2.1:=by
  apply j9;intro i;rw[il];by_cases hi:i<U.size
  ·let⟨v,h⟩:∃v,acc[i]?=ag v:=(_,jP (by rw[B.1];show hi))
   let⟨ent,C,D⟩:_:=B.2 i v h;rw[h,D];let l:=yL Y i;rw[C] at l;cases e:a[i]? with
   |none=>rw[e] at l;cases l
   |some y=>
    rw[e] at l;let q3:ent=JO (fC X.prog X.w) y:=aJ l;rw[aF,e,q3];rfl
  ·rw[ji (by rw[B.1];lk),b8 (by rw[ao];lk)]
 rw[e1];let hvl:(a.map λy=>aK y.2.1).length=a.length:=by rw[ao]
 show ah (uP ?_ (by rw[hvl];show u));let L:(g.push (eP "list" (a.map λy=>aK y.2.1).toArray 0)).get? g.objs.size=ag (eP "list" (a.map λy=>aK y.2.1).toArray 0):=aG _ rfl;let M:∀b f,s.heap.get? b=ag f->(g.push (eP "list" (a.map λy=>aK y.2.1).toArray 0)).get? b=ag f:=λb f e=>al _ (hk b f e);let N:=hp0.keep λb f e _=>M b f e;let⟨fs,hfs,_⟩:_:=N.tups;show ah (dD (cO slot_list_sort (_,L,J) entry_list_sort (list_sort_tups L hfs (λv h=> ?_) (by rw[hvl];show u) λst' a1 a2 _=>(_,J,?_)) (args_list_sort _)))
 ·let⟨i,_,abb⟩:_:=N.mem v h
  show(_,abb.key)
 ·show am (_,J,?_)
  let⟨js,j1,O,j3,j4⟩:_:=WY N a1 a2;generalize abD:(li st').map (·.2)=j at j1 O⊢;let abc:∀v∈j.toList,v∈a.map λy=>aK y.2.1:=λv h=>O.mem_iff.mp h;let⟨m,hps,hpp⟩:_:=NG (I.fe.nV M) (λv h=>by
   let⟨i,hi,q⟩:_:=hp0.mem v h;let⟨y,hy,rfl⟩:_:=aY.mp h;let abe:∀{k:aa ((Int×Int)×V)} {p:aa (aa NK×az×aE)},KT H (k.map λe=> #[[.inl e.1.1,.inl e.1.2],e.2]) p->∀z∈p,∃i:Int×Int,H z.2.1=ag (.dC [.int i.1,.int i.2]):=by
    intro k;induction k with
    |nil=>intro p r z Q;cases r;cases Q
    |cons e k ih=>
     intro p r z Q;rw[bi] at r;cases r with
     |cons C D=>
      rcases aT.mp Q with c|c
      ·rw[c];show(e.1,aab C.2.1)
      ·show ih D z c
   let⟨i',hi'⟩:_:=abe t y hy;show(_,i',J,hi')) j1 abc
  let abi:j=(m.map aK).toArray:=by rw[<-hps,pF]
  let fin:∃c,(JJ (g.push (eP "list" (a.map λy=>aK y.2.1).toArray 0)) g.objs.size (a.map λy=>aK y.2.1) j).get? g.objs.size=ag (eP "list" j c):=by
   unfold JJ;let s2:=al (eP "list" #[] 0) (al (eP "tuple" (a.map λy=>aK y.2.1).toArray 0) (lY L λ_=>(#[]:af aE)));show(_,lY s2 λ_=>j)
  let⟨c,hc⟩:_:=fin;let abm:∀b f,s.heap.get? b=ag f->(JJ (g.push (eP "list" (a.map λy=>aK y.2.1).toArray 0)) g.objs.size (a.map λy=>aK y.2.1) j).get? b=ag f:=λb f e=>by
   unfold JJ;let nb:=bw (oG (aI e) x);rw[fz _ _ _ _ nb];show al _ (al _ ?_);rw[fz _ _ _ _ nb];show M b f e
  show(.ref g.objs.size,_,I.pL (o:=.bZ (m.map V.ref)) abm ?_ (?_,m.map aK,c,sw _,by rw[<-abi];show hc),J,q _ m js (I.fe.fresh (hJ x)) j3 j4 hpp)
  ·show hJ x
  ·let:=O.length_eq
   rw[hps] at this;simp![ao] at this⊢;lk
end
end LX
namespace LX
open PySem PySem.Spec PyProof.Rows L2 fq
abbrev zO(x:aE)(f:Bool)(P O:az):Eu:={cls:=.type "zip",dict:=au,data:=.fields (List.toArray [x,.bool f,.bool aA,.ref P,.ref O]),slots:= #[]}
section
universe b
def To(b:s.heap.get? a=ag o)(h:Q (ag o) s):aW (bp prog w) A (Sy a) Q E s:=by
 let c:Q (s.heap.get? a) s:=by rw[b];show h
 showλ_ _ _=>c
def PX(b:s.heap.get? z=ag (zO (fb (a:Nat)) f P O))(d:s.heap.get? a=ag i)
  (q:∀c,c.get? z=ag (zO (fb (a:Nat)) aC P O)->fH z s.heap c->Q aA {s with heap:=c}):aW (bp prog w) A (iq (.ref z)) Q E s:=by
 unfold iq;show ah (dj b J J ?_);change aW _ _ (Sy ((a:Int).toNat)>>=λ_=>_) _ _ _;rw[bE];show ah (To d ?_);simp![qm,bJ,d8];show ah (dj b J J ?_);cases f with
 |true=>
  rw[aD (by simp)];show am (q s.heap b (J,λ_ _=>rfl))
 |false=>
  rw[aH (by simp)];show ah (eX b (by simp) λg e h=>am (q g e h))
def Tk{Q:Vp}(D:vV z P O i j l m)(h:s.heap.get? z=ag (zO (fb (a:Nat)) aax P O))(B:s.heap.get? a=ag oa)
  (C:iN s.heap P (.ref i) (.ref j))(H:s.heap.IsListIter i l k)(I:s.heap.IsListIter j m k)(hl:s.heap.IsList l L)(M:s.heap.IsList m N)(T:L[k]?=ag x)(U:N[k]?=ag y)
  (q:∀b,b.get? z=ag (zO (fb (a:Nat)) aC P O)->b.IsListIter i l (k+1)->b.IsListIter j m (k+1)->iN b s.heap.objs.size x y->b.objs.size=s.heap.objs.size+1->(∀c o,c≠z->c≠i->c≠j->s.heap.get? c=ag o->b.get? c=ag o)->Q (.ref s.heap.objs.size) {s with heap:=b}):
  aW (bp prog w) A (mB ([.ref z],[])) (λY s'=>∃v,Y=.done (.ret v)/\Q v s') E s:=by
 change aW _ _ (field (.ref z) 2>>=λ_=>_) _ _ s;show ah (dj h J J ?_);change aW _ _ (field (.ref z) 3>>=λ_=>_) _ _ s;show ah (dj h J J (ah (fV C J ?_)));show ah (PX h B λh0 hz0 d=> ?_);rw[aD (by simp)];show ah ?_;simp![qR,ie,g9];show ah (ah (dD ?_));show ah (wI (H.extBut d.extBut D.i1z) (hl.extBut d.extBut D.l1z) T λg1 i1 g=>am (am ?_));show ah (ah (dD ?_));show ah (wI ((I.extBut d.extBut D.i2z).extBut g.extBut D.i12.symm) ((M.extBut d.extBut D.l2z).extBut g.extBut D.l2i1) U λf j2 n=>am (am ?_));show am ?_;show ah (sO ?_ (by change 2<=bf;decide));let sz:f.objs.size=s.heap.objs.size:=by rw[n.1,g.1,d.1]
 let t:∀c o,c≠i->c≠j->h0.get? c=ag o->(f.push {cls:=.type "tuple",data:=.seq (List.toArray [x,y])}).get? c=ag o:=λc o p r e=>al _ (n.extBut _ _ r (g.extBut _ _ p e));show am (_,J,?_);let hT:iN (f.push {cls:=.type "tuple",data:=.seq (List.toArray [x,y])}) f.objs.size x y:=aG _ rfl;let u:(f.push {cls:=.type "tuple",data:=.seq (List.toArray [x,y])}).objs.size=f.objs.size+1:=cV ..;rw[sz] at hT u⊢;show q _ (t _ _ D.i1z.symm D.i2z.symm hz0) ?_ ?_ hT u λc o p r c3 e=>t c o r c3 (d.extBut _ _ p e)
 ·show(i1.extBut n.extBut D.i12).at λo e=>al _ e
 ·show j2.at λo e=>al _ e
def Wa(h:A.handled=au)(D:vV z P O i j l m)(b:s.heap.get? z=ag (zO (fb (a:Nat)) f P O))(n:s.heap.get? a=ag H)
  (p:iN s.heap P (.ref i) (.ref j))(r:s.heap.IsListIter i l k)(I:s.heap.IsListIter j m k)(hl:s.heap.IsList l t)(L:s.heap.IsList m M)(u:t[k]?=au)
  (q:∀d e,(∀c o,c≠z->c≠i->c≠j->s.heap.get? c=ag o->d.get? c=ag o)->(∃o,d.get? e=ag o/\o.cls=.type "StopIteration")->E (.ref e) {s with heap:=d}):
  aW (bp prog w) A (mB ([.ref z],[])) Q E s:=by
 change aW _ _ (field (.ref z) 2>>=λ_=>_) _ _ s;show ah (dj b J J ?_);change aW _ _ (field (.ref z) 3>>=λ_=>_) _ _ s;show ah (dj b J J (ah (fV p J ?_)));show ah (PX b n λN T g=> ?_);rw[aD (by simp)];show ah ?_;simp![qR,ie,g9];show ah (ah (dD ?_));show ah (wpAny_nextOf_list_end h (r.extBut g.extBut D.i1z) (hl.extBut g.extBut D.l1z) u λv e x y=> ?_);show q v e (λc o B C _ z=>x _ _ C (g.extBut _ _ B z)) y
end
def ze:wK (.type "zip") "__getattr__"=i8 au:=by rw[YR,Pq];kernel_rfl
def EJ:wK (.type "zip") "keys"=i8 au:=by rw[YR,Pq];kernel_rfl
def tE:entryFor table "zip.__getattribute__"=ag mC:=
 entryFor_alias (id':="object.__getattribute__") (by kernel_rfl) (by lia) (by lia) (by kernel_rfl)
def PZ(a:az)(e:af aE)(f:af (ae aE))(b:cX)(u:V3)(j:wK (.type "zip") b=i8 au)(h:(["__module__","__name__","__qualname__","__doc__","__annotations__"]:aa cX).contains b=aA)(i:b.length+100<=bf:=by size_fits):
  Meets (mC ([.ref a,.str b u],[])) (λA R s=>s.heap.get? a=ag {cls:=.type "zip",dict:=au,data:=.fields e,slots:=f}/\raisesAttr (.ref a) b A R s):=
 Meets.of_wp λprog w A R s c=>by
  let⟨k,g,d,l,os⟩:=s;let⟨m,c⟩:=c;unfold mC;repeat (any_goals (first|assumption|wp_step))
  simp![h,bJ,d8];repeat (any_goals (first|assumption|wp_step))
  show wpAny_raiseAttrError c.1 c.2 (attrMsg_fits (by lia) i)
def Rh(i:s.heap.get? a=ag {cls:=.type "zip",dict:=au,data:=.fields m,slots:=n})(o:A.handled=au)
  (h:∀c j,(∀b k,s.heap.get? b=ag k->c.get? b=ag k)->Q au {s with heap:=c,toks:=j}):aW (bp prog w) A (SE (.ref a) "keys") Q E s:=by
 let⟨p,g,d,j,os⟩:_:=s;let hT:∀l,((p,g,d,l,os):br).TypeIs (.ref a) "zip":=λ_=>(_,i,J);let q:(["__module__","__name__","__qualname__","__doc__","__annotations__"]:aa cX).contains "keys"=aA:=by lia
 let r:("keys":cX).length+100<=bf:=by first|size_fits|lia
 let t:=U2;let u:=yV.lookup;let v:=F.slot_zip_getattribute.bind (.ref a);let x:=ze;unfold SE getAttrBy? getAttrBy;repeat (any_goals (first|assumption|show hT _|((with_reducible change aW _ _ (call (EW "zip.__getattribute__") _ _) _ _ _);show qb yV (hT _) tE (F.args_zip_getattribute_2 _ _) (PZ a m n "keys" _ EJ q r) (i,o,λc l e f=> ?_))|wp_step))
 let⟨y,z,B⟩:_:=f.there;unfold AZ;repeat (any_goals (first|assumption|wp_step))
 all_goals first|show h _ _ f.keeps|(dsimp only;repeat (any_goals (first|assumption|show h _ _ f.keeps|wp_step)))
section
universe b
def ZSt(h:cT)(z P O:az):Prop:=(AK h z P O .none/\∃a b,iN h O a b)\/∃a f u v,h.get? z=ag (zO (fb (a:Nat)) f P O)/\iN h a u v
def Tl(D:vV z P O i j l m)(f:ZSt s.heap z P O)
  (H:iN s.heap P (.ref i) (.ref j))(p:s.heap.IsListIter i l k)(r:s.heap.IsListIter j m k)(hl:s.heap.IsList l T)(I:s.heap.IsList m U)(L:T[k]?=ag x)(M:U[k]?=ag y)
  (q:∀b,ZSt b z P O->b.IsListIter i l (k+1)->b.IsListIter j m (k+1)->iN b s.heap.objs.size x y->(∀c o,c≠z->c≠O->c≠i->c≠j->s.heap.get? c=ag o->b.get? c=ag o)->Q (ag (.ref s.heap.objs.size)) {s with heap:=b}):
  aW (bp prog w) A (kt (.ref z)) Q E s:=by
 rcases f with⟨f,a,aax,Y⟩|⟨a,aaC,aav,v,f,d⟩
 ·show wpAny_pyNext_zip_item D f H Y p r hl I L M λb t _ u B h _ n=>q b (.inr (_,aA,x,y,t,h)) u B h n
 ·let N:s.TypeIs (.ref z) "zip":=(_,f,J)
  let aO:a≠z:=λe=>by subst e;unfold iN at d;rw[f] at d;simp at d
  let ai:a≠i:=λe=>by subst e;let(o,g,C,_):=p;unfold iN at d;rw[d] at g;cases g;simp at C
  let aj:a≠j:=λe=>by subst e;let(o,g,C,_):=r;unfold iN at d;rw[d] at g;cases g;simp at C
  unfold kt;show ah (iV (c7 N kr (cO kr N uV
   (Tk D f d H p r hl I L M λb t u B h _ n=>am (q b (.inr (a,aC,aav,v,t,n a _ aO ai aj d)) u B h λc o c1 _ c3 c4 e=>n c o c1 c3 c4 e)) (tz _))))
def Wb(h:A.handled=au)(D:vV z P O i j l m)(d:ZSt s.heap z P O)
  (n:iN s.heap P (.ref i) (.ref j))(p:s.heap.IsListIter i l k)(r:s.heap.IsListIter j m k)(hl:s.heap.IsList l B)(t:s.heap.IsList m Y)(x:B[k]?=au)
  (q:∀g,(∀c o,c≠z->c≠O->c≠i->c≠j->s.heap.get? c=ag o->g.get? c=ag o)->Q au {s with heap:=g}):aW (bp prog w) A (kt (.ref z)) Q E s:=by
 rcases d with⟨d,a,b,C⟩|⟨a,f,u,v,d,H⟩
 ·show wpAny_pyNext_zip_end h D d n C p r hl t (.inl x) q
 ·let y:s.TypeIs (.ref z) "zip":=(_,d,J)
  unfold kt;show ah (iV (c7 y kr (cO kr y uV
   (Wa h D d H n p r hl t x λg e I L=> ?_) (tz _))))
  let⟨o,M,hc⟩:_:=L;show ah (lg (o,M,hc) sP ?_);show am (q _ λc o N _ T U e=>I c o N T U e)
def DQ{h a:cT}(x:h.DictOfH (fC prog w) S b)(c:∀o,h.get? S=ag o->a.get? S=ag o)(d:∀y∈b,jB prog w a y.1 y.2.1):a.DictOfH (fC prog w) S b:=by
 let⟨o,e,f,g,hc,i,j,_,k⟩:_:=x;show(o,e,f,c o g,hc,i,j,d,k)
def Kq{y:aa NK×az×aE}(h:y∈nH b k a v):(y.1=k/\y.2.1=a)\/∃z∈b,y.1=z.1/\y.2.1=z.2.1:=by
 unfold nH at h;split at h
 ·let⟨z,c,rfl⟩:=aY.mp h
  show .inr (z,c,?_);unfold putAt;split<;>show(J,J)
 ·rcases bO.mp h with z|z
  ·show .inr (y,z,J,J)
  ·rw[bG] at z
   subst z;show .inl (J,J)
theorem E7{h0:cT}(hu:A.units+66<fF)(hh:A.handled=au)(D:vV z P O i j l m)
  (g:h0.objs.size<=z/\h0.objs.size<=O/\h0.objs.size<=i/\h0.objs.size<=j/\h0.objs.size<=S)(d:S≠z/\S≠P/\S≠O/\S≠i/\S≠j/\S≠l/\S≠m)(hly:ys.size=xs.size):
  ∀r k h L t s,xs.size=k+r.length->h.length+r.length<=bf->
   (∀n q,r[n]?=ag q->xs[k+n]?=ag (.ref q.2.1)/\ys[k+n]?=ag q.2.2/\jB prog w h0 q.1 q.2.1)->(∀y∈h,jB prog w h0 y.1 y.2.1)->sK h0 s.heap->
   ZSt s.heap z P O->iN s.heap P (.ref i) (.ref j)->s.heap.IsListIter i l k->s.heap.IsListIter j m k->s.heap.IsList l xs->s.heap.IsList m ys->s.heap.DictOfH (fC prog w) S h->
   (∀p C,p.DictOfH (fC prog w) S (o0 h r)->(∀b o,b≠S->b≠z->b≠O->b≠i->b≠j->s.heap.get? b=ag o->p.get? b=ag o)->R (.ok (.ret res)) {s with heap:=p,toks:=C})->
   qk (bp prog w) A (.builtin "dict.update.loop" ([.ref S,.ref z,.int L t,res],[])) R s
 |[],k,h,L,t,s,Y,hln,ht,M,htk,hz,N,h1,h2,hl,Q,T,hR=>by
  show gO xS ?_;rw[eK mT _];change aW _ A.in1 (kt (.ref z)>>=_) _ _ s;show ah (Wb (A:=A.in1) hh D hz N h1 h2 hl Q (ji (by simp at Y;lk)) λp he=> ?_);change aW _ A.in1 (zd S []>>=_) _ _ _;show ah (am (am ?_));let C:sK h0 p:=λb o e c=>by
   let lt:=aI e;show he b o (bw (bu lt g.1)) (bw (bu lt g.2.1)) (bw (bu lt g.2.2.1)) (bw (bu lt g.2.2.2.1)) (htk b o e c)
  show hR p s.toks (DQ T (λo e=>he S o d.1 d.2.2.1 d.2.2.2.1 d.2.2.2.2.1 e) λy x=>nO C (M y x)) λb o _ b1 b2 b3 b4 e=>he b o b1 b2 b3 b4 e
 |q::r,k,h,L,t,s,Y,hln,ht,M,htk,hz,N,h1,h2,hl,Q,T,hR=>by
  let⟨hx,x,hk⟩:=ht 0 q J;rw[aN] at Y hln;show gO xS ?_;rw[eK mT _];change aW _ A.in1 (kt (.ref z)>>=_) _ _ s;show ah (Tl (A:=A.in1) D hz N h1 h2 hl Q (by simpa using hx) (by simpa using x) λg1 z1 i1 j1 t1 B=> ?_);let tk1:sK h0 g1:=λb o e c=>by
   let lt:=aI e;show B b o (bw (bu lt g.1)) (bw (bu lt g.2.1)) (bw (bu lt g.2.2.1)) (bw (bu lt g.2.2.2.1)) (htk b o e c)
  let hd1:g1.DictOfH (fC prog w) S h:=DQ T (λo e=>B S o d.1 d.2.2.1 d.2.2.2.1 d.2.2.2.2.1 e) λy x=>nO tk1 (M y x);let hSl:S<s.heap.objs.size:=by let(o,_,_,e,_):=T;show aI e
  show ah (dD ?_);show ah (aaO ?_);unfold AN;show ah (rR (_,t1,J) ?_);rw[aH (by first|decide|rfl|simp)];show ah (fV t1 J (am ?_));show dD (AY (show A.units+1+64<fF by lk) (nO tk1 hk) hd1 (λg2 d2 f=> ?_) (by lk));let aaV:∀y∈nH h q.1 q.2.1 q.2.2,jB prog w h0 y.1 y.2.1:=λy x=>by
   rcases Kq x with⟨H,I⟩|⟨u,hu',H,I⟩
   ·rw[H,I];show hk
   ·rw[H,I];show M u hu'
  let tk2:sK h0 g2:=λb o e c=>by
   let lt:=aI e;show f.extBut _ _ (bw (bu lt g.2.2.2.2)) (tk1 b o e c)
  let zne:∀a u v,iN g1 a u v->a≠S:=λa u v e c=>by
   let⟨od,_,_,H,I,_⟩:=hd1;unfold iN at e;rw[c,H] at e;cases e;let:=I.1;simp at this
  let z2:ZSt g2 z P O:=by
   rcases z1 with⟨a1,u,v,U⟩|⟨a,aa7,u,v,a1,U⟩
   ·show .inl (f.extBut _ _ d.1.symm a1,u,v,f.extBut _ _ d.2.2.1.symm U)
   ·show .inr (a,aa7,u,v,f.extBut _ _ d.1.symm a1,f.extBut _ _ (zne a u v U) U)
  let l1:=hl.at λo e=>B _ _ D.l1z D.l1TO D.l1i1 D.l1i2 e;let m1:=Q.at λo e=>B _ _ D.l2z D.l2TO D.l2i1 D.l2i2 e;show am (iW mT _,E7 hu hh D g d hly r (k+1) (nH h q.1 q.2.1 q.2.2) (L+1) 0 _ (show xs.size=k+1+r.length by lk) ?_ (λn q' e=> ?_) aaV tk2 z2 (f.extBut _ _ d.2.1.symm (B _ _ D.TIz D.TITO D.TIi1 D.TIi2 N))
   (i1.at λo e=>f.extBut _ _ d.2.2.2.1.symm e) (j1.at λo e=>f.extBut _ _ d.2.2.2.2.1.symm e) (l1.at λo e=>f.extBut _ _ d.2.2.2.2.2.1.symm e) (m1.at λo e=>f.extBut _ _ d.2.2.2.2.2.2.symm e) d2 λp C hd' kk=> ?_)
  ·let:=Aj h q.1 q.2.1 q.2.2
   lk
  ·let:=ht (n+1) q' (by simpa using e)
   rw[show k+1+n=k+(n+1) by lk];show this
  ·show hR p C hd' λc oc c1 c2 c3 c4 c5 e=>kk c oc c1 c2 c3 c4 c5 (f.extBut c oc c1 (B c oc c2 c3 c4 c5 e))
def ER(hu:A.units+67<fF)(L:A.handled=au)(r:∀b o,d.get? b=ag o->s.heap.get? b=ag o)(t:s.heap.objs.size=d.objs.size+5)
  (u:AK s.heap (d.objs.size+4) (d.objs.size+2) (d.objs.size+3) .none)(hP:iN s.heap (d.objs.size+2) (.ref d.objs.size) (.ref (d.objs.size+1)))(hO:iN s.heap (d.objs.size+3) .none .none)(M:s.heap.IsListIter d.objs.size v 0)(N:s.heap.IsListIter (d.objs.size+1) x 0)
  (hl:d.IsList v y)(T:d.IsList x B)(hxs:y.size=prs.length)(hys:B.size=prs.length)(hln:prs.length<=bf)
  (ht:∀(n:Nat) q,prs[n]?=ag q->y[n]?=ag (.ref q.2.1)/\B[n]?=ag q.2.2/\jB prog w d q.1 q.2.1)
  (h:∀p C,p.DictOfH (fC prog w) (d.objs.size+5) (o0 [] prs)->(∀b o,d.get? b=ag o->p.get? b=ag o)->Q (.ref (d.objs.size+5)) {s with heap:=p,toks:=C}):
  aW (bp prog w) A (call (.type "dict") [.ref (d.objs.size+4)]) Q E s:=by
 show aaZ (Q₁:=λU Y=>U=.ref s.heap.objs.size/\Y={s with heap:=s.heap.push {cls:=.type "dict",data:=.dict #[]}}) E1 (A8 _) EB (X5 _ (J,J)) ?_;rintro U Y ⟨rfl,rfl⟩;let D:(s.heap.push {cls:=.type "dict",data:=.dict #[]}).DictOfH (fC prog w) s.heap.objs.size []:=F7 s.heap;let H:∀b o,s.heap.get? b=ag o->(s.heap.push {cls:=.type "dict",data:=.dict #[]}).get? b=ag o:=λb o e=>al _ e;show(D.typeIs,Es _ _,?_);unfold AM;show ah ?_;unfold zb;show ah (iG D.typeIs ?_);show am ?_;change aW _ _ (mD "dict.__init__" s.heap.objs.size (.ref (d.objs.size+4)) [] .none) _ _ _;unfold mD;show ah (rR (_,H _ _ u,J) ?_);rw[aH (by first|decide|rfl|simp)];show ah (Rh (H _ _ u) L λg1 tk1 hk1=> ?_);rw[aH (show(au:ae aE).isNone=aC from rfl)];show ah (jp ?_);let f:∀b o,s.heap.get? b=ag o->g1.get? b=ag o:=λb o e=>hk1 _ _ (H _ _ e);show ah (EU (f _ _ u) ?_);let hll:v<d.objs.size:=by let⟨o,e,_⟩:=hl;show aI e
 let hml:x<d.objs.size:=by let⟨o,e,_⟩:=T;show aI e
 let k:∀b c,b<d.objs.size->d.objs.size<=c->b≠c:=λb c M N=>by lk
 let key:=E7 (A:=A.in1) (R:=wants (λaa5 aa7=>aa5=.none/\Q (.ref s.heap.objs.size) aa7) E) (S:=s.heap.objs.size) (z:=d.objs.size+4) (P:=d.objs.size+2) (O:=d.objs.size+3) (i:=d.objs.size) (j:=d.objs.size+1) (l:=v) (m:=x) (xs:=y) (ys:=B) (res:=dJ) (h0:=d) (show A.units+1+66<fF by lk) L
  (J1 d.objs.size v x hll hml) (by rw[t];show(cI _ _,cI _ _,aS _,cI _ _,cI _ _)) (by
   rw[t];let g:∀(n a b:Nat),a≠b->n+a≠n+b:=λn a b h=>by lk
   show(g _ 5 4 (by decide),g _ 5 2 (by decide),g _ 5 3 (by decide),g _ 5 0 (by decide),g _ 5 1 (by decide),(k _ _ hll (cI _ _)).symm,(k _ _ hml (cI _ _)).symm)) (by lk) prs 0 [] 0 0 {s with heap:=g1,toks:=tk1} (by rw[hxs,gE]) (by rw[dS,gE];show hln)
  (λn q e=>by rw[gE];show ht n q e) (λabb I=>nomatch I) (sK.Bp λb o e=>f _ _ (r _ _ e)) (.inl (f _ _ u,_,_,f _ _ hO)) (f _ _ hP) (M.at λo e=>f _ _ e) (N.at λo e=>f _ _ e)
  (hl.at λo e=>f _ _ (r _ _ e)) (T.at λo e=>f _ _ (r _ _ e)) (DQ D (λo e=>hk1 _ _ e) λabb I=>nomatch I)
  (λp C hd' abc=>(J,by
   rw[t] at hd'⊢;show h p C hd' λb o e=>by
    let lt:=aI e;show abc b o (by rw[t];show k _ _ lt (cI _ _)) (k _ _ lt (cI _ _)) (k _ _ lt (cI _ _)) (k _ _ lt (aS _)) (k _ _ lt (cI _ _)) (f _ _ (r _ _ e))))
 first
  |show am (iW mT _,key)
  |show ah (am (am (iW mT _,key)))
end
def Qh(K:aq)(h:TA):TE:=λi H Q=>h i H λj c=>∃a b e g f,j=[.ref a,.ref b]/\eE K c a (e.map V.ref)/\eE K c b f/\e.length=f.length/\fG (λk (p:az)=>jo c k p) g e/\
 ∀d,c d=au->Q (.ref d) (bD c d (.dT (kE [] (g.zip f))))
section
variable{X:Cx}
def Tn(I:L2.Inv X o v H s):∀{f:aa (aa NK)} {a:aa az} {b:aa V} {d:aa aE},fG (λk (p:az)=>jo H k p) f a->eD b d->a.length=b.length->
  ∃c:aa (aa NK×az×aE),KT H (f.zip b) c/\c.length=a.length/\∀(n:Nat) q,c[n]?=ag q->a[n]?=ag q.2.1/\d[n]?=ag q.2.2/\jB X.prog X.w s.heap q.1 q.2.1:=by
 intro f a b d z;induction z generalizing b d with
 |nil=>
  intro z e;cases z with
  |nil=>show([],.nil,J,λn q e=>by simp at e)
  |cons _ _=>simp at e
 | @cons k p _ _ h t g=>
  intro z e;cases z with
  |nil=>simp at e
  | @cons _ u _ _ i j=>
   let⟨c,r,hl,l⟩:_:=g j (by simpa using e);show(#[k,p,u]::c,.cons (J,h,i) r,by rw[aN,aN,hl],λn q e=> ?_);cases n with
   |zero=>
    let m: #[k,p,u]=q:=aJ e;subst m;show(J,J,og I.fe h)
   |succ n=>simpa using l n q (by simpa using e)
def Le(x:X.A.units+67<fF)(y:X.calm=aC)(z:Gl X "dict")(B:X.mg "dict"=au)(C:Gl X "zip")(D:X.mg "zip"=au)(L:PA X [e,a] M)
  (N:bU [e,a] X.env= #[aA,eval e X.env]::bU [a] X.env:=by rfl)(O:(jq d (bU [a] X.env)).any (·.1)=aA:=by rfl)
  (n:bU [.Call (.Name "zip" i) [e,a] [] d] X.env= #[aA,eval (.Call (.Name "zip" i) [e,a] [] d) X.env]::bU [] X.env:=by rfl)(Q:(jq o (bU [] X.env)).any (·.1)=aA:=by rfl):
  PE X (.Call (.Name "dict" abi) [.Call (.Name "zip" i) [e,a] [] d] [] o) (Qh X.K M):=by
 intro T s U H abl I h;show jX (vJ I z B km ?_);show gs ?_ n Q;rw[n];change aW _ _ (spliced (#[aA,eval (.Call (.Name "zip" i) [e,a] [] d) X.env]::jq o (bU [] X.env))) _ _ s;show dQ ?_;show Call_ (vJ I C D FM (gs (gj (L d T s U H _ I h) λus f (vs,j,b,Y,k)=> ?_) N O));let⟨abm,aav,ps,g,c,ex,hqx,hqy,aaE,aaG,aaV⟩:_:=k;subst ex;cases Y with
 |cons aa0 l=>
  cases l with
  |cons r' l=>
   cases l;cases aa0;cases r';let⟨its,rv,p,q⟩:_:=b.list hqx;let⟨abo,r,t,hz2⟩:_:=b.list hqy;let ei:=yh rv;subst ei;rw[ao] at q;let⟨m,u,hl,hpr⟩:_:=Tn b aaG r aaE;let hl2:=r.length;show call_zip_2 p.isList t.isList λh' hz hP hO h1 h2 hsz hk=> ?_;show gf ?_;show ER (prs:=m) x (b.ok.hd y) hk hsz hz hP hO h1 h2 p.isList t.isList (by simp[hl]) (by simp;lk) (by lk) (λaa7 q' e=> ?_) λh2' tk hd' abc=> ?_
   ·let⟨e1,a,e3⟩:_:=hpr aa7 q' e
    show(by simp[e1],by simpa using a,e3)
   ·let abd:(f.heap.objs.size+5==dM)=aA:=beq_eq_false_iff_ne.mpr (cZ (bu b.VH (cI _ _)))
    let abe:(kE [] (g.zip c)).length<=bf:=by
     show bC (qB _ []) ?_;rw[dS,gE,c9 u,hl];show q
    let v:j (f.heap.objs.size+5)=au:=b.fe.fresh (cI _ _);let abh:KT (bD j (f.heap.objs.size+5) (.dT (kE [] (g.zip c)))) (kE [] (g.zip c)) (o0 [] m):=(KT.merge u .nil).keeps λaav c e=>by rw[aZ (bI e v)];show e
    let⟨k,es,ep,g1,g2,g3,g4,_,g5⟩:_:=hd';show(.ref (f.heap.objs.size+5),bD j (f.heap.objs.size+5) (.dT (kE [] (g.zip c))),b.pL abc (cI _ _) (show fP X.prog X.w _ _ _ (.dT (kE [] (g.zip c))) from(abe,abd,o0 [] m,abh,k,es,ep,g1,g2,g3,g4,g5)),J,aaV _ v)
end
open PySem.W mY PyProof.Rows.G
section
universe b
def Qp{vs:aa aE}(hl:s.heap.IsList l vs.toArray)(c:vs.length<=bf)
  (h:∀a:cT,s.heap.objs.size<a.objs.size->(∀b o,s.heap.get? b=ag o->a.get? b=ag o)->
   aW (bp prog w) A.in1.in1 (yJ a.objs.size (.ref q) aA) (λd f=>d=.done (.ret .none)/\Q (.ref a.objs.size) f) (λ_ _=>False) {s with heap:=a.push (eP "list" vs.toArray 0)}):
  aW (bp prog w) A (call (.builtin "sorted") [.ref l] [#[mN "key",.ref q]]) Q E s:=by
 show O1 SD OX OZ (ksk_s1 _ _) ?_;unfold uW;show ah (m:=checkCount "sorted" 1 1 _) (am (ah (collect_list (A:=A.in1) hl ?_ c)));show ah (uP ?_ c);let i:s.heap.objs.size<((s.heap.push (eP "list" #[] 0)).update s.heap.objs.size (iE (·++vs.toArray))).objs.size:=by
  rw[AL,U3];show jC _
 let j:∀b o,s.heap.get? b=ag o->((s.heap.push (eP "list" #[] 0)).update s.heap.objs.size (iE (·++vs.toArray))).get? b=ag o:=λb o e=>by
  rw[fz _ _ _ _ (bw (aI e))];show al _ e
 let g:=h _ i j;generalize(s.heap.push (eP "list" #[] 0)).update s.heap.objs.size (iE (·++vs.toArray))=a at g⊢;let k:(a.push (eP "list" vs.toArray 0)).get? a.objs.size=ag (eP "list" vs.toArray 0):=aG _ rfl;show ah (dD (SX slot_list_sort (_,k,J) entry_list_sort ?body ?args));case args=>show ksk_l1 _ _
 case body=>
  rw[ksk_t1];show eO g (λd f x=> ?_) λ_ _ z=>z.elim;let⟨rfl,x⟩:_:=x;show(_,J,am (_,J,x))
end
structure aaF(name qual x:Str)(params:Arguments)(body:Expr)(scope:Scope)(pm ctv:Value):Prop where
 bind:∀c u,bindArgs (kla_fn name qual params body scope [] pm (.ref c) ctv) ([u],[])=pure [#[x,u]]
 Dd:scope.names.lookup x=some .local
 dbg:(x==("__debug__":Str))=false
 co:scope.isCoroutine=false
 gen:scope.isGenerator=false
 kind:scope.kind=.function
 cell:∀y∈scope.names,y.2≠.cell
section
variable{X:Cx}{pins:La}{Y:L2.St}{H:Hp}{s:br}{A:dG}{E:Vp}
def Av(I:L2.Inv X pins Y H s)(e:H a=ag (.lM C m g))(c:LR X.K C)(n:mM X.K C f)(l:g.lookup f=ag v)
  (h:∀u i,RelV v u->Q u {s with toks:=i}):aW (bp X.prog X.w) A (VY (.ref a) f b) Q E s:=by
 let⟨j,O,r,_,_,_⟩:_:=Bt I.fe e;let⟨u,k,d⟩:_:=nE.wc (v:=v) (o:=j f) (by rw[<-l];show r f);show get_map I.Hq O (c.get f) c.hd n k (FC d) (h u _ d)
def Rq(I:L2.Inv X pins Y H s)
  (u:s.heap.get? f=ag (rT y m z (.Tuple [.Attribute (.Name x B) g D,.Attribute (.Name x M) h N] j O) Q [] T U ctv))(hcd:s.heap.CodeRec (.ref U) m)(aaC:s.heap.NoLimit)(aaE:A.depth<fE)
  (L:aaF y m x z (.Tuple [.Attribute (.Name x B) g D,.Attribute (.Name x M) h N] j O) Q T ctv)(e:H a=ag (.lM C dx n))(c:LR X.K C)(n1:mM X.K C g)(n2:mM X.K C h)(l1:n.lookup g=ag (.int i1))(l2:n.lookup h=ag (.int i2))
  (aaG:∀i d t,(∀b o,s.heap.get? b=ag o->i.get? b=ag o)->P2 i (.ref t) #[i1,i2]->s.heap.objs.size<=t->aaV (.ref t) {s with heap:=i,toks:=d}):aW (bp X.prog X.w) A (call (.ref f) [.ref a]) aaV E s:=by
 show JI (kla_callFunE aaE u J L.co L.gen J hcd ?_);rw[L.bind];show am (Ss L.cell (λaa5 hy=>by rw[bG.mp hy];show L.Dd) (λk p q=> ?_) L.kind);let l:∀b o,s.heap.get? b=ag o->k.get? b=ag o:=λb o e=>q.extBut b o (bw (aI e)) (al _ e);show(aaC.keeps l,kla_codeExpr ?_);let r:∀d,L2.Inv X pins Y H {s with heap:=k,toks:=d}:=λd=>I.nV (t':=d) l;let hsz:s.heap.objs.size<=k.objs.size:=by
  let:=q.1;rw[cV] at this;lk
 show SY ?_;show dQ (Hb J (wJ (mZ L.kind L.Dd p (v:=.ref a) (by simp[j8]) ?_) L.dbg));show Av (r _) e c n1 l1 λaa7 d ru=> ?_;show dQ (Hb J (wJ (mZ L.kind L.Dd p (v:=.ref a) (by simp[j8]) ?_) L.dbg));show Av (r _) e c n2 l2 λu' tk' ru'=> ?_;let⟨t1,rfl⟩:=ru;let⟨t2,rfl⟩:=ru';show gf (by change 2<=bf;decide,?_);show aaG _ _ _ (λb o e=>al _ (l b o e)) (_,_,_,t1,t2,J,aG _ rfl,J,J) hsz
end
def rl(a:aa (Int×Int))(i:Int×Int):Nat:=(a.filter λj=>decide (sC j i)).length
def Fy(h:sC i j)(a:sC j k):sC i k:=by unfold sC at*;lk
def Lo(i:Int×Int):¬sC i i:=by unfold sC;lk
def Uu(i j:Int×Int):sC i j\/i=j\/sC j i:=by
 let⟨a,b⟩:=i;let⟨c,d⟩:=j;unfold sC;simp![Et];lk
def QH(h:¬sC j i):rl c i<=rl c j:=by
 let imp:∀k,sC k i->sC k j:=λk d=>by
  rcases Uu i j with z|z|z
  ·show Fy d z
  ·rw[<-z];show d
  ·show absurd z h
 unfold rl;induction c with
 |nil=>show aS _
 |cons k l a=>
  rw[gL,gL];by_cases b:sC k i
  ·rw[aH (decide_eq_true b),aH (decide_eq_true (imp k b))]
   show pD a
  ·rw[aD (by simpa using b)]
   by_cases e:sC k j
   ·rw[aH (decide_eq_true e)]
    show Py a
   ·rw[aD (by simpa using e)]
    show a
def Iy(d:i∈is)(h:sC i j):rl is i<rl is j:=by
 let e:∀l:aa (Int×Int),(l.filter λk=>decide (sC k i)).length<=(l.filter λk=>decide (sC k j)).length/\(i∈l->(l.filter λk=>decide (sC k i)).length<(l.filter λk=>decide (sC k j)).length):=by
  intro l;induction l with
  |nil=>show(aS _,λz=>nomatch z)
  |cons k l a=>
   rw[gL,gL];by_cases b:sC k i
   ·let c:=Fy b h
    rw[aH (decide_eq_true b),aH (decide_eq_true c)];show(pD a.1,λz=> ?_);rcases aT.mp z with z|z
    ·show absurd (by rw[<-z] at b;show b) (Lo i)
    ·show Nat.succ_lt_succ (a.2 z)
   ·rw[aD (by simpa using b)]
    by_cases c:sC k j
    ·rw[aH (decide_eq_true c)]
     show(Py a.1,λz=>Ad a.1)
    ·rw[aD (by simpa using c)]
     show(a.1,λz=> ?_);rcases aT.mp z with z|z
     ·show absurd (by rw[<-z];show h) c
     ·show a.2 z
 show(e is).2 d
def NU(b:i∈a):decide (rl a i<rl a j)=decide (sC i j):=by
 by_cases c:sC i j
 ·rw[decide_eq_true c,decide_eq_true (Iy b c)]
 ·rw[decide_eq_false c,decide_eq_false (Nat.not_lt.mpr (QH c))]
def Iz(a:aa (Int×Int))(i:Int×Int):rl a i<a.length+1:=Ad (eY _ _)
open Classical in
noncomputable def Yr (h:cT) (a:aa (Int×Int)) (v:aE):ae Nat:=if c:∃i∈a,P2 h v i then ag (rl a c.choose) else au
def WG(b:i∈a)(p:P2 h v i):Yr h a v=ag (rl a i):=by
 unfold Yr;let c:∃i∈a,P2 h v i:=(i,b,p);rw[dif_pos c];rw[c.choose_spec.2.fun p]
def Cy(e:Yr h a v=ag r):∃i∈a,P2 h v i/\r=rl a i:=by
 unfold Yr at e;split at e
 ·rename_i c
  show(_,c.choose_spec.1,c.choose_spec.2,(aJ e).symm)
 ·cases e
inductive QL(K:aq)(m n:aa V)(H:Hp)(Q:VK):Prop|mk:∀(l f c C:az) (g:aa az) (b:az->Int×Int) (o h x d e:cX) (p:so) (q:nh) (r t u v B:pW) (j:Nat) (I L:aE),m=[.ref l]->n=[.ref f]->eE K H l (g.map V.ref)->H f=ag (AV f (rT o h p (.Tuple [.Attribute (.Name x r) d t,.Attribute (.Name x u) e v] j B) q [] I c L))->H c=ag (qK c h)->aaF o h x p (.Tuple [.Attribute (.Name x r) d t,.Attribute (.Name x u) e v] j B) q I L->LR K C->mM K C d->mM K C e->(∀a∈g,∃M i,H a=ag (.lM C M i)/\i.lookup d=ag (.int (b a).1)/\i.lookup e=ag (.int (b a).2))->(∀D (k:aa az),H D=au->k.Perm g->k.Pairwise (λy z=>¬sC (b z) (b y))->Q (.ref D) (bD H D (.bZ (k.map V.ref))))->QL K m n H Q
section
variable{X:Cx}
theorem Sd:∀{a:aa aE} {b:aa (Int×Int)},a.length=b.length->(∀(i:Nat) v k,a[i]?=ag v->b[i]?=ag k->P2 h v k)->yR h a b
 |[],[],_,_=>.nil
 |[],_::_,e,_=>by simp at e
 |_::_,[],e,_=>by simp at e
 |v::a,i::b,e,c=>.cons (c 0 v i J J) (Sd (by simpa using e) λn v k d f=>c (n+1) v k (by simpa using d) (by simpa using f))
def LJ(abE:X.calm=aC)(abN:X.A.depth+2<fE):LS X (.builtin "sorted") [mN "key"] (QL X.K):=by
 intro pins s Y H ab6 zs us ws aav I rx rz q;let⟨aa1,f,c,acg,d,p,acm,aa5,act,f1,f2,acw,acy,p1,p2,p3,p4,p5,aa7,pm,ctv,rfl,rfl,hL,hf,hc,abb,cl,n1,n2,abc,q⟩:=q;let⟨acV,eu,ru⟩:=vals1 rx;let⟨w',ew,rw'⟩:=vals1 rz;subst eu ew;cases ru;cases rw';let⟨its,rv,pl,M⟩:=I.list hL;let ei:=yh rv;subst ei;rw[ao] at M;let abe:=(show fP X.prog X.w H s.heap f (AV f _) from I.fe f _ hf).1;let code:=(show fP X.prog X.w H s.heap c (qK c aa5) from I.fe c _ hc).1;change aW _ _ (call (.builtin "sorted") [.ref aa1] [#[mN "key",.ref f]]) _ _ _;show Qp (vs:=d.map aK) pl.isList (by rw[ao];show M) λu k0 k1=> ?_;let hD:(u.push (eP "list" (d.map aK).toArray 0)).get? u.objs.size=ag (eP "list" (d.map aK).toArray 0):=aG _ rfl;let hsz:(u.push (eP "list" (d.map aK).toArray 0)).objs.size=u.objs.size+1:=cV ..;let T:∀B:br,mY.St [u.objs.size] {s with heap:=u.push (eP "list" (d.map aK).toArray 0)} B->∃n x,B={s with heap:=n,toks:=x}/\∀j g,u.get? j=ag g->n.get? j=ag g:=λB S=>by
  let⟨h2,x,rfl,k⟩:=S;show(h2,x,J,λj g e=>k j g (λz=>bw (aI e) (bG.mp z)) (al _ e))
 show KC (b:=aC) (m:=d.length+1) (rs:=d.map λl=>rl (d.map p) (p l)) (vs:=d.map aK) (λi k aaC=>∃l t,d[i]?=ag l/\k=.ref t/\u.objs.size+2<t/\P2 aaC (.ref t) (p l)) hD (by rw[ao];show M) ?_ ?_ ?_ ?_ ?_
 ·rintro i k aaC n ⟨l,t,D,rfl,C,N⟩ kk
  show(l,t,D,J,C,?_);let⟨j,g,abh,t1,t2,eb,ho,r⟩:=N;cases eb;show(t,g,abh,t1,t2,J,kk t g (cZ (by lk)) (cZ (by change(u.push _).objs.size+1<t;rw[hsz];lk)) ho,r)
 ·intro i v hv B S U
  rw[aF] at hv;let⟨l,ha,rfl⟩:=bv.mp hv;let⟨n,x,rfl,k⟩:=T B S;let kk:∀j g,s.heap.get? j=ag g->n.get? j=ag g:=λj g e=>k j g (k1 j g e);let⟨dx,fs,y,g2,L⟩:=abc l (bg ha);show Rq (I.nV (t':=x) kk) (kk _ _ abe) (code.keeps kk) (I.nolimit.keeps kk) ?_ abb y cl n1 n2 g2 L λh3 tk3 t k3 p3 ht=> ?_
  ·first
    |(change X.A.depth<fE;lk)
    |(change X.A.depth+1<fE;lk)
    |(change X.A.depth+1+1<fE;lk)
  ·show((l,t,ha,rfl,?_,p3),h3,tk3,rfl,k3)
   let abl:=U;rw[hsz] at abl;let ht':=ht;lk
 ·intro ks B S hkl hks
  rw[ao] at hkl;let⟨n,x,rfl,k⟩:=T B S;let hp:yR n ks (d.map p):=Sd (by rw[ao];show hkl) λi v i2 D C=>by
   let⟨l,t,y,rfl,_,L⟩:=hks i v D;rw[aF,y] at C;cases C;show L
  show(Yr n (d.map p),λh2 aav q=> ?_,λΓ hΓ=>(λv r e=> ?_,λaaV z i aa7 abn aav ey ez q=> ?_),?_)
  ·let⟨fs,hfs,hfl⟩:=hp.tups
   show tup_kind (s:={s with heap:=n,toks:=x}) (by rw[hfl];lk) hfs q
  ·let⟨i,_,_,rfl⟩:=Cy e
   let:=Iz (d.map p) i;rw[ao] at this;show this
  ·let⟨i1,m1,q1,rfl⟩:=Cy ey
   let⟨i2,m2,q2,rfl⟩:=Cy ez;rw[NU m1] at q;let:=tupC_ltAt (prog:=X.prog) (w:=X.w) (s:={s with heap:=n,toks:=x}) (h:=n) (shape:=Vm) aC (λj g e _=>e) X.A.in1.in1 (λ_ _=>False) aaV z _ _ (Q:=λc s2=>c=decide (sC i1 i2)/\s2={s with heap:=n,toks:=x}) q1.key q2.key (aaa i2 i1,rfl) Γ abn hΓ;show r9 _ _ _ ?_ ?_ _ _ this
   ·rintro c p' s2 ⟨rfl,rfl⟩
    show q p'
   ·showλ_ _ _ z=>z.elim
  ·apply j9
   intro i;rw[aF,df,aF];cases e:ks[i]? with
   |none=>
    let:d[i]?=au:=b8 (by let:=List.getElem?_eq_none_iff.mp e;lk);rw[this];rfl
   |some v=>
    let⟨l,t,y,rfl,_,L⟩:=hks i v e;rw[y];change ag (Yr n (d.map p) (.ref t))=ag (ag _);rw[WG (dm (bg y)) L]
 ·intro r hr
  let⟨l,_,rfl⟩:=aY.mp hr;let:=Iz (d.map p) (p l);rw[ao] at this;show this
 ·intro B out c2 ps S D C N e4
  let ez:(d.map λl=>rl (d.map p) (p l)).zip (d.map aK)=d.map λl=> #[rl (d.map p) (p l),aK l]:=by
   rw[List.zip_map']
  rw[ez] at N;let⟨O,y,rfl⟩:=sB N;let⟨n,x,rfl,k⟩:=T B S;let kk:∀j g,s.heap.get? j=ag g->n.get? j=ag g:=λj g e=>k j g (k1 j g e);let hfr:=I.fe.fresh (hJ k0);show(rfl,.ref u.objs.size,_,I.pL (t':=x) (a:=u.objs.size) (o:=.bZ (O.map V.ref)) kk (hJ k0) (?_,O.map aK,c2,sw _,?_),rfl,q _ O hfr y ?_)
  ·rw[ao,y.length_eq];show M
  ·let e5:out=(O.map aK).toArray:=by
    rw[<-pF (xs:=out),C,df];rfl
   rw[<-e5];show D
  ·let e6:=bN.mp e4
   show jD ?_ e6;intro aaV z hy hz' hle U;let:=Iy (is:=d.map p) (dm (y.mem_iff.mp hz')) U;show gY _ (bu this hle)
end
end LX
namespace jW
open PySem PySem.Spec PyProof.Rows L2 LX fq SM HT
abbrev Act:=Sw58.Act
abbrev Id:=Sw58.Id
abbrev Place:=nU
abbrev k9:=Sw58.Key
abbrev uO:=Sw58.Val
def VN(CA:az):HO->Prop
 | .dC _=>True
 | .lH _ _=>True
 | .ext _=>True
 | .lM C _ a=>C=CA/\a.length=6
 |_=>False
def Grows(CA:az)(H U:Hp):Prop:=∀b o,H b=ag o->VN CA o->U b=ag o
def Grows.refl:Grows CA H H:=λ_ _ h _=>h
def Grows.trans(a:Grows CA H d)(b:Grows CA d e):Grows CA H e:=λc o h i=>b c o (a c o h i) i
def Grows.new(h:H a=au):Grows CA H (bD H a o):=λb u e _=>by rw[aZ (bI e h)];show e
def Grows.put(h:H a=ag u)(n:¬VN CA u):Grows CA H (bD H a o):=λb c e i=>by
 rw[aZ (λz=>by subst z;rw[h] at e;cases e;show n i)];show e
def _root_.L2.bB.grows(s:bB H U):Grows CA H U:=λb o h _=>s b o h
theorem Grows.dC(g:Grows CA H U)(h:H b=ag (.dC a)):U b=ag (.dC a):=g b _ h trivial
theorem Grows.lH(g:Grows CA H U)(h:H b=ag (.lH o u)):U b=ag (.lH o u):=g b _ h trivial
def Grows.pI(g:Grows CA H U)(h:jo H k a):jo U k a:=h.bA λ_ _ e=>g.dC e
def _root_.L2.bB.new(h:H a=au):bB H (bD H a o):=λb u e=>by rw[aZ (bI e h)];show e
def _root_.L2.bB.put(S:bB H U)(hl:H l=au):bB H (bD U l o):=λc u e=>by rw[aZ (bI e hl)];show S c u e
def _root_.L2.bB.add(S:bB H U)(a:U t=au):bB H (bD U t o):=S.trans (bB.new a)
def _root_.L2.bB.pI(g:bB H U)(h:jo H k a):jo U k a:=h.bA λ_ _ e=>g _ _ e
def eW(H:Hp)(a:az)(i:Id):Prop:=H a=ag (.dC [.int (i.1:Int),.int (i.2:Int)])
def iL(i:Id):aa NK:=[.inl (i.1:Int),.inl (i.2:Int)]
def eW.key(h:eW H a i):jo H (iL i) a:=(_,h,.cons rfl (.cons rfl .nil))
def Ru(h:jo H (iL i) a):eW H a i:=by
 let⟨d,e,p⟩:=h;cases p with
 |cons b p=>
  cases p with
  |cons c p=>
   cases p;cases(show _=V.int _ from b);cases(show _=V.int _ from c);show e
def jE(h:iL i=iL j):i=j:=by
 unfold iL at h;simp![dL,qU,and_true] at h;show gX (by let:=h.1;lk) (by let:=h.2;lk)
def iD(H:Hp)(a:az)(p:Place):Prop:=jo H (p.map PL.oP) a
def kk:k9->aa NK
 |[k,h,n]=>[.inl (k:Int),.inr [(h:Int),(n:Int)]]
 |[k,h,n,a,b]=>[.inl (k:Int),.inr [(h:Int),(n:Int)],.inr [(a:Int),(b:Int)]]
 |_=>[]
def zE(k h n:Nat):kk [k,h,n]=[.inl (k:Int),.inr [(h:Int),(n:Int)]]:=rfl
def wm(r c:Id):kk (bK r c)=[.inl (4:Int),.inr [(r.1:Int),(r.2:Int)],.inr [(c.1:Int),(c.2:Int)]]:=rfl
def yI(k:k9):Prop:=(∃a h n,a<4/\k=[a,h,n])\/∃r c,k=bK r c
def zF(e:yI k)(f:yI j)(h:kk k=kk j):k=j:=by
 rcases e with⟨a,x,n,_,rfl⟩|⟨r,c,rfl⟩<;>rcases f with⟨g,i,l,_,rfl⟩|⟨m,o,rfl⟩
 ·rw[zE,zE] at h
  simp![dL,qU,Pu,and_true] at h;let⟨p,q,s⟩:=h;let b:a=g:=by lk
  let d:x=i:=by lk
  let t:n=l:=by lk
  rw[b,d,t]
 ·rw[zE,wm] at h
  simp at h
 ·rw[zE,wm] at h
  simp at h
 ·rw[wm,wm] at h
  simp![dL,qU,Pu,and_true,true_and] at h;let⟨⟨p,q⟩,s,u⟩:=h;let b:r=m:=gX (by lk) (by lk);let d:c=o:=gX (by lk) (by lk);rw[b,d]
def om.Yv(h:SM.om b M k v):yI k:=by
 cases h with
 |place a i v d _ _=>show .inl (2*a,i.1,i.2,by lk,J)
 |gone a i t d=>show .inl (2*a+1,i.1,i.2,by lk,J)
 |cell r c v _=>show .inr (r,c,J)
inductive jh(H:Hp):uO->Addr->Prop
 |none {t}:H t=some (.dC [.int 0])->jh H [0] t
 |num {t} (z:Int):H t=some (.dC [.int 1,.int z])->jh H [1,z] t
 |Jy {t a1 a2 a3 a4} (r c s d:Id):H t=some (.dC [.int 2,.ref a1,.ref a2,.ref a3,.ref a4])->eW H a1 r->eW H a2 c->eW H a3 s->eW H a4 d->
   jh H [2,(r.1:Int),(r.2:Int),(c.1:Int),(c.2:Int),(s.1:Int),(s.2:Int),(d.1:Int),(d.2:Int)] t
 |cell {t a1 a2} (a k:Int) (r c:Id):H t=some (.dC [.int 3,.int a,.ref a1,.ref a2,.int k])->eW H a1 r->eW H a2 c->
   jh H [3,a,(r.1:Int),(r.2:Int),(c.1:Int),(c.2:Int),k] t
inductive mX(H:Hp):k9->uO->V->Prop
 |place {axis h n t} {p:Place}:axis<2->iD H t p->mX H [2*axis,h,n] (Sw58.placeVal p) (.ref t)
 |gone {axis h n} (b:Bool):axis<2->mX H [2*axis+1,h,n] [if b then 1 else 0] (.bl b)
 |cell {r c:Id} {v t}:jh H v t->mX H (Sw58.cellKey r c) v (.ref t)
section
variable{CA:az}{H U:Hp}
def eW.bA(g:Grows CA H U)(h:eW H a i):eW U a i:=g.dC h
def iD.bA(g:Grows CA H U)(h:iD H a p):iD U a p:=g.pI h
theorem jh.bA(g:Grows CA H U)(h:jh H v a):jh U v a:=by
 cases h with
 |none h=>show .none (g.dC h)
 |num z h=>show .num z (g.dC h)
 |Jy r c s d h b e f i=>show .Jy r c s d (g.dC h) (b.bA g) (e.bA g) (f.bA g) (i.bA g)
 |cell a k r c h b e=>show .cell a k r c (g.dC h) (b.bA g) (e.bA g)
theorem mX.bA(g:Grows CA H U)(h:mX H k v x):mX U k v x:=by
 cases h with
 |place a h=>show .place a (h.bA g)
 |gone b a=>show .gone b a
 |cell h=>show .cell (h.bA g)
end
def xF(H:Hp)(a:aa (k9×uO))(b:aa (aa NK×V)):Prop:=SM.bL (λw q=>q.1=kk w.1/\mX H w.1 w.2 q.2) a b
def JA(x:Act)(a b:az):aa (cX×V):=[#["kind",.int (x.kind:Int)],#["hand",.int (x.hand:Int)],#["number",.int (x.number:Int)],#["time",.int (x.time:Int)],#["knows",.ref a],#["writes",.ref b]]
inductive aaM(CA:az)(H:Hp)(v:V)(x:Act):Prop|mk:∀a e b c f d,v=.ref a->H a=ag (.lM CA e (JA x b c))->H b=ag (.dC (x.knows.map λ(n:Nat)=>V.int (n:Int)))->H c=ag (.lH f (.dT d))->xF H x.writes d->aaM CA H v x
structure gP(CA:Addr)(H:Hp)(v:V)(x:Act):Prop where
 at_:aaM CA H v x
def bL.imp{R S:c->d->Prop}(f:∀a b,R a b->S a b):∀{l:aa c} {m:aa d},SM.bL R l m->SM.bL S l m:=by
 intro _ _ z;induction z with
 |nil=>
  show .nil
 |cons h t e=>
  show .cons (f _ _ h) (e)
theorem bL.length:∀{l:aa b} {m:aa c},SM.bL R l m->l.length=m.length:=by
 intro _ _ z;induction z with
 |nil=>
  show J
 |cons h t a=>
  rw[aN,aN,a]
def bL.get:∀{l:aa c} {m:aa g},SM.bL R l m->∀{i:Nat} {a:c},l[i]?=ag a->∃b,m[i]?=ag b/\R a b:=by
 intro _ _ z;induction z with
 |nil=>
  intro i a e;simp at e
 |cons h t d=>
  intro f a e;cases f with
  |zero=>
   cases e;show(_,J,h)
  |succ i=>
   simpa using @d i _ (by simpa using e)
def bL.yz:∀{l:aa g} {m:aa c},SM.bL R l m->∀{i:Nat} {b:c},m[i]?=ag b->∃a,l[i]?=ag a/\R a b:=by
 intro _ _ z;induction z with
 |nil=>
  intro i a e;simp at e
 |cons h t d=>
  intro f a e;cases f with
  |zero=>
   cases e;show(_,J,h)
  |succ i=>
   simpa using @d i _ (by simpa using e)
def bL.snoc:∀{l:aa c} {m:aa d} {a:c} {b:d},SM.bL R l m->R a b->SM.bL R (l++[a]) (m++[b]):=by
 intro _ _ _ _ z;induction z with
 |nil=>
  intro r;show .cons r .nil
 |cons h t e=>
  intro r;show .cons h (e r)
theorem bL.dropLast:∀{l:aa b} {m:aa c},SM.bL R l m->SM.bL R l.dropLast m.dropLast:=by
 intro l m z;induction z with
 |nil=>show .nil
 |cons h t a=>
  cases t with
  |nil=>show .nil
  |cons d t=>show .cons h a
theorem xF.bA(g:Grows CA H U)(h:xF H a b):xF U a b:=bL.imp (λ_ _ z=>(z.1,z.2.bA g)) h
theorem gP.bA(g:Grows CA H U)(h:gP CA H v x):gP CA U v x:=by
 let⟨a,b,c,d,f,i,e,j,k,l,m⟩:=h.at_;show(a,b,c,d,f,i,e,g a _ j (J,J),g.dC k,g.lH l,m.bA g)
def xF.val:∀{a:aa (k9×uO)} {b:aa (aa NK×V)},xF H a b->(∀w∈a,yI w.1)->∀{k:k9},yI k->
  (dZ b (kk k)=au/\(a.find? λw=>w.1==k)=au)\/∃v x,dZ b (kk k)=ag x/\(a.find? λw=>w.1==k)=ag #[k,v]/\mX H k v x:=by
 intro _ _ z;induction z with
 |nil=>
  intro _ k _;show .inl (J,J)
 | @cons w q a b h t d=>
  intro ok k c;let⟨e,f⟩:=h;by_cases hw:w.1=k
  ·show .inr (w.2,q.2,jx (by rw[e,hw]),?_,by rw[<-hw];show f)
   rw[eZ];simp[hw];rw[<-hw]
  ·let g:¬q.1=kk k:=λz=>hw (zF (ok w (aQ ..)) c (by rw[<-e];show z))
   rw[iZ g,eZ];let:(w.1==k)=aA:=by simp[hw]
   rw[this];show d (λw hw=>ok w (aM _ hw)) c
def xF.pQ(h:xF H x.writes c)(ok:∀w∈x.writes,yI w.1)(d:yI k):
  (dZ c (kk k)=au/\eM x k=au)\/∃v y,dZ c (kk k)=ag y/\eM x k=ag v/\mX H k v y:=by
 unfold eM;rcases h.val ok d with⟨a,b⟩|⟨v,y,a,b,e⟩
 ·show .inl (a,by rw[b];rfl)
 ·show .inr (v,y,a,by rw[b];rfl,e)
def FT(x:Act)(a b:az):(JA x a b).lookup ("kind":cX)=ag (.int (x.kind:Int)):=rfl
def kI(x:Act)(a b:az):(JA x a b).lookup ("hand":cX)=ag (.int (x.hand:Int)):=by rfl
def kN(x:Act)(a b:az):(JA x a b).lookup ("number":cX)=ag (.int (x.number:Int)):=by rfl
def zS(x:Act)(a b:az):(JA x a b).lookup ("time":cX)=ag (.int (x.time:Int)):=by rfl
def xE(x:Act)(a b:az):(JA x a b).lookup ("knows":cX)=ag (.ref a):=by rfl
def kM(x:Act)(b a:az):(JA x b a).lookup ("writes":cX)=ag (.ref a):=by rfl
def fI(i:Nat):qc:=PySem.Challenge.pw_sheethands_s01_answers.main.body.getD i (.Pass (0,0,0,0))
structure fQ(K:PySem.W.Frag)(mg:Sv)(x:Str)(st:Stmt)(ps:List Str):Prop where
 ex:∃f fd,mg x=some (.ref f)/\XX K x x st f fd/\Binds K fd ps []
structure ip(K:PySem.W.Frag)(C:Addr)(m qual:Str)(st:Stmt)(ps:List Str):Prop where
 ex:∃f fd,OS K C m f/\XX K m qual st f fd/\Binds K fd ps []
section
variable(P:bq)(w:World)(K:aq)(mg:Sv)(base:cT)
structure ig(x:Str)(ps:List Str)(k:Nat)(sp:Sp):Prop where
 ex:∃f fd,mg x=some (.ref f)/\PySem.W.keepIn K (.ref f)=true/\Binds K fd ps []/\FnOk P w K mg base Pj k f fd ps sp
structure eC(C:Addr)(m:Str)(ps:List Str)(k:Nat)(sp:Sp):Prop where
 ex:∃f fd,OS K C m f/\Binds K fd ps []/\FnOk P w K mg base Pj k f fd ps sp
end
section
universe a
def fQ.def{st:qc}(F:fQ K mg x st ps)(S:bM N ps (bo st))(len:∀a H Q E,sp a H Q E->a.length=ps.length)
  (d:∀f c A g s H a Q E,fo k (A.deeper (sQ x (bo st) s.heap.objs.size f c))->sp a H Q E->
   ∃t,JE (DY Pj P w K mg base N x (bo st) f c A g s H E).IM (iB st) t/\t {nx:=λ_ h=>Q .jn h,rt:=Q} (start N a) H):ig P w K mg base x ps (k+1) sp:=by
 let⟨f,i,j,F,b⟩:=F.ex;show(f,i,j,F.kp,b,F.ok S len (d f))
def ip.def{st:qc}(F:ip K C m c st ps)(S:bM N ps (bo st))(len:∀a H Q E,sp a H Q E->a.length=ps.length)
  (g:∀f d A h s H a Q E,fo k (A.deeper (sQ c (bo st) s.heap.objs.size f d))->sp a H Q E->
   ∃t,JE (DY Pj P w K mg base N c (bo st) f d A h s H E).IM (iB st) t/\t {nx:=λ_ i=>Q .jn i,rt:=Q} (start N a) H):eC P w K mg base C m ps (k+1) sp:=by
 let⟨f,j,l,F,b⟩:=F.ex;show(f,j,l,b,F.ok S len (g f))
theorem ig.bA(D:ig P w K mg base x ps j sp)(h:j<=k):ig P w K mg base x ps k sp:=by
 let⟨f,g,a,b,c,d⟩:=D.ex;show(f,g,a,b,c,d.bA h)
end
section
variable{X:Cx}{x m:cX}{ps:aa cX}{k:Nat}{sp:Sp}{e o:fK}{es:aa fK}{t:TA}{ta:TE}{p afG afJ:pW}{C:az}
def dU(D:ig X.prog X.w X.K X.mg X.base x ps k sp)(a:fo k X.A)(b:Gl X x)(c:PA X (e::es) t)(d:(x==("__debug__":cX))=aA:=by decide)(g:bU (e::es) X.env= #[aA,eval e X.env]::bU es X.env:=by rfl)
  (h:(jq afG (bU es X.env)).any (·.1)=aA:=by rfl):PE X (.Call (.Name x p) (e::es) [] afG) (Vl sp [] E0 t):=by
 let⟨f,n,i,j,l,F⟩:=D.ex;show Uf F a b i j l .nil Ft c d g h
def bY(b:PE X o ta)(c:LR X.K C)(D:eC X.prog X.w X.K X.mg X.base C m ps k sp)(d:fo k X.A)(g:PA X (e::es) t)
  (h:bU (e::es) X.env= #[aA,eval e X.env]::bU es X.env:=by rfl)(i:(jq afG (bU es X.env)).any (·.1)=aA:=by rfl)
  (j:eval (.Call (.Attribute o m afJ) (e::es) [] afG) X.env=(do
   let a<-eval o X.env
   yT afJ.atName
   let #[f,first]<-holding [a] (yU a m q)
   JP afG f first (jq afG (bU (e::es) X.env)) (oq afG (jL [] X.env))):=by rfl):
  PE X (.Call (.Attribute o m afJ) (e::es) [] afG) (Md C m sp [] E0 ta t):=by
 let⟨f,r,l,n,F⟩:=D.ex;show Uc b c l F d n .nil Ft g h i j
def IF(b:PE X o ta)(c:LR X.K C)(D:eC X.prog X.w X.K X.mg X.base C m ps k sp)(d:fo k X.A)
  (g:eval (.Call (.Attribute o m afJ) [] [] afG) X.env=(do
   let a<-eval o X.env
   yT afJ.atName
   let #[f,first]<-holding [a] (yU a m j)
   JP afG f first (jq afG (bU [] X.env)) (oq afG (jL [] X.env))):=by rfl):
  PE X (.Call (.Attribute o m afJ) [] [] afG) (Md C m sp [] E0 ta wE):=by
 let⟨f,l,h,i,F⟩:=D.ex;show QR b c h F d i .nil Ft g
end
def lB:(2:Nat)<=bf:=by decide
def BV:(3:Nat)<=bf:=by decide
def eR:(1:Nat)<=bf:=by decide
def iu{a b:Prop}(h:c=aC)(k:a):if c=aC then a else b:=by rw[aH h];show k
def jg{a b:Prop}(h:c=aA)(k:b):if c=aC then a else b:=by rw[aD (by rw[h];simp)];show k
def u64(a:fo k A):A.units+64<fF:=by let:=a.un;lk
def uX(a:fo k A):A.units+65<fF:=by let:=a.un;lk
def Zp(a:fo k A):A.units+67<fF:=by let:=a.un;lk
def u0(a:fo k A):A.units<fF:=by let:=a.un;lk
def u8(a:fo k A):A.units+8<fF:=by let:=a.un;lk
def u10(a:fo k A):A.units+10<fF:=by let:=a.un;lk
def jy(h:n<10000000):n<bf:=by rw[dN];lk
def xw(h:n<10000000):n<=bf:=hJ (jy h)
def Ny(Z:L2.St->Hp->Prop)(b:∀a H,Z a H->D.nx a H)(d:(∀a H,Z a H->D.nx a H)->Kn c f D a H):Kn c f D a H:=d b
def By{K:aq}{ns:aa Int}(h:gg K H a (ns.map V.int)):Dp K H (.ref a) (.tuple (ns.map gz)):=by
 show .dC h ?_;clear h;induction ns with
 |nil=>show .nil
 |cons n ns b=>show .cons (.int n) b
theorem qF:∀a b:aa Int,gT (.tuple (a.map gz)) (.tuple (b.map gz))=decide (a=b)
 |[],[]=>rfl
 |[],_::_=>rfl
 |_::_,[]=>rfl
 |n::a,m::b=>by
  let c:=qF a b;let d:gS (a.map gz) (b.map gz)=decide (a=b):=c;change(gT (.int n) (.int m)&&gS (a.map gz) (b.map gz))=_;rw[d];change((n==m)&&decide (a=b))=_;by_cases f:n=m<;>by_cases g:a=b<;>simp[f,g]
theorem iD.dC(h:iD H a p):∃c:aa az,H a=ag (.dC (c.map V.ref))/\SM.bL (λs b=>H b=ag (.dC [.int s.1,.int (s.2.1:Int),.int (s.2.2:Int)])) p c:=by
 let⟨d,e,g⟩:=h;let i:∀{p:Place} {d:aa V},fG (Se H) (p.map PL.oP) d->∃c:aa az,d=c.map V.ref/\SM.bL (λs b=>H b=ag (.dC [.int s.1,.int (s.2.1:Int),.int (s.2.2:Int)])) p c:=by
  intro p;induction p with
  |nil=>
   intro d q;cases q;show([],J,.nil)
  |cons s p j=>
   intro d q;rw[bi] at q;cases q with
   |cons l n=>
    let⟨c,rfl,f⟩:=j n;let⟨b,rfl,r⟩:=(show∃b,_=V.ref b/\H b=ag (.dC (([s.1,(s.2.1:Int),(s.2.2:Int)]:aa Int).map V.int)) from l);show(b::c,J,.cons r f)
 let⟨c,rfl,f⟩:=i g;show(c,e,f)
def Gn:∀{p:Place} {a:aa az},SM.bL (λs b=>H b=ag (.dC [.int s.1,.int (s.2.1:Int),.int (s.2.2:Int)])) p a->fG (Se H) (p.map PL.oP) (a.map V.ref):=by
 intro _ _ z;induction z with
 |nil=>
  show .nil
 |cons h t c=>
  show .cons (_,J,h) (c)
def iD.of(e:H a=ag (.dC (c.map V.ref)))(h:SM.bL (λs b=>H b=ag (.dC [.int s.1,.int (s.2.1:Int),.int (s.2.2:Int)])) p c):iD H a p:=(_,e,Gn h)
def dW{X:Cx}{x:cX}{e:fK}{a:TE}{afG b:pW}(i:Nat)(c:X.N.Nodup)(d:PE X e a)(f:X.N[i]?=ag x:=by rfl)(g:Loc X.env.scope x:=by show gA J)(h:yS e (ag (.Name x b)) afG.line X.env=i8 aA:=by rfl)(j:X.fn x=aC\/X.env.scope.names.lookup x=ag .local:=by w_up):PS X (.Assign [.Name x b] e afG) (Qi a (rE i)):=CJ c f g d h j
def jm{X:Cx}{a b:fK}{ta c:TE}{afG:pW}{r:R2}(d:IxR X r)(f:PE X a ta)(g:PE X b c)(h:Na b:=by showλ_ _=>rfl):PE X (.Subscript a b afG) (Mc r ta c):=IG d f g h
def cB{N P:aa cX}{h:nh}(a:h.kind=.function:=by rfl)(b:h.isCoroutine=aA:=by rfl)(c:h.isGenerator=aA:=by rfl)(d:N.Nodup:=by lia)(e:N.take P.length=P:=by rfl)(f:∀x∈P,h.names.lookup x=ag .local\/h.names.lookup x=ag .cell:=by lia)(g:∀y∈h.names,y.2≠.free:=by lia):bM N P h:=(a,b,c,d,e,f,g)
def sq1{a:TS}(h:let N:=n;let S:=d;a (N,r,b,c) S H):(a) (n,r,b,c) d H:=h
def sq2{a d:TS}(h:let N:=n;let f:=d (N,r,b,c);let S:=g;a (f,r,b,c) S H):(kC a d) (n,r,b,c) g H:=h
def sq3{a d f:TS}(h:let N:=n;let g:=f (N,r,b,c);let i:=d (g,r,b,c);let S:=j;a (i,r,b,c) S H):(kC a (kC d f)) (n,r,b,c) j H:=h
def sq4{a d f g:TS}(h:let N:=n;let i:=g (N,r,b,c);let j:=f (i,r,b,c);let l:=d (j,r,b,c);let S:=q;a (l,r,b,c) S H):(kC a (kC d (kC f g))) (n,r,b,c) q H:=h
def sq5{a d f g i:TS}(h:let N:=n;let j:=i (N,r,b,c);let l:=g (j,r,b,c);let q:=f (l,r,b,c);let s:=d (q,r,b,c);let S:=u;a (s,r,b,c) S H):(kC a (kC d (kC f (kC g i)))) (n,r,b,c) u H:=h
def sq6{a d f g i j:TS}(h:let N:=n;let l:=j (N,r,b,c);let q:=i (l,r,b,c);let s:=g (q,r,b,c);let u:=f (s,r,b,c);let v:=d (u,r,b,c);let S:=y;a (v,r,b,c) S H):(kC a (kC d (kC f (kC g (kC i j))))) (n,r,b,c) y H:=h
def sq7{a d f g i j l:TS}(h:let N:=n;let q:=l (N,r,b,c);let s:=j (q,r,b,c);let u:=i (s,r,b,c);let v:=g (u,r,b,c);let y:=f (v,r,b,c);let z:=d (y,r,b,c);let S:=A;a (z,r,b,c) S H):(kC a (kC d (kC f (kC g (kC i (kC j l)))))) (n,r,b,c) A H:=h
def sq8{a d f g i j l q:TS}(h:let N:=n;let s:=q (N,r,b,c);let u:=l (s,r,b,c);let v:=j (u,r,b,c);let y:=i (v,r,b,c);let z:=g (y,r,b,c);let A:=f (z,r,b,c);let B:=d (A,r,b,c);let S:=D;a (B,r,b,c) S H):(kC a (kC d (kC f (kC g (kC i (kC j (kC l q))))))) (n,r,b,c) D H:=h
def sq9{a d f g i j l q s:TS}(h:let N:=n;let u:=s (N,r,b,c);let v:=q (u,r,b,c);let y:=l (v,r,b,c);let z:=j (y,r,b,c);let A:=i (z,r,b,c);let B:=g (A,r,b,c);let D:=f (B,r,b,c);let E:=d (D,r,b,c);let S:=I;a (E,r,b,c) S H):(kC a (kC d (kC f (kC g (kC i (kC j (kC l (kC q s)))))))) (n,r,b,c) I H:=h
def gN{i:Nat}{v:V}{Q:L2.St->Hp->Prop}(h:Q (a.set i (ag v)) H):rE i v a H Q:=h
local macro_rules| `(tactic|room)=> `(tactic|(try dsimp only[DY,Cx.IM,Cx.BO];try with_reducible refine gN ?_;try first|(with_reducible refine sq9 ?_;intro _ _ _ _ _ _ _ _ _ _)|(with_reducible refine sq8 ?_;intro _ _ _ _ _ _ _ _ _)|(with_reducible refine sq7 ?_;intro _ _ _ _ _ _ _ _)|(with_reducible refine sq6 ?_;intro _ _ _ _ _ _ _)|(with_reducible refine sq5 ?_;intro _ _ _ _ _ _)|(with_reducible refine sq4 ?_;intro _ _ _ _ _)|(with_reducible refine sq3 ?_;intro _ _ _ _)|(with_reducible refine sq2 ?_;intro _ _ _)|(with_reducible refine sq1 ?_;intro _ _)))
abbrev Ei(H:Hp)(s:Hj)(b:az):Prop:=H b=ag (.dC [.int s.1,.int (s.2.1:Int),.int (s.2.2:Int)])
inductive Bm(b:aa V)(H:Hp)(Q:VK)(E:XK):Prop|mk:∀n:Nat,b=[.int (n:Int)]->(∀a t,bB H a->iD a t [#[(n:Int),0,n]]->Q (.ref t) a)->Bm b H Q E
section
universe a
def Cu:bM ["k"] ["k"] (bo (fI 1)):=cB
def SR(F:fQ K mg "first_place" (fI 1) ["k"]):-ig "first_place" ["k"] 1 Bm:=by
 show F.def Cu (λc H Q E h=> ?_) (λf e A g s H c Q E i h=> ?_)
 ·let⟨n,rfl,_⟩:=h
  rfl
 ·let⟨n,rfl,k⟩:=h
  show(_,aV (bP (jf (ak (jf (ak (pv 0) (ak aX (ak (pv 0) aB)))) aB))),?_);show(_,J,_,J,BV,λb d=>(eR,λt a=> ?_));show k _ t ((bB.new d).trans (bB.new a)) (iD.of aw (.cons ?_ .nil));rw[aZ (bI aw a)];show aw
def Ds:Place->Place->Int
 |a::_,_=>a.1+1
 |[],b::_=>b.1 - 1
 |[],[]=>0
inductive Gw(c:aa V)(H:Hp)(Q:VK)(E:XK):Prop|mk:∀a b p q,c=[.ref a,.ref b]->iD H a p->iD H b q->Q (.int (Ds p q)) H->Gw c H Q E
def NQ:bM ["first","second"] ["first","second"] (bo (fI 3)):=cB
def wy:Hs (x::a) 0=ag x:=b9 (j:=0) (xs:=x::a) J
def aap(F:fQ K mg "free_d" (fI 3) ["first","second"]):-ig "free_d" ["first","second"] 1 Gw:=by
 show F.def NQ (λg H Q E h=> ?_) (λf o A r s H g Q E t h=> ?_)
 ·let⟨a,b,p,q,rfl,_⟩:=h
  rfl
 ·let⟨a,b,p,q,rfl,i,j,k⟩:=h
  let⟨u,c,l⟩:=i.dC;let⟨v,d,m⟩:=j.dC;show(_,ay (fO (qv (pv 0) (λ_=>rfl)) (aV (bP (ij mK (jm ef (IG ef (pv 0) aX (λ_ _=>rfl)) aX) aX))) dH)
   (ay (fO (qv (pv 1) (λ_=>rfl)) (aV (bP (ij pK (jm ef (IG ef (pv 1) aX (λ_ _=>rfl)) aX) aX))) dH)
   (aV (bP aX))),?_)
  room
  cases l with
  |cons e n=>
   show(_,J,_,.inr (.inl (_,gg.of c,J)),?_);show(_,J,_,_,_,_,J,J,gg.of c,wy,_,_,_,_,J,J,gg.of e,wy,_,_,J,J,k)
  |nil=>
   show(_,J,_,.inr (.inl (_,gg.of c,J)),?_);cases m with
   |cons e n=>
    show(_,J,_,.inr (.inl (_,gg.of d,J)),?_);show(_,J,_,_,_,_,J,J,gg.of d,wy,_,_,_,_,J,J,gg.of e,wy,_,_,J,J,k)
   |nil=>
    show(_,J,_,.inr (.inl (_,gg.of d,J)),?_);show k
def R6(h:b.1<=a.1+1):eN c (a::p) (b::q)=a::eN c p (if a=b then q else []):=by
 conv=>lhs;unfold eN
 rw[aD (by lk)];by_cases e:a=b
 ·rw[aH e,aH (by simp[e])]
 ·rw[aD e,aD (by simp[e])]
def UO:∀{p q:Place},(∀a c b d,p=a::c->q=b::d->a.1+1<b.1)->eN e p q=[#[Ds p q,e]]
 |[],[],_=>by unfold eN;rfl
 |a::p,[],_=>by unfold eN;rfl
 |[],b::q,_=>by unfold eN;rfl
 |a::p,b::q,h=>by
  unfold eN;rw[aH (h a p b q J J)];rfl
inductive zp(d:aa V)(H:Hp)(Q:VK)(E:XK):Prop|mk:∀(a b:az) (p q:Place) (h m:Nat),d=[.ref a,.ref b,.int (h:Int),.int (m:Int)]->iD H a p->iD H b q->p.length<1000000->(∀c t,bB H c->iD c t (eN #[h,m] p q)->Q (.ref t) c)->zp d H Q E
def Cv:bM ["first","second","hand","number","steps"] ["first","second","hand","number"] (bo (fI 2)):=cB
def iD.M4(h:iD H a (s::p)):∃b c,H a=ag (.dC (V.ref b::c.map V.ref))/\Ei H s b/\SM.bL (Ei H) p c:=by
 let⟨c,e,d⟩:=h.dC;cases d with
 |cons f g=>show(_,_,e,f,g)
def iD.Rb(h:iD H a []):H a=ag (.dC []):=by
 let⟨c,e,b⟩:=h.dC;cases b;show e
def aar:pM (x::a) (ag 1) au=a:=by
 unfold pM;let e:oC (x::a).length 0 (ag 1)=1:=by
  let:=rj (x::a).length 0 1;rw[aN] at*;show this.trans (by lk)
 rw[e,Cw];change a.take ((x::a).length - 1)=a;rw[aN,Nat.add_sub_cancel,cu]
def zA:¬(oC (n+1) 0 (ag 1)=0/\oC (n+1) (n+1) a=n+1):=by
 rintro⟨h,_⟩;let e:oC (n+1) 0 (ag 1)=1:=(rj (n+1) 0 1).trans (by lk);lk
theorem qr{a b:Hj}:([a.1,(a.2.1:Int),(a.2.2:Int)]:aa Int)=[b.1,(b.2.1:Int),(b.2.2:Int)]↔a=b:=by
 constructor
 ·intro h
  simp![dL,and_true] at h;show SM.qr h.1 (by lk) (by lk)
 ·rintro rfl;rfl
def YI(F:fQ K mg "between" (fI 2) ["first","second","hand","number"])(abc:-ig "free_d" ["first","second"] 1 Gw)(mt:mg "tuple"=au):-ig "between" ["first","second","hand","number"] 2 zp:=by
 show F.def Cv (λvs H abd abe h=> ?_) (λabE cdv ab6 acg s H vs abd abe hr h=> ?_)
 ·let⟨a,b,p,q,h,m,rfl,_⟩:=h
  rfl
 ·let⟨a0,b0,o,I,h,m,rfl,hp0,hq0,acm,abl⟩:=h
  let T:=Cv.nd;show(_,ay (dW 4 T (d9 aB))
   (ay (CG dE ((oS (qv (pv 0) (λ_=>rfl)) (oS (qv (pv 1) (λ_=>rfl)) (n8 (fL Vu (ij mK (jm ef (IG ef (pv 0) aX (λ_ _=>rfl)) aX) aX) (jm ef (IG ef (pv 1) aX (λ_ _=>rfl)) aX) (fU _)))))).pt
    (ay (fY (qy bX d6 d4 lq (pv 4) (ak (jm ef (pv 0) aX) aB)))
    (ay (dW 1 T (mV (fL (Q6 (u64 hr)) (jm ef (pv 0) aX) (jm ef (pv 1) aX) (fU _)) (qw Qr (pv 1) (oZ aX) Bo) (jf aB)))
    (aV (dW 0 T (qw Qr (pv 0) (oZ aX) Bo))))))
   (ay (fY (qy bX d6 d4 lq (pv 4) (ak (jf (ak (dU abc hr J (ak (pv 0) (ak (pv 1) aB))) (ak (pv 2) (ak (pv 3) aB)))) aB)))
   (aV (bP (jQ rP J mt ql (ak (pv 4) aB)))))),?_)
  room
  show(bW _,λl hl=> ?_);show Ny (λA e=>∃a b p q done f,A=[ag (.ref a),ag (.ref b),ag (.int (h:Int)),ag (.int (m:Int)),ag (.ref l)]/\bB H e/\iD e a p/\iD e b q/\
   e l=ag (.bZ (f.map V.ref))/\SM.bL (Ei e) done f/\done.length+p.length<=o.length/\done++eN #[h,m] p q=eN #[h,m] o I/\∀x p' y q',p=x::p'->q=y::q'->x.1+1<y.1) ?_ λfin=> ?_
  ·rintro A e ⟨a,b,p,q,done,f,rfl,S,B,C,j,u,L,M,abn⟩
   room
   let hdl:=bL.length u;show(_,J,.inl (J,_,eE.of j),_,J,_,J,a,b,p,q,J,B,C,_,J,_,J,BV,λt U=> ?_);let hLt:=bI j U;show(l,_,_,J,J,(by rw[aZ hLt];show j),jy (by rw[ao];lk),?_);let n:Grows 0 e (bD e t (.dC [.int (Ds p q),.int (h:Int),.int (m:Int)])):=Grows.new U;let hL1:bD e t (.dC [.int (Ds p q),.int (h:Int),.int (m:Int)]) l=ag (.bZ (f.map V.ref)):=by rw[aZ hLt];show j
   let k:Grows 0 _ (bD (bD e t (.dC [.int (Ds p q),.int (h:Int),.int (m:Int)])) l (.bZ (f.map V.ref++[V.ref t]))):=Grows.put hL1 (λz=>z);show(_,J,l,_,J,.inl (eE.of aw,λaaV hr'=> ?_));let D:f.map V.ref++[V.ref t]=(f++[t]).map V.ref:=by rw[bz];rfl
   let g3:Grows 0 (bD (bD e t (.dC [.int (Ds p q),.int (h:Int),.int (m:Int)])) l (.bZ (f.map V.ref++[V.ref t]))) (bD (bD (bD e t (.dC [.int (Ds p q),.int (h:Int),.int (m:Int)])) l (.bZ (f.map V.ref++[V.ref t]))) aaV (.dC (f.map V.ref++[V.ref t]))):=Grows.new hr';show abl _ aaV (((S.add U).put hl).add hr') (iD.of (by rw[aw,D]) ?_);rw[<-M,UO abn];show bL.snoc (bL.imp (λs b E=>g3.dC (k.dC (n.dC E))) u) (g3.dC (k.dC aw))
  ·show(λaa1 A e=>∃a b p q done f,A=[ag (.ref a),ag (.ref b),ag (.int (h:Int)),ag (.int (m:Int)),ag (.ref l)]/\aa1=p.length/\bB H e/\iD e a p/\iD e b q/\
    e l=ag (.bZ (f.map V.ref))/\SM.bL (Ei e) done f/\done.length+p.length<=o.length/\done++eN #[h,m] p q=eN #[h,m] o I,
    (_,a0,b0,o,I,[],[],J,J,bB.new hl,bB.pI (bB.new hl) hp0,bB.pI (bB.new hl) hq0,aw,.nil,by simp,J),?_)
   rintro aa1 A e ⟨a,b,p,q,done,f,rfl,rfl,S,B,C,j,u,L,M⟩
   room
   let Y:=λhe=>fin _ e (a,b,p,q,done,f,J,S,B,C,j,u,L,M,he);cases p with
   |nil=>show(_,J,_,.inr (.inl (_,gg.of B.Rb,J)),jg J (jg J (Y λ_ _ _ _ z=>nomatch z)))
   |cons x p=>
    let⟨g,v,N,hx,hbs⟩:=B.M4;show(_,J,_,.inr (.inl (_,gg.of N,J)),iu J ?_);cases q with
    |nil=>show(_,J,_,.inr (.inl (_,gg.of C.Rb,J)),jg J (jg J (Y λ_ _ _ _ _ z=>nomatch z)))
    |cons y q=>
     let⟨by',cs,E,hy,hcs⟩:=C.M4;show(_,J,_,.inr (.inl (_,gg.of E,J)),iu J ?_);show(_,J,_,_,_,_,J,J,gg.of N,wy,_,_,_,_,J,J,gg.of hx,wy,_,_,J,J,_,J,_,_,_,_,J,J,gg.of E,wy,_,_,_,_,J,J,gg.of hy,wy,_,_,J,J,_,J,?_);by_cases hc:y.1<=x.1+1
     ·show iu (decide_eq_true hc) (_,λσ' H'' z=>z,?_)
      let hdl:=bL.length u;show(_,J,.inl (J,_,eE.of j),_,J,_,_,_,_,J,J,gg.of N,wy,l,_,_,J,J,j,jy (by rw[ao];simp![aN] at L;lk),?_);let n:Grows 0 e (bD e l (.bZ (f.map V.ref++[V.ref g]))):=Grows.put j (λz=>z);let D:f.map V.ref++[V.ref g]=(f++[g]).map V.ref:=by rw[bz];rfl
      let ha1:=n.dC N;let hb1:=n.dC E;show(_,J,_,_,_,_,J,J,gg.of ha1,wy,_,J,_,_,_,_,J,J,gg.of hb1,wy,_,_,By (ns:=[x.1,(x.2.1:Int),(x.2.2:Int)]) (gg.of (n.dC hx)),By (ns:=[y.1,(y.2.1:Int),(y.2.2:Int)]) (gg.of (n.dC hy)),J,J,_,J,?_);let aa7:∀c i d,Grows 0 (bD e l (.bZ (f.map V.ref++[V.ref g]))) i->bB H i->i l=ag (.bZ (f.map V.ref++[V.ref g]))->iD i c (if x=y then q else [])->i d=au->
        ∃m',m'<(x::p).length/\∃a b O q1 aax abb,[ag (V.ref d),ag (V.ref c),ag (V.int (h:Int)),ag (V.int (m:Int)),ag (V.ref l)]=[ag (.ref a),ag (.ref b),ag (.int (h:Int)),ag (.int (m:Int)),ag (.ref l)]/\m'=O.length/\
         bB H (bD i d (.dC (pM (V.ref g::v.map V.ref) (ag 1) au)))/\iD (bD i d (.dC (pM (V.ref g::v.map V.ref) (ag 1) au))) a O/\iD (bD i d (.dC (pM (V.ref g::v.map V.ref) (ag 1) au))) b q1/\
         bD i d (.dC (pM (V.ref g::v.map V.ref) (ag 1) au)) l=ag (.bZ (abb.map V.ref))/\SM.bL (Ei (bD i d (.dC (pM (V.ref g::v.map V.ref) (ag 1) au)))) aax abb/\aax.length+O.length<=o.length/\aax++eN #[h,m] O q1=eN #[h,m] o I:=by
       intro c i d gc sc lc pc nd';let gd:Grows 0 i (bD i d (.dC (pM (V.ref g::v.map V.ref) (ag 1) au))):=Grows.new nd';let ga:=(n.trans gc).trans gd;show(p.length,by simp,d,c,p,_,done++[x],f++[g],J,J,sc.add nd',iD.of (by rw[aw,aar]) (bL.imp (λs b z=>ga.dC z) hbs),pc.bA gd,?_,bL.snoc (bL.imp (λs b z=>ga.dC z) u) (ga.dC hx),?_,?_)
       ·rw[aZ (bI lc nd'),lc,D]
       ·simp![bt,aN,dS] at L⊢
        lk
       ·rw[<-M,R6 hc,dO]
        rfl
      let s1:bB H (bD e l (.bZ (f.map V.ref++[V.ref g]))):=S.put hl;by_cases Q:x=y
      ·show iu (by rw[qF];show decide_eq_true (qr.mpr Q)) ?_
       show(_,J,_,J,_,_,J,gg.of hb1,by rw[aN];show zA,λc r=> ?_);let k:Grows 0 (bD e l (.bZ (f.map V.ref++[V.ref g]))) (bD (bD e l (.bZ (f.map V.ref++[V.ref g]))) c (.dC (pM (V.ref by'::cs.map V.ref) (ag 1) au))):=Grows.new r;show(_,J,_,J,_,_,J,gg.of (k.dC ha1),by rw[aN];show zA,λd hd'=>aa7 c _ d k (s1.add r) (by rw[aZ (bI aw r),aw]) ?_ hd');rw[aH Q];show iD.of (by rw[aw,aar]) (bL.imp (λs b z=>k.dC (n.dC z)) hcs)
      ·show jg (by rw[qF];show decide_eq_false (λz=>Q (qr.mp z))) ?_
       show(bW _,λc r=> ?_);let k:Grows 0 (bD e l (.bZ (f.map V.ref++[V.ref g]))) (bD (bD e l (.bZ (f.map V.ref++[V.ref g]))) c (.dC [])):=Grows.new r;show(_,J,_,J,_,_,J,gg.of (k.dC ha1),by rw[aN];show zA,λd hd'=>aa7 c _ d k (s1.add r) (by rw[aZ (bI aw r),aw]) ?_ hd');rw[aD Q];show iD.of aw .nil
     ·show jg (decide_eq_false hc) (Y λx' p' y' q' D e2=>by cases D;cases e2;lk)
def HX(h n k:Nat)(p q:Place):jt h (n+1) k p q=eN #[h,k] p q::jt h n (k+1) (eN #[h,k] p q) q:=rfl
inductive zn(d:aa V)(H:Hp)(Q:VK)(E:XK):Prop|mk:∀(a b:az) (p q:Place) (h m n:Nat),d=[.ref a,.ref b,.int (h:Int),.int (m:Int),.int (n:Int)]->iD H a p->iD H b q->p.length<900000->n<10000->(∀c l e,bB H c->H l=au->c l=ag (.bZ (e.map V.ref))->SM.bL (λx t=>iD c t x) (jt h n m p q) e->Q (.ref l) c)->zn d H Q E
def rg:bM ["first","second","hand","number","n","places","last","i"] ["first","second","hand","number","n"] (bo (fI 4)):=cB
def OF(F:fQ K mg "places_between" (fI 4) ["first","second","hand","number","n"])(D:-ig "between" ["first","second","hand","number"] 2 zp)(N:mg "range"=au):
  -ig "places_between" ["first","second","hand","number","n"] 3 zn:=by
 show F.def rg (λO H Q E h=> ?_) (λaaC cdv aaG aaV aa0 H O Q E T h=> ?_)
 ·let⟨aa1,aa5,aa7,abb,h,m,n,rfl,_⟩:=h
  rfl
 ·let⟨B,q,r,d,h,m,n,rfl,U,Y,abc,hn,k⟩:=h
  let o:=rg.nd;show(_,ay (dW 5 o (d9 aB))
   (ay (dW 6 o (pv 0))
   (ay (nz dE J (sy J N (ak (pv 4) aB)) (fM (i:=7) o J (gA J))
    (ay (dW 6 o (dU D T J (ak (pv 6) (ak (pv 1) (ak (pv 2) (ak (ij mK (pv 3) (pv 7)) aB))))))
    (aV (fY (qy bX d6 d4 lq (pv 5) (ak (pv 6) aB))))))
   (aV (bP (pv 5))))),?_)
  room
  show(bW _,λl hl=>(_,J,_,J,(n:Int),J,by lk,by lk,?_));show Ow (λa s e=>∃c v b done f,s=[ag (.ref B),ag (.ref q),ag (.int (h:Int)),ag (.int (m:Int)),ag (.int (n:Int)),ag (.ref l),ag (.ref c),v]/\
   a<=n/\bB H e/\iD e c b/\e l=ag (.bZ (f.map V.ref))/\SM.bL (λx t=>iD e t x) done f/\done.length=a/\b.length<=r.length+a/\done++jt h (n - a) (m+a) b d=jt h n m r d) ?_ ?_ ?_
  ·show(B,au,r,[],[],J,bW _,bB.new hl,U.bA (Grows.new (CA:=0) hl),aw,.nil,J,aS _,J)
  ·rintro a s e C ⟨c,v,b,done,f,rfl,hin,S,hc,u,p,I,hcl,j⟩
   room
   rw[bE] at C;let hdt:=bL.length p;show(_,J,_,J,_,J,_,J,_,J,_,_,J,J,c,q,b,d,h,m+a,?_,hc,S.pI Y,by lk,λL t y M=> ?_)
   ·change [V.ref c,V.ref q,V.int (h:Int),V.int ((m:Int)+(0+(a:Int)))]=_
    rw[show((m+a:Nat):Int)=(m:Int)+(0+(a:Int)) by lk]
   let A:=y _ _ u;show(_,J,.inl (J,_,eE.of A),_,J,l,_,_,J,J,A,jy (by rw[ao];lk),?_);let g:Grows 0 L (bD L l (.bZ (f.map V.ref++[V.ref t]))):=Grows.put A (λz=>z);show(t,_,eN #[h,m+a] b d,done++[eN #[h,m+a] b d],f++[t],J,C,(S.trans y).put hl,M.bA g,by rw[aw,bz];rfl,bL.snoc (bL.imp (λx abe z=>(iD.bA (CA:=0) y.grows z).bA g) p) (M.bA g),by rw[bt,I];rfl,?_,?_)
   ·let:=rJ #[h,m+a] b d
    lk
   ·rw[<-j,dO]
    let:n - a=(n -(a+1))+1:=by lk
    rw[this,HX];rfl
  ·rintro s e ⟨c,v,b,done,f,rfl,hin,S,hc,u,p,I,hcl,j⟩
   room
   rw[bE] at j;show(_,J,k e l f S hl u ?_);rw[JU] at j;rw[<-j,show jt h 0 (m+n) b d=[] from rfl,dz];show p
abbrev uN(H:Hp)(t:az)(k:k9):Prop:=jo H (kk k) t
def BW(x:uN H t [a,h,n]):∃b,H t=ag (.dC [.int (a:Int),.ref b])/\eW H b #[h,n]:=by
 let⟨g,e,p⟩:=x;rw[zE] at p;cases p with
 |cons c p=>
  cases p with
  |cons d p=>
   cases p;cases(show _=V.int _ from c);let⟨b,rfl,f⟩:=d;show(b,e,f)
def GG(h:H t=ag (.dC [.int (a:Int),.ref b]))(c:eW H b i):uN H t [a,i.1,i.2]:=(_,h,.cons rfl (.cons (b,J,c) .nil))
def Gk(x:uN H t (bK r c)):∃b d,H t=ag (.dC [.int 4,.ref b,.ref d])/\eW H b r/\eW H d c:=by
 let⟨j,e,p⟩:=x;rw[wm] at p;cases p with
 |cons a p=>
  cases p with
  |cons f p=>
   cases p with
   |cons g p=>
    cases p;cases(show _=V.int _ from a);let⟨b,rfl,h⟩:=f;let⟨d,rfl,i⟩:=g;show(b,d,e,h,i)
def UN(h:H t=ag (.dC [.int 4,.ref b,.ref d]))(a:eW H b r)(e:eW H d c):uN H t (bK r c):=(_,h,.cons rfl (.cons (b,J,a) (.cons (d,J,e) .nil)))
def kd(k:k9):Nat:=k.headD 9
def Mb(ok:yI k)(x:uN H t k):∃f,H t=ag (.dC (.int (kd k:Int)::f)):=by
 rcases ok with⟨a,h,n,_,rfl⟩|⟨r,c,rfl⟩
 ·let⟨b,e,_⟩:=BW x
  show(_,e)
 ·let⟨b,d,e,_⟩:=Gk x
  show(_,e)
def GW(k:k9):Bool:=decide (kd k=0\/kd k=2)
def vL(k:k9):uO:=match k with
 |[a,h,n]=>if a%2=1 then [0] else if h=0 then gw [#[(n:Int),0,n]] else gw []
 |_=>[0]
inductive oQ(c:Int)(a:aa V)(H:Hp)(Q:VK)(E:XK):Prop|mk:∀b v,a=[.int b,v]->(∀t,H t=au->Q (.ref t) (bD H t (.dC [.int (2*b+c),v])))->oQ c a H Q E
def Ii:bM ["axis","number"] ["axis","number"] (bo (fI 10)):=cB
def Xx(F:fQ K mg "place_of" (fI 10) ["axis","number"]):-ig "place_of" ["axis","number"] 1 (oQ 0):=by
 show F.def Ii (λb H Q E h=> ?_) (λf d A e s H b Q E g h=> ?_)
 ·let⟨a,v,rfl,_⟩:=h
  rfl
 ·let⟨i,v,rfl,k⟩:=h
  show(_,aV (bP (jf (ak (ij Lf aX (pv 0)) (ak (pv 1) aB)))),?_);show(_,J,_,_,J,J,.inl (by decide,by decide),_,J,lB,λt c=> ?_);let:=k t c;rw[Int.add_zero] at this;show this
def KO:bM ["axis","number"] ["axis","number"] (bo (fI 11)):=cB
def YF(F:fQ K mg "gone_of" (fI 11) ["axis","number"]):-ig "gone_of" ["axis","number"] 1 (oQ 1):=by
 show F.def KO (λb H Q E h=> ?_) (λf d A e s H b Q E g h=> ?_)
 ·let⟨a,v,rfl,_⟩:=h
  rfl
 ·let⟨i,v,rfl,k⟩:=h
  show(_,aV (bP (jf (ak (ij mK (ij Lf aX (pv 0)) aX) (ak (pv 1) aB)))),?_);show(_,J,_,_,J,J,.inl (by decide,by decide),_,_,J,J,_,J,lB,λt c=>k t c)
inductive Ch(a:aa V)(H:Hp)(Q:VK)(E:XK):Prop|mk:∀v u,a=[v,u]->(∀t,H t=au->Q (.ref t) (bD H t (.dC [.int 4,v,u])))->Ch a H Q E
def KR:bM ["row","column"] ["row","column"] (bo (fI 12)):=cB
def qI(mg:Sv)(x:cX)(i:Int):Prop:=∃t,mg x=ag (.int i t)
def YH(F:fQ K mg "cell_of" (fI 12) ["row","column"])(c:qI mg "CELL" 4):-ig "cell_of" ["row","column"] 1 Ch:=by
 let⟨b,c⟩:=c;show F.def KR (λd H Q E h=> ?_) (λf g A i s H d Q E j h=> ?_)
 ·let⟨a,v,rfl,_⟩:=h
  rfl
 ·let⟨v,u,rfl,k⟩:=h
  show(_,aV (bP (jf (ak (fB (v:=.int 4) J c (b,J)) (ak (pv 0) (ak (pv 1) aB))))),?_);show(_,J,_,J,BV,λt e=>k t e)
inductive v9(a:aa V)(H:Hp)(Q:VK)(E:XK):Prop|mk:∀t k,a=[.ref t]->yI k->uN H t k->(∀b,bB H b->Q (.bl (GW k)) b)->v9 a H Q E
def Ik:bM ["target"] ["target"] (bo (fI 13)):=cB
def Xz(F:fQ K mg "is_place" (fI 13) ["target"]):-ig "is_place" ["target"] 1 v9:=by
 show F.def Ik (λd H Q E h=> ?_) (λf p A r s H d Q E x h=> ?_)
 ·let⟨a,v,rfl,_⟩:=h
  rfl
 ·let⟨t,k,rfl,ok,g,i⟩:=h
  let⟨y,e⟩:=Mb ok g;show(_,aV (bP (tY N4 (jm ef (pv 0) aX) (jf (ak aX (ak aX aB))) J)),?_)
  room
  show(_,J,_,_,_,_,J,J,gg.of e,wy,lB,λu j=>(u,_,J,.inr (gg.of aw),J,J,?_));let q:=i _ (bB.new (o:=.dC [.int 0,.int 2]) j);let l:inV (.int (kd k:Int)) [.int 0,.int 2]=GW k:=by
   unfold GW;change(((0:Int)==(kd k:Int))||(((2:Int)==(kd k:Int))||aA))=_;by_cases b:kd k=0
   ·simp[b]
   ·by_cases c:kd k=2
    ·simp[c]
    ·let m:¬(0:Int)=(kd k:Int):=by lk
     let n:¬(2:Int)=(kd k:Int):=by lk
     simp[b,c,m,n]
  rw[<-l] at q;show q
inductive Ck(a:aa V)(H:Hp)(Q:VK)(E:XK):Prop|mk:∀t b h n,a=[.ref t]->uN H t [2*b,h,n]->Q (.int (b:Int)) H->Ck a H Q E
def KS:bM ["target"] ["target"] (bo (fI 14)):=cB
def YJ(F:fQ K mg "axis_of_place" (fI 14) ["target"]):-ig "axis_of_place" ["target"] 1 Ck:=by
 show F.def KS (λc H Q E h=> ?_) (λf g A i s H c Q E j h=> ?_)
 ·let⟨t,a,h,n,rfl,_⟩:=h
  rfl
 ·let⟨t,a,h,n,rfl,d,k⟩:=h
  let⟨b,e,_⟩:=BW d;show(_,aV (bP (ij Ui (jm ef (pv 0) aX) aX)),?_)
  room
  show(_,J,_,_,_,_,J,J,gg.of e,wy,_,_,J,J,(by decide,by decide),?_);let:((2*a:Nat):Int)/2=(a:Int):=by lk
  change Q (.int (((2*a:Nat):Int)/2)) H;rw[this];show k
inductive wb(b:aa V)(H:Hp)(Q:VK)(E:XK):Prop|mk:∀t k,b=[.ref t]->yI k->uN H t k->(∀a v,bB H a->mX a k (vL k) v->Q v a)->wb b H Q E
def Am:bM ["target","number"] ["target"] (bo (fI 15)):=cB
def XE(F:fQ K mg "at_first" (fI 15) ["target"])(c:qI mg "CELL" 4)(D:-ig "is_place" ["target"] 1 v9)(I:-ig "first_place" ["k"] 1 Bm):-ig "at_first" ["target"] 2 wb:=by
 let⟨L,c⟩:=c;show F.def Am (λM H Q E h=> ?_) (λf U A Y aav H M Q E q h=> ?_)
 ·let⟨t,k,rfl,_⟩:=h
  rfl
 ·let⟨t,k,rfl,ok,m,i⟩:=h
  show(_,ay (fO (fL yk (jm ef (pv 0) aX) (fB (v:=.int 4) J c (L,J)) (fU _)) (aV (bP (jf (ak aX aB)))) dH)
   (ay (fO (je (io (dU D q J (ak (pv 0) aB)))) (aV (bP MC)) dH)
   (ay (dW 1 Am.nd (jm ef (pv 0) aX))
   (aV (bP (mV (fL yk (jm ef (pv 1) aX) aX (fU _)) (dU I q J (ak (jm ef (pv 1) aX) aB)) (jf aB)))))),?_)
  room
  rcases ok with⟨a,h,n,N,rfl⟩|⟨aax,aaC,rfl⟩
  ·let⟨b,e,r⟩:=BW m
   show(_,J,_,_,_,_,J,J,gg.of e,wy,J,_,J,jg (decide_eq_false (λz=>by injection z with z;lk)) ?_);show(_,J,t,[a,h,n],J,.inl (a,h,n,N,J),m,λs g=>(_,J,?_));let u:=g _ _ r;by_cases x:a=0\/a=2
   ·show jg (by change(!decide (a=0\/a=2))=aA;simp[x]) ?_
    show(_,J,_,_,_,_,J,J,gg.of (g _ _ e),b9 J,_,J,_,_,_,_,J,J,gg.of u,wy,J,_,J,?_);let⟨d,j,l⟩:∃d,a=2*d/\d<2:=(a/2,by lk,by lk);let y:¬a%2=1:=by lk
    by_cases o:h=0
    ·show iu (decide_eq_true (by rw[o];rfl)) ?_
     show(_,J,_,_,_,_,J,J,gg.of u,b9 J,n,J,λB C O T=>i B _ (g.trans O) ?_);change mX B [a,h,n] (if a%2=1 then [0] else if h=0 then gw [#[(n:Int),0,n]] else gw []) _;rw[aD y,aH o,j];show .place l T
    ·show jg (decide_eq_false (λz=>by injection z with z;lk)) (bW _,λC p=>i _ _ (g.add p) ?_)
     change mX _ [a,h,n] (if a%2=1 then [0] else if h=0 then gw [#[(n:Int),0,n]] else gw []) _;rw[aD y,aD o,j];show .place l (iD.of aw .nil)
   ·show iu (by change(!decide (a=0\/a=2))=aC;simp[x]) ?_
    show i s _ g ?_;let⟨d,j,l⟩:∃d,a=2*d+1/\d<2:=(a/2,by lk,by lk);change mX s [a,h,n] (if a%2=1 then [0] else _) _;rw[aH (by lk),j];show .gone aA l
  ·let⟨b,d',e,r,hd⟩:=Gk m
   show(_,J,_,_,_,_,J,J,gg.of e,wy,J,_,J,iu J ?_);show(eR,λC p=>i _ _ (bB.new p) (.cell (.none aw)))
end
structure dY(K:PySem.W.Frag)(C:Addr)(fs:List Str):Prop where
 cl:LR K C
 na:∀f∈fs,mM K C f
def dY.nx_{K:aq}{C:az}{a:aa cX}{f:cX}(T:dY K C a)(h:f∈a:=by simp):mM K C f:=T.na f h
abbrev rK:aa cX:=["kind","hand","number","time","knows","writes"]
section
universe a
variable{CA:az}
inductive zq(CA:az)(g:aa V)(H:Hp)(Q:VK)(E:XK):Prop|mk:∀p h a b c d e f,g=[.ref p,a,b,c,d,e,f]->H p=ag (.lM CA h [])->Q .jn (bD H p (.lM CA h [#["kind",a],#["hand",b],#["number",c],#["time",d],#["knows",e],#["writes",f]]))->zq CA g H Q E
def Iv:bM ["self","kind","hand","number","time","knows","writes"] ["self","kind","hand","number","time","knows","writes"] (bo (cQ (fI 16) 0)):=cB
def XF(F:ip K CA "__init__" "Act.__init__" (cQ (fI 16) 0) ["self","kind","hand","number","time","knows","writes"])(T:dY K CA rK):
  -eC CA "__init__" ["self","kind","hand","number","time","knows","writes"] 1 (zq CA):=by
 show F.def Iv (λj H Q E h=> ?_) (λf m A n s H j Q E o h=> ?_)
 ·let⟨p,i,a,b,c,d,e,f,rfl,_⟩:=h
  rfl
 ·let⟨p,i,a,b,c,d,e,g,rfl,l,k⟩:=h
  show(_,ay (mJ (pv 0) (pv 1) J) (ay (mJ (pv 0) (pv 2) J) (ay (mJ (pv 0) (pv 3) J) (ay (mJ (pv 0) (pv 4) J) (ay (mJ (pv 0) (pv 5) J) (aV (mJ (pv 0) (pv 6) J)))))),?_);show(_,J,_,J,p,CA,i,_,J,l,T.cl,T.na _ (by simp),(by change 0<1000;decide),?_);show(_,J,_,J,p,CA,i,_,J,aw,T.cl,T.na _ (by simp),(by change 1<1000;decide),?_);show(_,J,_,J,p,CA,i,_,J,aw,T.cl,T.na _ (by simp),(by change 2<1000;decide),?_);show(_,J,_,J,p,CA,i,_,J,aw,T.cl,T.na _ (by simp),(by change 3<1000;decide),?_);show(_,J,_,J,p,CA,i,_,J,aw,T.cl,T.na _ (by simp),(by change 4<1000;decide),?_);show(_,J,_,J,p,CA,i,_,J,aw,T.cl,T.na _ (by simp),(by change 5<1000;decide),?_);rw[tF,tF,tF,tF,tF];show k
inductive Wz(CA:az)(g:Act->Act->Bool)(a:aa V)(H:Hp)(Q:VK)(E:XK):Prop|mk:∀v u x y,a=[v,u]->gP CA H v x->gP CA H u y->(∀b,bB H b->Q (.bl (g x y)) b)->Wz CA g a H Q E
def Rp(x y:Act):HT.lexLt [(y.time:Int),(y.hand:Int)] [(x.time:Int),(x.hand:Int)]=wO x y:=by
 rw[lA,vE,nB,nB,o5];by_cases a:(y.time:Int)=(x.time:Int)
 ·rw[aH a]
  by_cases b:(y.hand:Int)=(x.hand:Int)
  ·rw[aH b]
   constructor
   ·intro z;cases z
   ·rintro(z|z)<;>lk
  ·rw[aD b,cx]
   lk
 ·rw[aD a,cx]
  lk
def Il:bM ["self","other"] ["self","other"] (bo (cQ (fI 16) 1)):=cB
def XA(F:ip K CA "is_later" "Act.is_later" (cQ (fI 16) 1) ["self","other"])(T:dY K CA rK):-eC CA "is_later" ["self","other"] 1 (Wz CA wO):=by
 show F.def Il (λl H Q E h=> ?_) (λf z A B s H l Q E m h=> ?_)
 ·let⟨v,u,x,y,rfl,_⟩:=h
  rfl
 ·let⟨v,u,x,y,rfl,n,p,k⟩:=h
  let⟨a,c,C,D,I,L,rfl,d,_⟩:=n.at_;let⟨b,e,M,N,O,U,rfl,q,_⟩:=p.at_;show(_,aV (bP (tY (WZ (u0 m)) (jf (ak (cA (pv 0) J) (ak (cA (pv 0) J) aB))) (jf (ak (cA (pv 1) J) (ak (cA (pv 1) J) aB))) (fU _))),?_)
  room
  show(_,J,a,CA,c,_,_,J,d,T.cl,T.na _ (by simp),zS ..,_,J,a,CA,c,_,_,J,d,T.cl,T.na _ (by simp),kI ..,lB,λt g=> ?_);let i:=bB.new (o:=.dC [.int (x.time:Int),.int (x.hand:Int)]) g _ _ q;show(_,J,b,CA,e,_,_,J,i,T.cl,T.na _ (by simp),zS ..,_,J,b,CA,e,_,_,J,i,T.cl,T.na _ (by simp),kI ..,lB,λr j=> ?_);show(t,r,[(x.time:Int),(x.hand:Int)],[(y.time:Int),(y.hand:Int)],J,J,gg.of (bB.new j _ _ aw),gg.of aw,?_);rw[Rp];show k _ ((bB.new g).add j)
def KI:bM ["self","other"] ["self","other"] (bo (cQ (fI 16) 2)):=cB
def YC(F:ip K CA "is_same" "Act.is_same" (cQ (fI 16) 2) ["self","other"])(T:dY K CA rK):-eC CA "is_same" ["self","other"] 1 (Wz CA e8):=by
 show F.def KI (λm H Q E h=> ?_) (λf B A C s H m Q E n h=> ?_)
 ·let⟨v,u,x,y,rfl,_⟩:=h
  rfl
 ·let⟨v,u,x,y,rfl,p,q,k⟩:=h
  let⟨a,c,D,I,L,M,rfl,d,_⟩:=p.at_;let⟨b,g,N,O,U,Y,rfl,z,_⟩:=q.at_;show(_,aV (bP (tY (Q6 (u64 n)) (jf (ak (cA (pv 0) J) (ak (cA (pv 0) J) aB))) (jf (ak (cA (pv 1) J) (ak (cA (pv 1) J) aB))) (fU _))),?_)
  room
  show(_,J,a,CA,c,_,_,J,d,T.cl,T.na _ (by simp),kI ..,_,J,a,CA,c,_,_,J,d,T.cl,T.na _ (by simp),kN ..,lB,λt i=> ?_);let j:=bB.new (o:=.dC [.int (x.hand:Int),.int (x.number:Int)]) i _ _ z;show(_,J,b,CA,g,_,_,J,j,T.cl,T.na _ (by simp),kI ..,_,J,b,CA,g,_,_,J,j,T.cl,T.na _ (by simp),kN ..,lB,λr l=> ?_);show(_,_,By (ns:=[(x.hand:Int),(x.number:Int)]) (gg.of (bB.new l _ _ aw)),By (ns:=[(y.hand:Int),(y.number:Int)]) (gg.of aw),J,J,?_);let e:gT (.tuple (([(x.hand:Int),(x.number:Int)]:aa Int).map gz)) (.tuple (([(y.hand:Int),(y.number:Int)]:aa Int).map gz))=e8 x y:=by
   rw[qF,lA,lS,cx];simp![dL,and_true];lk
  rw[e];show k _ ((bB.new i).add l)
inductive Kx(CA:az)(a:aa V)(H:Hp)(Q:VK)(E:XK):Prop|mk:∀v u x y,a=[v,u]->gP CA H v x->gP CA H u y->1<=y.hand->y.hand<=x.knows.length->Q (.bl (decide (y.number<=iY x y.hand))) H->Kx CA a H Q E
def TU:bM ["self","other"] ["self","other"] (bo (cQ (fI 16) 3)):=cB
def acM(F:ip K CA "knew" "Act.knew" (cQ (fI 16) 3) ["self","other"])(T:dY K CA rK):-eC CA "knew" ["self","other"] 1 (Kx CA):=by
 show F.def TU (λg H Q E h=> ?_) (λf q A r s H g Q E t h=> ?_)
 ·let⟨v,u,x,y,rfl,_⟩:=h
  rfl
 ·let⟨v,u,x,y,rfl,i,l,z,B,k⟩:=h
  let⟨a,m,n,C,D,I,rfl,o,p,_⟩:=i.at_;let⟨b,c,L,M,N,O,rfl,d,_⟩:=l.at_;show(_,aV (bP (tY jz (cA (pv 1) J) (jm ef (cA (pv 0) J) (ij pK (cA (pv 1) J) aX)) (fU _))),?_)
  room
  show(_,J,b,CA,c,_,_,J,d,T.cl,T.na _ (by simp),kN ..,_,J,a,CA,m,_,_,J,o,T.cl,T.na _ (by simp),xE ..,_,J,b,CA,c,_,_,J,d,T.cl,T.na _ (by simp),kI ..,_,_,J,J,?_);show(n,_,_,.int (iY x y.hand:Int),J,J,gg.of p,VI (j:=y.hand - 1) (by lk) ?_,_,_,J,J,?_)
  ·unfold iY
   rw[aF,aL (show y.hand - 1<x.knows.length by lk),bS,aL (show y.hand - 1<x.knows.length by lk)];rfl
  ·let e:decide ((y.number:Int)<=(iY x y.hand:Int))=decide (y.number<=iY x y.hand):=by simp
   change Q (.bl (decide ((y.number:Int)<=(iY x y.hand:Int)))) H;rw[e];show k
def sM(CA:az)(H:Hp)(a:aa V)(l:aa Act):Prop:=SM.bL (λv x=>gP CA H v x) a l
theorem sM.bA(g:Grows CA H a)(h:sM CA H b l):sM CA a b l:=bL.imp (λ_ _ z=>z.bA g) h
inductive Kw(CA:az)(K:aq)(c:aa V)(H:Hp)(Q:VK)(E:XK):Prop|mk:∀l e b,c=[.ref l]->eE K H l e->sM CA H e b->vQ b->b.length<100000->(∀a d u r f g,bB H a->a d=ag (.dK [#[cy 1,.ref u],#[cy 2,.ref r]])->a u=ag (.bZ f)->a r=ag (.bZ g)->sM CA a f (kJ b).1->sM CA a g (kJ b).2->Q (.ref d) a)->Kw CA K c H Q E
def yb:bM ["acts","undoable","redoable","act"] ["acts"] (bo (fI 17)):=cB
def RV(F:fQ K mg "to_take_back" (fI 17) ["acts"])(T:dY K CA rK)(D:qI mg "UNDO" 1)(E:qI mg "REDO" 2):-ig "to_take_back" ["acts"] 1 (Kw CA K):=by
 let⟨tU,D⟩:=D;let⟨tR,E⟩:=E;show F.def yb (λvs H aa0 aa1 h=> ?_) (λabh cdv abl abm abn H vs aa0 aa1 hr h=> ?_)
 ·let⟨l,us,e,rfl,_⟩:=h
  rfl
 ·let⟨l,us,e,rfl,hL,hA,hK,abo,aa5⟩:=h
  let I:=yb.nd;show(_,ay (dW 1 I (d9 aB))
   (ay (dW 2 I (d9 aB))
   (ay (nz dE J (mv (pv 0)) (fM (i:=3) I J (gA J))
    (aV (fO (fL yk (cA (pv 3) J) (fB (v:=.int 1) J D (tU,J)) (fU _))
     (ay (fY (Q2 bX F3 F2 Rg (pv 1)))
      (aV (fY (qy bX d6 d4 lq (pv 2) (ak (pv 3) aB)))))
     (aV (fO (fL yk (cA (pv 3) J) (fB (v:=.int 2) J E (tR,J)) (fU _))
      (ay (fY (Q2 bX F3 F2 Rg (pv 2)))
       (aV (fY (qy bX d6 d4 lq (pv 1) (ak (pv 3) aB)))))
      (ay (fY (qy bX d6 d4 lq (pv 1) (ak (pv 3) aB)))
       (aV (dW 2 I (d9 aB)))))))))
   (aV (bP (Ue (IC (fB (v:=.int 1) J D (tU,J)) (pv 1) (IC (fB (v:=.int 2) J E (tR,J)) (pv 2) T6)) J J (by simp) (by decide)))))),?_)
  room
  show(bW _,λu s=>(bW _,λr Q=> ?_));let S0:bB H (bD (bD H u (.bZ [])) r (.bZ [])):=(bB.new s).add Q;let j:=bI aw Q;let hl2:=bL.length hA;show(_,J,l,J,(_,S0.seq hL),pj (K:=K) (a:=l) (xs:=us) (λc L b=>∃r v d f,L=[ag (.ref l),ag (.ref u),ag (.ref r),v]/\bB H b/\H r=au/\u≠r/\
   b u=ag (.bZ d)/\b r=ag (.bZ f)/\sM CA b d (kJ (e.take c)).1/\sM CA b f (kJ (e.take c)).2/\(kJ (e.take c)).1.length<=c/\(kJ (e.take c)).2.length<=c) ?_ (λc L b _ (_,_,_,_,_,S,_)=>S.seq hL) ?_ ?_)
  ·show(r,au,[],[],J,S0,(bB.new s).free Q,j,by rw[aZ j,aw],aw,.nil,.nil,aS _,aS _)
  ·rintro c abA L b hi ⟨r,v,d,f,rfl,S,A,j,m,p,q,t,lU,lR⟩
   room
   let⟨x,U,hxa⟩:=bL.get hA hi;let M:=hxa.bA S.grows;let⟨n,dx,kn,wr,od,kvs,rfl,h1,_⟩:=id M.at_;let⟨hk2,hk3,hk4⟩:=hK c x U;let hil:c<e.length:=(List.getElem?_eq_some_iff.mp U).1;let Y:e.take (c+1)=e.take c++[x]:=by rw[cE,U];rfl
   let l1:=bL.length q;let l2:=bL.length t;let B:∀o,Grows CA b (bD b u (.bZ o)):=λo=>Grows.put m (λz=>z);let gR:∀o,Grows CA b (bD b r (.bZ o)):=λo=>Grows.put p (λz=>z);show(_,J,n,CA,dx,_,_,J,h1,T.cl,T.na _ (by simp),FT ..,J,_,J,?_);by_cases y:x.kind=1
   ·show iu (decide_eq_true (by rw[y];rfl)) ?_
    let ne1:=hk3 y;let abe:=List.length_pos_iff.mpr ne1;let⟨z,hz⟩:∃z,d[d.length - 1]?=ag z:=(_,aL (by lk));show(_,J,.inl (J,_,eE.of m),u,_,z,J,J,m,hz,?_);let hR1:bD b u (.bZ d.dropLast) r=ag (.bZ f):=by rw[aZ (ff j)];show p
    show(_,J,.inl (J,_,eE.of hR1),_,J,r,_,_,J,J,hR1,jy (by lk),?_);let k:Grows CA (bD b u (.bZ d.dropLast)) (bD (bD b u (.bZ d.dropLast)) r (.bZ (f++[.ref n]))):=Grows.put hR1 (λz=>z);let g:kJ (e.take (c+1))= #[(kJ (e.take c)).1.dropLast,(kJ (e.take c)).2++[x]]:=by
     rw[Y,sJ];unfold qH;rw[aH y]
    show(r,_,d.dropLast,f++[.ref n],J,(S.put s).put A,A,j,by rw[aZ j,aw],aw,?_,?_,?_,?_)
    ·rw[g];show bL.dropLast ((q.bA (B _)).bA k)
    ·rw[g];show bL.snoc ((t.bA (B _)).bA k) ((M.bA (B _)).bA k)
    ·rw[g];simp;lk
    ·rw[g];simp;lk
   ·show jg (decide_eq_false (λz=>y (by injection z with z;lk))) ?_
    show(_,J,n,CA,dx,_,_,J,h1,T.cl,T.na _ (by simp),FT ..,J,_,J,?_);by_cases C:x.kind=2
    ·show iu (decide_eq_true (by rw[C];rfl)) ?_
     let ne1:=hk4 C;let abe:=List.length_pos_iff.mpr ne1;let⟨z,hz⟩:∃z,f[f.length - 1]?=ag z:=(_,aL (by lk));show(_,J,.inl (J,_,eE.of p),r,_,z,J,J,p,hz,?_);let hU1:bD b r (.bZ f.dropLast) u=ag (.bZ d):=by rw[aZ j];show m
     show(_,J,.inl (J,_,eE.of hU1),_,J,u,_,_,J,J,hU1,jy (by lk),?_);let k:Grows CA (bD b r (.bZ f.dropLast)) (bD (bD b r (.bZ f.dropLast)) u (.bZ (d++[.ref n]))):=Grows.put hU1 (λz=>z);let g:kJ (e.take (c+1))= #[(kJ (e.take c)).1++[x],(kJ (e.take c)).2.dropLast]:=by
      rw[Y,sJ];unfold qH;rw[aD y,aH C]
     show(r,_,d++[.ref n],f.dropLast,J,(S.put A).put s,A,j,aw,by rw[aZ (ff j),aw],?_,?_,?_,?_)
     ·rw[g];show bL.snoc ((q.bA (gR _)).bA k) ((M.bA (gR _)).bA k)
     ·rw[g];show bL.dropLast ((t.bA (gR _)).bA k)
     ·rw[g];simp;lk
     ·rw[g];simp;lk
    ·show jg (decide_eq_false (λz=>C (by injection z with z;lk))) ?_
     show(_,J,.inl (J,_,eE.of m),_,J,u,_,_,J,J,m,jy (by lk),?_);show(bW _,λr2 N=> ?_);let k:Grows CA (bD b u (.bZ (d++[.ref n]))) (bD (bD b u (.bZ (d++[.ref n]))) r2 (.bZ [])):=Grows.new N;let g:kJ (e.take (c+1))= #[(kJ (e.take c)).1++[x],[]]:=by
      rw[Y,sJ];unfold qH;rw[aD y,aD C]
     let ur2:=bI aw N;show(r2,_,d++[.ref n],[],J,(S.put s).add N,(S.put s).free N,ur2,by rw[aZ ur2,aw],aw,?_,?_,?_,?_)
     ·rw[g];show bL.snoc ((q.bA (B _)).bA k) ((M.bA (B _)).bA k)
     ·rw[g];show .nil
     ·rw[g];simp;lk
     ·rw[g];simp
  ·rintro L b ⟨r,v,d,f,rfl,S,A,j,m,p,q,t,lU,lR⟩
   room
   rw[hl2,cu] at q t;showλaaG O=>(_,J,_,J,?_);let ud:=bI m O;let rd:=bI p O;show(aw,[#[cy 1,.ref u],#[cy 2,.ref r]],J,(by change 2<=15;decide),?_);rw[tF];let aaV:Grows CA b (bD b aaG (.dK [#[cy 1,.ref u],#[cy 2,.ref r]])):=Grows.new O;show aa5 _ aaG u r d f (S.add O) aw (by rw[aZ ud];show m) (by rw[aZ rd];show p) (q.bA aaV) (t.bA aaV)
end
def Qk{K:aq}(g:Grows d H b)(h:gg K H a c):gg K b a c:=by
 rcases h with(h|⟨o,h⟩)|h
 ·show .inl (.inl (g.dC h))
 ·show .inl (.inr (o,g.lH h))
 ·show .inr h
def oU{K:aq}(g:Grows CA H a)(h:yH K H p c):yH K a p c:=by
 let⟨b,d,e⟩:=h;show(b,Qk g d,g.pI e)
def vD:∀{l:aa d} {m:aa e},fG R l m->R a b->fG R (l++[a]) (m++[b]):=by
 intro _ _ z;induction z with
 |nil=>
  intro r;show .cons r .nil
 |cons h t c=>
  intro r;show .cons h (c r)
def sx{k:aa NK}(h:k∉a.map (·.1)):fT a k v=a++[#[k,v]]:=by
 unfold fT;rw[aD];intro z;let⟨q,b,e⟩:=pb.mp z;show h (aY.mpr (q,b,kU e))
theorem C7:∀(more a:aa (aa NK×V)),((a++more).map (·.1)).Nodup->kE a more=a++more
 |[],a,_=>by rw[dz];rfl
 |q::more,a,b=>by
  change kE (fT a q.1 q.2) more=_;let c:q.1∉a.map (·.1):=λz=>by
   rw[bz,j7] at b;show b.2.2 q.1 z q.1 (by simp) J
  rw[sx c];rw[C7 more (a++[q]) (by rw[dO];show b),dO];rfl
def qA(b:(a.map (·.1)).Nodup):kE [] a=a:=by
 let:=C7 a [] (by simpa using b);simpa using this
def HE{A B:Hp->Prop}(h:A H):Zs c H (λb a=>if b=aC then A a else B a):=by
 change(if aC=aC then A H else B H);rw[aH J];show h
abbrev PE1:=(Place×Id)×az
def gW(a:aa PE1):aa (aa NK×V):=a.map λe=> #[iL e.1.2,.ref e.2]
def CO(a:aa PE1):(gW a).map (·.1)=a.map λe=>iL e.1.2:=by unfold gW;rw[df];rfl
def CN(h:(a.map (·.1.2)).Nodup):((gW a).map (·.1)).Nodup:=by
 rw[CO];let e:(a.map λe=>iL e.1.2)=(a.map (·.1.2)).map iL:=by rw[df];rfl
 rw[e];show bN.mpr (eT (λb e=>b (jE e)) h)
structure uF(H:Hp)(es:List PE1)(plf:Id->Option Place)(n:Nat)(ord:Bool):Prop where
 at_:∀e∈es,iD H e.2 e.1.1
 ne:∀e∈es,e.1.1≠[]
 mem:∀x:Place×Id,x∈es.map (·.1)↔plf x.2=some x.1
 nd:(es.map (·.1.2)).Nodup
 Mh:ord=true->SM.M8 (es.map (·.1))
 len:es.length<=n
theorem uF.bA(g:Grows CA H a)(h:uF H b c n ord):uF a b c n ord:=(λe d=>(h.at_ e d).bA g,h.ne,h.mem,h.nd,h.Mh,h.len)
inductive Cf(K:aq)(b:aa V)(H:Hp)(Q:VK)(E:XK):Prop|mk:∀n:Nat,b=[.int (n:Int)]->n<=64->(∀a d c,bB H a->H d=au->a d=ag (.dT (gW c))->uF a c (λi=>if i.1=0/\i.2<n then ag [#[(i.2:Int),0,i.2]] else au) n aC->Q (.ref d) a)->Cf K b H Q E
section
universe a
def uB:bM ["many","k"] ["many"] (bo (fI 20)):=cB
def RW(F:fQ K mg "first_places" (fI 20) ["many"])(DF:-ig "first_place" ["k"] 1 Bm)(md:mg "dict"=au)(mr:mg "range"=au):-ig "first_places" ["many"] 2 (Cf K):=by
 show F.def uB (λvs H aax aaC h=> ?_) (λaa7 cdv abc abd s H vs aax aaC M h=> ?_)
 ·let⟨n,rfl,_⟩:=h
  rfl
 ·let⟨n,rfl,hn,k⟩:=h
  let N:=uB.nd;show(_,aV (bP (jQ (rH (Zp M) J) J md km (ak (CQ (own:=[#["k",1]]) J N (sy J mr (ak (pv 0) aB)) (mW J) (λs H aaE cl fp=>fM (i:=1) N J (gA J)) (λ_ _ _ _ _=>rm)
   (λs H aaE cl fp=>jf (ak (jf (ak aX (ak (pv 1) aB))) (ak (dU DF M J (ak (pv 1) aB)) aB)))) aB))),?_)
  room
  show(_,J,(n:Int),J,by lk,by lk,λD O=> ?_);show yr (λd o=>∃(g:aa PE1) (l:aa az),g.map (·.1)=(fA d).map (λ(k:Nat)=>(#[[#[(k:Int),0,k]],#[(0:Nat),k]]:Place×Id))/\bB H o/\(∀e∈g,iD o e.2 e.1.1)/\
   o D=ag (.bZ (l.map V.ref))/\fG (yH K o) l (gW g)) ?_ ?_ ?_
  ·show([],[],J,bB.new O,(λe j=>nomatch j),aw,.nil)
  ·rintro d o hi ⟨g,l,j,S,y,A,v⟩
   rw[bE] at hi;show(J,?_);show HE ?_;show(_,J,lB,λb B=>(_,J,d,?_,λm t r ht=>(lB,λp u=> ?_)))
   ·change [V.int (0+(d:Int))]=[V.int (d:Int)]
    rw[Yk]
   rw[Yk] at r;let Q:=r _ _ (bB.new B _ _ A);let abe:l.length=d:=by
    let T:=c9 v;let h2:=eI iJ j;unfold gW at T;simp![ao,oz] at T h2;lk
   let U:Grows 0 o (bD m p (.dC [.ref b,.ref t])):=((bB.new B).trans r).grows.trans (Grows.new u);let C:bD m p (.dC [.ref b,.ref t]) D=ag (.bZ (l.map V.ref)):=by rw[aZ (bI Q u)];show Q
   show(_,C,jy (by rw[ao];lk),g++[#[#[[#[(d:Int),0,d]],#[(0:Nat),d]],t]],l++[p],?_,?_,?_,?_,?_)
   ·rw[bz,j,uU,bz]
    rfl
   ·show(((S.add B).trans r).add u).put O
   ·let q:Grows 0 (bD m p (.dC [.ref b,.ref t])) (bD (bD m p (.dC [.ref b,.ref t])) D (.bZ (l.map V.ref++[.ref p]))):=Grows.put C (λz=>z)
    intro e he';rcases bO.mp he' with z|z
    ·show((y e z).bA U).bA q
    ·rw[bG] at z
     rw[z];show(ht.bA (Grows.new (CA:=0) u)).bA q
   ·rw[aw,bz];rfl
   ·let q:Grows 0 (bD m p (.dC [.ref b,.ref t])) (bD (bD m p (.dC [.ref b,.ref t])) D (.bZ (l.map V.ref++[.ref p]))):=Grows.put C (λz=>z)
    let E:gW (g++[#[#[[#[(d:Int),0,d]],#[(0:Nat),d]],t]])=gW g++[#[iL #[0,d],.ref t]]:=by unfold gW;rw[bz];rfl
    rw[E];show vD (Paired.Rj v λa c z=>oU q (oU U z)) (b,gg.of (q.dC aw),?_);let hb2:eW (bD m p (.dC [.ref b,.ref t])) b #[0,d]:=by
     change bD m p _ b=_;let Y:=r _ _ (aw);rw[aZ (bI Y u)];show Y
    show(eW.bA q hb2).key
  ·rintro o ⟨g,l,j,S,y,A,v⟩
   rw[bE] at j;let ndi:(g.map (·.1.2)).Nodup:=by
    let E:g.map (·.1.2)=(g.map (·.1)).map (·.2):=by rw[df];rfl
    rw[E,j,df];show bN.mpr (eT (λhne e=>hne (by simpa using e)) AG)
   show(D,l,gW g,J,eE.of A,v,λaa1 I=> ?_);rw[qA (CN ndi)];let mem:∀x:Place×Id,x∈g.map (·.1)↔(if x.2.1=0/\x.2.2<n then ag [#[(x.2.2:Int),0,x.2.2]] else au)=ag x.1:=λx=>by
    rw[j];constructor
    ·intro z
     let⟨k,L,rfl⟩:=aY.mp z;rw[aH (J,iI.mp L)]
    ·intro z
     split at z
     ·rename_i c
      show aY.mpr (x.2.2,iI.mpr c.2,?_);let z':=aJ z;let⟨p,a,b⟩:=x;let⟨c1,c2⟩:=c;simp only at c1 z'⊢;rw[c1,z']
     ·cases z
   show k _ aa1 g (S.add I) (S.free I) aw (λe h=>(y e h).bA (Grows.new (CA:=0) I),λe h=> ?_,mem,ndi,λ_=> ?_,?_)
   ·let:=dm (f:=(·.1)) h
    rw[j] at this;let⟨k,_,L⟩:=aY.mp this;rw[<-L];simp
   ·rw[j]
    unfold M8;show bN.mpr (eT (λ{a b} hab=> ?_) List.pairwise_lt_range);change YT [#[(a:Int),0,a]] [#[(b:Int),0,b]]=aC;rw[qG]
    left
    rw[mj]
    left
    change(a:Int)<(b:Int);lk
   ·let:=eI iJ j
    simp![ao,oz] at this;lk
end
inductive pN
 |self|eV|kH|kz|cnt|rq|zx|zw|xn
deriving DecidableEq
def oK(a:Nat):pN:=if a=0 then .zx else .zw
def oN(R:pN->az)(a:Nat):aa (cX×V):=[#["time",.int (a:Int)],#["had",.ref (R .eV)],#["came",.ref (R .kH)],#["waiting",.ref (R .kz)],#["counting",.ref (R .cnt)],#["places",.ref (R .rq)],#["unordered",.ref (R .xn)]]
abbrev iS:aa cX:=["time","had","came","waiting","counting","places","unordered"]
structure AB(CA:Addr)(H:Hp)(kvs:List (List NK×V))(win:k9->Option Act)(n:Nat):Prop where
 val:∀k,yI k->(win k=none/\dZ kvs (kk k)=none)\/∃x v,win k=some x/\dZ kvs (kk k)=some v/\gP CA H v x
 keys:∀q∈kvs,∃k,yI k/\q.1=kk k
 nd:(kvs.map (·.1)).Nodup
 len:kvs.length<=n
theorem AB.bA(g:Grows CA H a)(h:AB CA H b c n):AB CA a b c n:=by
 show(λk d=> ?_,h.keys,h.nd,h.len);rcases h.val k d with z|⟨x,v,e,f,i⟩
 ·show .inl z
 ·show .inr (x,v,e,f,i.bA g)
def rQ(CA:az)(H:Hp)(b:aa (aa NK×V))(c:aa Act):Prop:=∃a:aa Act,a.Perm c/\SM.bL (λq x=>q.1=iL #[x.hand,x.number]/\gP CA H q.2 x) b a
theorem rQ.bA(g:Grows CA H b)(h:rQ CA H c d):rQ CA b c d:=by
 let⟨e,p,a⟩:=h;show(e,p,bL.imp (λ_ _ z=>(z.1,z.2.bA g)) a)
def Ag(u:aa Nat):aa (L2.Key×V):=u.map λ(a:Nat)=> #[cy (a:Int),V.bl aC]
def JD(u:aa Nat):Prop:=u=[]\/u=[0]\/u=[1]\/u=[0,1]\/u=[1,0]
structure bT(CA N:Addr)(H:Hp)(R:pN->Addr)(b:Sw58.Base)(acts waits:List Act)(win:k9->Option Act)(tm:Nat)(eV:List Nat)(n:Nat):Prop where
 inj:∀r r',R r=R r'->r=r'
 self:∃dx,H (R .self)=some (.lM N dx (oN R tm))
 eV:H (R .eV)=some (.bZ (eV.map λ(n:Nat)=>V.int (n:Int)))
 kH:∃vs,H (R .kH)=some (.bZ vs)/\sM CA H vs acts
 kz:∃kvs,H (R .kz)=some (.dT kvs)/\rQ CA H kvs waits
 cnt:∃kvs,H (R .cnt)=some (.dT kvs)/\AB CA H kvs win n
 rq:H (R .rq)=some (.bZ [.ref (R .zx),.ref (R .zw)])
 pl:∃u,JD u/\H (R .xn)=some (.dK (Ag u))/\∀ax,ax<2->∃es,H (R (oK ax))=some (.dT (gW es))/\uF H es (λi=>SM.vC win ax (SM.gx b ax) i) (64+n) (!u.contains ax)
def bQ(F:az->Prop)(H a:Hp):Prop:=∀b o,H b=ag o->¬F b->a b=ag o
def mkR(p a b c d e f g h:az):pN->az
 | .self=>p| .eV=>a| .kH=>b| .kz=>c| .cnt=>d| .rq=>e| .zx=>f| .zw=>g| .xn=>h
def bQ.refl:bQ F H H:=λ_ _ h _=>h
def bQ.trans(a:bQ F H d)(b:bQ F d e):bQ F H e:=λc o h n=>b c o (a c o h n) n
def bQ.same(a:bQ F H d)(b:bB d e):bQ F H e:=λc o h n=>b c o (a c o h n)
theorem bQ.new(a:bQ F H b)(h:b x=au):bQ F H (bD b x o):=a.same (bB.new h)
def bQ.put(a:bQ F H b)(h:F x):bQ F H (bD b x o):=λc u e n=>by
 rw[aZ (λz=>n (by rw[z];show h))];show a c u e n
def bQ.bA(a:bQ F H d)(h:∀b,F b->G b):bQ G H d:=λc o e n=>a c o e λz=>n (h c z)
def bQ.rA(a:bB H b):bQ F H b:=λc o h _=>a c o h
structure Pk(H0:Hp)(p:Addr)(H:Hp)(o:HO)(l:List (Addr×HO)):Prop where
 head:H p=some o
 at_:∀q∈l,H q.1=some q.2
 nd:(p::l.map (·.1)).Nodup
 keep:bQ (·=p) H0 H
 fresh:∀q∈l,H0 q.1=none
theorem Pk.put(h:Pk b p H o l):Pk b p (bD H p o') o' l:=by
 show(aw,λq a=> ?_,h.nd,h.keep.put J,h.fresh);let:=(eJ.mp h.nd).1;rw[aZ (λz=>this (by rw[<-z];show dm a))];show h.at_ q a
def Pk.add(h:Pk d p H o l)(S:bB H f)(c:H a=au)(i:f a=ag u):Pk d p f o (#[a,u]::l):=by
 let g:=bI h.head c;show(S _ _ h.head,λq b=> ?_,?_,h.keep.same S,λq b=> ?_)
 ·rcases aT.mp b with z|z
  ·rw[z];show i
  ·show S _ _ (h.at_ q z)
 ·let⟨j,k⟩:=eJ.mp h.nd
  show eJ.mpr (λz=> ?_,eJ.mpr (λz=> ?_,k))
  ·rcases aT.mp z with y|y
   ·show g y
   ·show j y
  ·let⟨q,b,e⟩:=aY.mp z
   let:=h.at_ q b;rw[e,c] at this;cases this
 ·rcases aT.mp b with z|z
  ·rw[z]
   cases e:d a with
   |none=>rfl
   |some y=>
    let:=h.keep a y e (λz=>g z.symm);rw[c] at this;cases this
  ·show h.fresh q z
theorem Pk.new(h:Pk c p H o l)(b:H a=au):Pk c p (bD H a u) o (#[a,u]::l):=h.add (bB.new b) b aw
def Pk.begin_(h:b p=ag o):Pk b p b o []:=(h,(λq a=>nomatch a),by simp,bQ.refl,(λq a=>nomatch a))
def cF(R:pN->az)(a:Nat):(oN R a).lookup ("time":cX)=ag (.int (a:Int))/\(oN R a).lookup ("had":cX)=ag (.ref (R .eV))/\(oN R a).lookup ("came":cX)=ag (.ref (R .kH))/\(oN R a).lookup ("waiting":cX)=ag (.ref (R .kz))/\
  (oN R a).lookup ("counting":cX)=ag (.ref (R .cnt))/\(oN R a).lookup ("places":cX)=ag (.ref (R .rq))/\(oN R a).lookup ("unordered":cX)=ag (.ref (R .xn)):=(J,J,J,J,J,J,J)
section
universe a
variable{CA N:az}
inductive xt(CA N:az)(b:aa V)(H:Hp)(Q:VK)(E:XK):Prop|mk:∀(p d:az) (r c n:Nat),b=[.ref p,.int (r:Int),.int (c:Int),.int (n:Int)]->H p=ag (.lM N d [])->r<=64->c<=64->n<=8->(∀a R,R .self=p->(∀x,x≠.self->H (R x)=au)->bQ (·=p) H a->bT CA N a R (r,c,n) [] [] (λ_=>au) 0 (bR n 0) 0->Q .jn a)->xt CA N b H Q E
def GB:bM ["self","rows","cols","hands"] ["self","rows","cols","hands"] (bo (cQ (fI 19) 0)):=cB
def VD(F:ip K N "__init__" "Copy.__init__" (cQ (fI 19) 0) ["self","rows","cols","hands"])(hne:N≠CA)(T:dY K N iS)(t:-ig "first_places" ["many"] 2 (Cf K)):
  -eC N "__init__" ["self","rows","cols","hands"] 3 (xt CA N):=by
 show F.def GB (λvs aax aaC aaE h=> ?_) (λabo cdv abB abC abD aax vs aaC aaE v h=> ?_)
 ·let⟨p,a,r,c,n,rfl,_⟩:=h
  rfl
 ·let⟨p,a,r,c,n,rfl,y,hr1,hc1,hn1,k⟩:=h
  show(_,ay (mJ (pv 0) aX J) (ay (mJ (pv 0) (ij Q5 (d9 (ak aX aB)) (pv 3)) J) (ay (mJ (pv 0) (d9 aB) J) (ay (mJ (pv 0) qx J) (ay (mJ (pv 0) qx J)
   (ay (mJ (pv 0) (d9 (ak (dU t v J (ak (pv 1) aB)) (ak (dU t v J (ak (pv 2) aB)) aB))) J) (aV (mJ (pv 0) QY J))))))),?_)
  room
  let B0:=Pk.begin_ y;show(_,J,p,N,a,_,J,y,T.cl,T.na _ (by simp),(by change 0<1000;decide),?_);let B1:=B0.put (o':=.lM N a (gM "time" (.int 0) []));show(eR,λaa0 hl=>(_,J,aa0,(n:Int),_,J,J,aw,by lk,by lk,?_,λb hhd=> ?_))
  ·rw[bE,dN]
   change 1*n<=_;lk
  let z:=(B1.new (u:=.bZ [.int 0]) hl).new (u:=.bZ (bR ((n:Int)).toNat [V.int 0]).flatten) hhd;show(_,J,p,N,a,_,J,z.head,T.cl,T.na _ (by simp),(by change 1<1000;decide),?_);let B3:=z.put (o':=.lM N a (gM "had" (.ref b) (gM "time" (.int 0) [])));show(bW _,λd hcm=> ?_);let A:=B3.new (u:=.bZ []) hcm;show(_,J,p,N,a,_,J,A.head,T.cl,T.na _ (by simp),(by change 2<1000;decide),?_);let B5:=A.put (o':=.lM N a (gM "came" (.ref d) (gM "had" (.ref b) (gM "time" (.int 0) []))));intro e hwt;let B:=B5.new (u:=.dT []) hwt;show(_,J,p,N,a,_,J,B.head,T.cl,T.na _ (by simp),(by change 3<1000;decide),?_);let B7:=B.put (o':=.lM N a (gM "waiting" (.ref e) (gM "came" (.ref d) (gM "had" (.ref b) (gM "time" (.int 0) [])))));intro g hct;let C:=B7.new (u:=.dT []) hct;show(_,J,p,N,a,_,J,C.head,T.cl,T.na _ (by simp),(by change 4<1000;decide),?_);let B9:=C.put (o':=.lM N a (gM "counting" (.ref g) (gM "waiting" (.ref e) (gM "came" (.ref d) (gM "had" (.ref b) (gM "time" (.int 0) []))))));show(_,J,r,J,hr1,λH1 D es0 S1 f1 h1 p1=>(_,J,c,J,hc1,λH2 E es1 H f2 h2 p2=>(lB,λi I=> ?_)));let j:=((B9.add S1 f1 h1).add H f2 h2).new (u:=.bZ [.ref D,.ref E]) I;show(_,J,p,N,a,_,J,j.head,T.cl,T.na _ (by simp),(by change 5<1000;decide),?_);let B11:=j.put (o':=.lM N a (gM "places" (.ref i) (gM "counting" (.ref g) (gM "waiting" (.ref e) (gM "came" (.ref d) (gM "had" (.ref b) (gM "time" (.int 0) [])))))));intro l L;let m:=B11.new (u:=.dK []) L;show(_,J,p,N,a,_,J,m.head,T.cl,T.na _ (by simp),(by change 6<1000;decide),?_);let f:=m.put (o':=.lM N a (gM "unordered" (.ref l) (gM "places" (.ref i) (gM "counting" (.ref g) (gM "waiting" (.ref e) (gM "came" (.ref d) (gM "had" (.ref b) (gM "time" (.int 0) []))))))));let M:∀O,¬VN CA (.lM N a O):=λO abh=>hne abh.1;let s:=((((Grows.new I).trans (Grows.put j.head (M _))).trans (Grows.new L)).trans (Grows.put (o:=.lM N a (gM "unordered" (.ref l) (gM "places" (.ref i) (gM "counting" (.ref g) (gM "waiting" (.ref e) (gM "came" (.ref d) (gM "had" (.ref b) (gM "time" (.int 0) [])))))))) m.head (M _)));generalize bD _ _ _=Q at f s⊢;let at_:=f.at_;let abi:=f.nd;let U:=f.fresh;simp![aT,mI,or_false,forall_eq_or_imp,forall_eq] at at_ U;let⟨a1,a2,a3,a4,a5,a6,a7,a8,a9⟩:=at_;let⟨f1',f2',f3',f4',f5',f6',f7',f8',f9'⟩:=U;show k Q (mkR p b d e g i D E l) J (λx hx=> ?_) f.keep (λx abl abm=> ?_,(a,f.head),?_,([],a7,.nil),([],a6,[],.nil,.nil),([],a5,λk _=>.inl (J,J),(λq hq=>nomatch hq),.nil,aS _),a2,[],.inl rfl,a1,λY hax=> ?_)
  ·cases x<;>first|show(hx rfl).elim|assumption
  ·simp![bi,qo,eJ,aT,mI,or_false,not_or,not_false_eq_true,Tg,and_true] at abi
   cases x<;>cases abl<;>first|rfl|(exfalso;simp![mkR] at abm;simp_all)
  ·change Q b=_
   rw[a8,bE,List.map_replicate]
   congr 2
   rw[List.flatten_replicate_singleton];rfl
  ·let abn:Y=0\/Y=1:=by lk
   rcases abn with rfl|rfl
   ·show(es0,a4,?_)
    let q:=(p1.bA (CA:=CA) H.grows).bA s;show(q.at_,q.ne,q.mem,q.nd,q.Mh,by let:=q.len;lk)
   ·show(es1,a3,?_)
    let q:=p2.bA s;show(q.at_,q.ne,q.mem,q.nd,q.Mh,by let:=q.len;lk)
end
def Ux{K:aq}{g:TG}{r:TT}{s:TE}{t:Hp->Prop}(hxy:xs.length=ys.length)(Pv:Nat->Hp->Prop)(A:Pv 0 (bD B D (.bZ [])))(hl:∀i H,i<=xs.length->Pv i H->gg K H a xs/\eE K H b ys)
  (C:∀i x y T H,xs[i]?=ag x->ys[i]?=ag y->H T=au->Pv i H->g (.ref T) (nv k f) (bD H T (.dC [x,y])) λc l=>nv c f=nv k f/\r c l λb h=>
   if b=aC then s c h λy j=>∃d,j D=ag (.bZ d)/\d.length<bf/\Pv (i+1) (bD j D (.bZ (d++[y]))) else Pv (i+1) h)(E:∀H,Pv xs.length H->t H):
  ∃W:Nat->Nat->Hp->Prop,(∃m,W 0 m (bD B D (.bZ [])))/\∀i m H,W i m H->
   ((Sf K a b).stop i H/\t H)\/((Sf K a b).go i H/\∃n:Hp->Prop,(∀e,n e->∃u,u<m/\W (i+1) u e)/\∀x e,(Sf K a b).Pg i H x e->g x (nv k f) e λc l=>nv c f=nv k f/\r c l λb h=>
    if b=aC then s c h λy j=>∃d,j D=ag (.bZ d)/\d.length<bf/\n (bD j D (.bZ (d++[y]))) else n h):=by
 show(λi m H=>m+i=xs.length/\Pv i H,(xs.length,by lk,A),?_);rintro i m H ⟨hm,p⟩;let⟨o,q⟩:=hl i H (by lk) p;by_cases I:i<xs.length
 ·let⟨x,L⟩:∃x,xs[i]?=ag x:=(_,aL I)
  let⟨y,M⟩:∃y,ys[i]?=ag y:=(_,aL (by lk));show .inr ((xs,ys,x,y,o,q,L,M),Pv (i+1),λe O=>(m - 1,by lk,by lk,O),λv e z=> ?_);let⟨T,Q,U,rfl,hT,rfl,Y,h2⟩:=z;show C i Q U T H (Y xs o) (h2 ys q) hT p
 ·let aav:i=xs.length:=by lk
  subst aav;show .inl ((xs,ys,o,q,aS _),E H p)
section
universe a
variable{CA N:az}
inductive Cd(CA N:az)(c:aa V)(H:Hp)(Q:VK)(E:XK):Prop|mk:∀(a f d:az) (e:aa (cX×V)) (b:aa Nat) (v:V) (x:Act),c=[.ref a,v]->H a=ag (.lM N f e)->e.lookup ("had":cX)=ag (.ref d)->H d=ag (.bZ (b.map λ(n:Nat)=>V.int (n:Int)))->gP CA H v x->1<=x.hand->x.hand<=b.length->Q (.bl (decide (x.number<=b.getD (x.hand - 1) 0))) H->Cd CA N c H Q E
def KN:bM ["self","act"] ["self","act"] (bo (cQ (fI 19) 2)):=cB
def Rf{a:aa Nat}(h:i<a.length):(a.map λ(n:Nat)=>V.int (n:Int))[i]?=ag (.int ((a.getD i 0:Nat):Int)):=by
 rw[aF,aL h,bS,aL h];rfl
def YE(F:ip K N "has_act" "Copy.has_act" (cQ (fI 19) 2) ["self","act"])(T:dY K N iS)(TA:dY K CA rK):-eC N "has_act" ["self","act"] 1 (Cd CA N):=by
 show F.def KN (λl H Q E h=> ?_) (λf t A u s H l Q E y h=> ?_)
 ·let⟨a,c,d,m,b,v,x,rfl,_⟩:=h
  rfl
 ·let⟨a,c,d,m,b,v,x,rfl,n,o,q,r,z,B,k⟩:=h
  let⟨p,g,C,D,I,L,rfl,i,_⟩:=r.at_;show(_,aV (bP (tY jz (cA (pv 1) J) (jm cG (cA (pv 0) J) (ij pK (cA (pv 1) J) aX)) (fU _))),?_)
  room
  show(_,J,p,CA,g,_,_,J,i,TA.cl,TA.na _ (by simp),kN ..,_,J,a,N,c,_,_,J,n,T.cl,T.na _ (by simp),o,_,J,p,CA,g,_,_,J,i,TA.cl,TA.na _ (by simp),kI ..,_,_,J,J,?_);show(d,_,_,_,J,J,eE.of q,VI (j:=x.hand - 1) (by lk) (Rf (by lk)),_,_,J,J,?_);let e:decide ((x.number:Int)<=((b.getD (x.hand - 1) 0:Nat):Int))=decide (x.number<=b.getD (x.hand - 1) 0):=by simp
  change Q (.bl (decide ((x.number:Int)<=((b.getD (x.hand - 1) 0:Nat):Int)))) H;rw[e];show k
def Ar(a b:aa Nat):Bool:=(yY (λx y=>decide (x<=y)) a b).all id
inductive zo(CA N:az)(c:aa V)(H:Hp)(Q:VK)(E:XK):Prop|mk:∀a g d e b v x,c=[.ref a,v]->H a=ag (.lM N g e)->e.lookup ("had":cX)=ag (.ref d)->H d=ag (.bZ (b.map λ(n:Nat)=>V.int (n:Int)))->gP CA H v x->x.knows.length=b.length->b.length<=8->(∀f,bB H f->Q (.bl (Ar x.knows b)) f)->zo CA N c H Q E
def Al:bM ["self","act","known","had"] ["self","act"] (bo (cQ (fI 19) 4)):=cB
def Xy(F:ip K N "is_ready" "Copy.is_ready" (cQ (fI 19) 4) ["self","act"])(T:dY K N iS)(TA:dY K CA rK)(u:mg "all"=au)(z:mg "zip"=au):-eC N "is_ready" ["self","act"] 1 (zo CA N):=by
 show F.def Al (λA H Q E h=> ?_) (λaaE cdv aaV aa0 s H A Q E hr h=> ?_)
 ·let⟨a,f,j,B,d,v,x,rfl,_⟩:=h
  rfl
 ·let⟨a,f,j,B,d,v,x,rfl,C,I,l,L,M,x2,k⟩:=h
  let⟨p,O,U,wr,od,kvs,rfl,Y,o,_⟩:=L.at_;let e:=Al.nd;show(_,aV (bP (d7 (XH J) J u Ze (ak (CQ (own:=[#["known",2],#["had",3]]) (g:=Xq K 2 (MT (rE 2) (MT (rE 3) aah))) J e (T9 J z (ak (cA (pv 1) J) (ak (cA (pv 0) J) aB))) (mW J)
   (λs H aav aax fp=>K9 J (sA (fM e J (gA J) (.inr rfl)) (sA (fM e J (gA J) (.inr rfl)) GO))) (λ_ _ _ _ _=>rm) (λs H aav aax fp=>tY jz (pv 2) (pv 3) (fU _))) aB))),?_)
  room
  show(_,J,p,CA,O,_,_,J,Y,TA.cl,TA.na _ (by simp),xE ..,_,J,a,N,f,_,_,J,C,T.cl,T.na _ (by simp),I,U,j,_,_,J,gg.of o,eE.of l,λD q=> ?_);show Ux (xs:=x.knows.map λ(n:Nat)=>V.int (n:Int)) (ys:=d.map λ(n:Nat)=>V.int (n:Int)) (by rw[ao,ao];show M) (λi b=>bB H b/\b D=ag (.bZ (((yY (λx y=>decide (x<=y)) x.knows d).take i).map V.bl))) ?_ ?_ ?_ ?_
  ·show(bB.new q,aw)
  ·rintro i b _ ⟨S,_⟩
   show(gg.of (S _ _ o),eE.of (S _ _ l))
  ·rintro i x' y' Tt b r t hT ⟨S,c⟩
   let⟨m,hm,rfl⟩:=bv.mp (by rw[aF] at r;show r);let⟨n,hn,rfl⟩:=bv.mp (by rw[aF] at t;show t);show(Tt,_,J,gg.of aw,J,_,_,J,_,_,J,J,J,HE ?_);show(_,J,_,J,_,_,J,J,_,by rw[aZ (bI c hT)];show c,jy ?_,(S.add hT).put q,?_)
   ·rw[ao,dq,qg];lk
   ·rw[aw]
    let aaC:(yY (λx y=>decide (x<=y)) x.knows d)[i]?=ag (decide (m<=n)):=by
     rw[JW,hm,hn]
    rw[cE,aaC,bz];let e2:decide ((m:Int)<=(n:Int))=decide (m<=n):=by simp
    change ag (HO.bZ (_++[V.bl (decide ((m:Int)<=(n:Int)))]))=_;rw[e2];rfl
  ·rintro b ⟨S,c⟩
   rw[ao,oy (by rw[qg];lk)] at c;show(D,_,J,eE.of c,k b S)
inductive Ce(CA N:az)(d:aa V)(H:Hp)(Q:VK)(E:XK):Prop|mk:∀a g e t f b k,d=[.ref a,.ref t]->H a=ag (.lM N g f)->f.lookup ("counting":cX)=ag (.ref e)->H e=ag (.dT b)->yI k->uN H t k->((dZ b (kk k)=au/\∀c v,bB H c->mX c k (vL k) v->Q v c)\/∃x u v,dZ b (kk k)=ag u/\gP CA H u x/\eM x k=ag v/\(∀w∈x.writes,yI w.1)/\∀y,mX H k v y->Q y H)->Ce CA N d H Q E
def Qz:bM ["self","target","act"] ["self","target"] (bo (cQ (fI 19) 8)):=cB
def adK(F:ip K N "has" "Copy.has" (cQ (fI 19) 8) ["self","target"])(T:dY K N iS)(TA:dY K CA rK)(m:-ig "at_first" ["target"] 2 wb):-eC N "has" ["self","target"] 3 (Ce CA N):=by
 show F.def Qz (λn H Q E h=> ?_) (λaav cdv aaC aaE aaG H n Q E c h=> ?_)
 ·let⟨a,f,g,i,o,q,k,rfl,_⟩:=h
  rfl
 ·let⟨a,f,g,i,o,q,k,rfl,r,s,j,ok,d,b⟩:=h
  show(_,ay (dW 2 Qz.nd (IH (uX c) (cA (pv 0) J) (pv 1) (J,J,J,J)))
   (aV (bP (mV (fL rO (pv 2) kP (fU _)) (dU m c J (ak (pv 1) aB)) (kQ (uX c) (cA (pv 2) J) (pv 1) (λ_ _=>rfl))))),?_)
  room
  show(_,J,a,N,f,_,_,J,r,T.cl,T.na _ (by simp),s,g,J,.inr (_,.inl j),_,J,_,oW.t j d,?_);rcases b with⟨u,b⟩|⟨aaV,aa0,v,x,A,hw,B,b⟩
  ·rw[u]
   show(_,J,J,_,J,iu J (_,J,i,k,J,ok,d,λC v S D=>b C v S D))
  ·rw[x]
   let⟨p,I,kn,L,od,kws,rfl,M,g2,O,U⟩:=A.at_;show(_,J,J,_,J,jg (decide_eq_false (λz=>nomatch z)) ?_);rcases U.pQ B ok with⟨_,e⟩|⟨v',y,Y,l,e3⟩
   ·rw[e] at hw;cases hw
   ·rw[hw] at l
    cases l;show(_,J,p,CA,I,_,_,J,M,TA.cl,TA.na _ (by simp),kM ..,_,J,L,y,J,.inr (_,_,_,.inr (_,O),J,d,Y.symm),b y e3)
def DU(a b:az)(c:Nat):az:=if c=0 then a else b
inductive xq(N:az)(k:aa V)(H:Hp)(Q:VK)(E:XK):Prop|mk:∀a m l d e f t g i b h n p c j,k=[.ref a,.ref t,.ref g]->H a=ag (.lM N m i)->i.lookup ("places":cX)=ag (.ref l)->i.lookup ("unordered":cX)=ag (.ref d)->H l=ag (.bZ [.ref e,.ref f])->b<2->H (DU e f b)=ag (.dT c)->H d=ag (.dK j)->uN H t [2*b,h,n]->iD H g p->c.length<1000000->j.length<1000000->Q .jn (bD (bD H (DU e f b) (.dT (if p=[] then jV c (iL #[h,n]) else fT c (iL #[h,n]) (.ref g)))) d (.dK (fT j (cy (b:Int)) (.bl aC))))->xq N k H Q E
def yc:bM ["self","target","place","axis"] ["self","target","place"] (bo (cQ (fI 19) 6)):=cB
def BR{a:Nat}(h:a<2):Hs [V.ref b,V.ref c] (a:Int)=ag (.ref (DU b c a)):=by
 let:a=0\/a=1:=by lk
 rcases this with rfl|rfl
 ·show b9 J
 ·show b9 J
def VA(F:ip K N "set_place" "Copy.set_place" (cQ (fI 19) 6) ["self","target","place"])(hne:N≠CA)(T:dY K N iS)(DA:-ig "axis_of_place" ["target"] 1 Ck):-eC N "set_place" ["self","target","place"] 2 (xq N):=by
 show F.def yc (λvs H aav aax h=> ?_) (λaa0 cdv aa5 aa7 abb H vs aav aax q h=> ?_)
 ·let⟨a,c,r,j,d,f,A,B,C,b,h,n,p,l,D,rfl,_⟩:=h
  rfl
 ·let⟨a,c,r,j,d,f,A,B,C,b,h,n,p,l,D,rfl,m,E,s,I,L,g,u,M,hp,l1,l2,i⟩:=h
  let⟨aaC,e,O⟩:=BW M;let⟨bs,ep,Q⟩:=hp.dC;show(_,ay (dW 3 yc.nd (dU DA q J (ak (pv 1) aB)))
   (ay (fO (qv (pv 2) (λ_=>rfl)) (aV (tV (uX q) (jm cG (cA (pv 0) J) (pv 3)) (jm ef (pv 1) aX) (pv 2) J))
    (aV (fY (QW (uX q) (jm cG (cA (pv 0) J) (pv 3)) (jm ef (pv 1) aX) kP (J,J,J,J)))))
   (aV (tV (uX q) (cA (pv 0) J) (pv 3) MC J))),?_)
  room
  show(_,J,A,b,h,n,J,M,_,J,_,.inr (.inl (_,gg.of ep,J)),?_);let U:∀o:HO,bD H (DU d f b) o=bD H (DU d f b) o->bD H (DU d f b) o a=ag (.lM N c C)/\bD H (DU d f b) o j=ag (.dK D):=λo _=>(by rw[aZ (Fv m g (λz=>nomatch z))];show m,by rw[aZ (Fv u g (λz=>nomatch z))];show u);cases p with
  |nil=>
   cases Q;show jg J ?_;show(_,J,a,N,c,_,_,J,m,T.cl,T.na _ (by simp),E,_,J,r,_,_,_,J,J,eE.of I,BR L,_,J,.inr (_,.inl g),_,J,_,_,_,_,J,J,gg.of e,b9 J,l,iL #[h,n],aaC,g,J,O.key,λv Y=> ?_,λY=> ?_)
   ·let⟨x,y⟩:=U (.dT (jV l (iL #[h,n]))) J
    show(_,J,a,N,c,_,_,J,x,T.cl,T.na _ (by simp),s,_,J,j,_,J,xG.k (k:=cy (b:Int)) y (jy (by lk)),i)
   ·let e2:=Dz (HJ Y)
    rw[aH J,e2] at i;let e3:bD H (DU d f b) (.dT l)=H:=by
     funext aaE;by_cases hc:aaE=DU d f b
     ·rw[hc,aw,g]
     ·rw[aZ hc]
    rw[e3] at i;show(_,J,a,N,c,_,_,J,m,T.cl,T.na _ (by simp),s,_,J,j,_,J,xG.k (k:=cy (b:Int)) u (jy (by lk)),i)
  |cons aaG p=>
   cases Q;show iu J ?_;rw[aD (PJ aaG p)] at i;show(_,J,_,J,a,N,c,_,_,J,m,T.cl,T.na _ (by simp),E,_,J,r,_,_,_,J,J,eE.of I,BR L,_,J,_,_,_,_,J,J,gg.of e,b9 J,_,_,J,xG.t g O.key (jy (by lk)),?_);let⟨x,y⟩:=U (.dT (fT l (iL #[h,n]) (.ref B))) J;show(_,J,a,N,c,_,_,J,x,T.cl,T.na _ (by simp),s,_,J,j,_,J,xG.k (k:=cy (b:Int)) y (jy (by lk)),i)
end
section
variable{CA N:az}{H U:Hp}{R:pN->az}{b:gq}{acts waits:aa Act}{afK:k9->ae Act}{tm n:Nat}{afM:aa Nat}
def bT.same(C:bT CA N H R b acts waits afK tm afM n)(S:bB H U):bT CA N U R b acts waits afK tm afM n:=by
 let g:Grows CA H U:=S.grows;let⟨a,c⟩:=C.self;let⟨d,e,f⟩:=C.kH;let⟨h,i,j⟩:=C.kz;let⟨k,l,m⟩:=C.cnt;let⟨u,o,p,q⟩:=C.pl;show(C.inj,(a,S _ _ c),S _ _ C.eV,(d,S _ _ e,f.bA g),(h,S _ _ i,j.bA g),(k,S _ _ l,m.bA g),S _ _ C.rq,u,o,S _ _ p,λr s=> ?_);let⟨t,v,w⟩:=q r s;show(t,S _ _ v,w.bA g)
def bT.ne(C:bT CA N H R b acts waits afK tm afM n)(h:r≠a):R r≠R a:=λe=>h (C.inj r a e)
def bT.more(C:bT CA N H R b acts waits afK tm afM n)(h:n<=m):bT CA N H R b acts waits afK tm afM m:=by
 let⟨d,e,c⟩:=C.cnt;let⟨u,f,g,i⟩:=C.pl;show(C.inj,C.self,C.eV,C.kH,C.kz,(d,e,c.val,c.keys,c.nd,by let:=c.len;lk),C.rq,u,f,g,λj k=> ?_);let⟨l,o,a⟩:=i j k;show(l,o,a.at_,a.ne,a.mem,a.nd,a.Mh,by let:=a.len;lk)
def bT.congr(C:bT CA N H R b acts waits afK tm afM n)(h:∀k,yI k->f k=afK k):bT CA N H R b acts waits f tm afM n:=by
 let⟨g,i,c⟩:=C.cnt;let⟨u,j,l,m⟩:=C.pl;show(C.inj,C.self,C.eV,C.kH,C.kz,(g,i,λk d=> ?_,c.keys,c.nd,c.len),C.rq,u,j,l,λe o=> ?_)
 ·rw[h k d];show c.val k d
 ·let⟨p,q,a⟩:=m e o
  show(p,q,a.at_,a.ne,λx=> ?_,a.nd,a.Mh,a.len);rw[tX (h _ (.inl (2*e,x.2.1,x.2.2,by lk,J)))];show a.mem x
def NW{k:aa NK}(g:(a.map (·.1)).Nodup):((fT a k v).map (·.1)).Nodup/\∀q∈fT a k v,q.1=k\/q∈a:=by
 cases e:dZ a k with
 |none=>
  rw[L2.sx v e];show(?_,λq d=> ?_)
  ·rw[bz,j7]
   show(g,by simp,λx h y i z=> ?_);let:y=k:=by simpa using i
   rw[z,this] at h;show HJ e h
  ·rcases bO.mp d with z|z
   ·show .inr z
   ·rw[bG] at z;rw[z];show .inl rfl
 |some u=>
  unfold fT;rw[aH (by rw[ph,e];rfl)];show(?_,λq d=> ?_)
  ·let:(a.map λf=>if f.1=k then #[f.1,v] else f).map (·.1)=a.map (·.1):=by
    rw[df];apply jb;intro q _;change(if q.1=k then #[q.1,v] else q).1=q.1;split<;>rfl
   rw[this];show g
  ·let⟨p,j,rfl⟩:=aY.mp d
   by_cases c:p.1=k
   ·rw[aH c];show .inl c
   ·rw[aD c];show .inr j
def AB.put(h:AB CA H a afK n)(d:yI k){x:Act}(f:gP CA H v x):AB CA H (fT a (kk k) v) (λj=>if j=k then ag x else afK j) (n+1):=by
 let⟨g,i⟩:=NW h.nd;show(λj e=> ?_,λq l=> ?_,g,by let:=nQ a (kk k) v;let:=h.len;lk)
 ·rw[qp]
  by_cases c:j=k
  ·subst c
   rw[aH J,aH J];show .inr (x,v,J,J,f)
  ·rw[aD c,aD (λz=>c (zF e d z))]
   show h.val j e
 ·rcases i q l with z|z
  ·show(k,d,z)
  ·show h.keys q z
def uF.put(h:uF H l r n ord)(s:iD H k p)(t:p≠[]):∃v,gW v=fT (gW l) (iL i) (.ref k)/\uF H v (λj=>if j=i then ag p else r j) (n+1) aA:=by
 by_cases c:i∈l.map (·.1.2)
 ·show(l.map λe=>if e.1.2=i then #[#[p,i],k] else e,?_,?_)
  ·unfold fT
   rw[aH]
   ·unfold gW
    rw[df,df];apply jb;intro e _;change #[iL (if e.1.2=i then #[#[p,i],k] else e).1.2,V.ref (if e.1.2=i then #[#[p,i],k] else e).2]=if iL e.1.2=iL i then #[iL e.1.2,V.ref k] else #[iL e.1.2,V.ref e.2]
    by_cases d:e.1.2=i
    ·rw[aH d,aH (by rw[d]),d]
    ·rw[aD d,aD (λz=>d (jE z))]
   ·rw[pb]
    let⟨e,a,m⟩:=aY.mp c;show(_,dm a,decide_eq_true (by rw[m]))
  ·let A:(l.map λe=>if e.1.2=i then #[#[p,i],k] else e).map (·.1.2)=l.map (·.1.2):=by
    rw[df];apply jb;intro e _;change(if e.1.2=i then #[#[p,i],k] else e).1.2=e.1.2;by_cases d:e.1.2=i
    ·rw[aH d,d]
    ·rw[aD d]
   show(λe a=> ?_,λe a=> ?_,λx=> ?_,by rw[A];show h.nd,(λz=>nomatch z),by rw[ao];let:=h.len;lk)
   ·let⟨g,o,rfl⟩:=aY.mp a
    by_cases d:g.1.2=i
    ·rw[aH d];show s
    ·rw[aD d];show h.at_ g o
   ·let⟨g,o,rfl⟩:=aY.mp a
    by_cases d:g.1.2=i
    ·rw[aH d];show t
    ·rw[aD d];show h.ne g o
   ·constructor
    ·intro z
     let⟨e,a,rfl⟩:=aY.mp z;let⟨g,o,rfl⟩:=aY.mp a;by_cases d:g.1.2=i
     ·rw[aH d];change(if i=i then ag p else _)=ag p;rw[aH J]
     ·rw[aD d];change(if g.1.2=i then ag p else r g.1.2)=ag g.1.1;rw[aD d]
      show(h.mem g.1).mp (dm o)
    ·intro z
     by_cases d:x.2=i
     ·let f:=z
      rw[aH d] at f;let⟨e,a,m⟩:=aY.mp c;show aY.mpr (#[#[p,i],k],aY.mpr (e,a,by rw[aH m]),?_);show gX (aJ f) d.symm
     ·let f:=z
      rw[aD d] at f;let⟨e,a,m⟩:=aY.mp ((h.mem x).mpr f);show aY.mpr (e,aY.mpr (e,a,?_),m);rw[aD (by rw[m];show d)]
 ·show(l++[#[#[p,i],k]],?_,?_)
  ·let B:dZ (gW l) (iL i)=au:=by
    cases q:dZ (gW l) (iL i) with
    |none=>rfl
    |some u=>
     let:=Gg q;rw[CO] at this;let⟨e,a,m⟩:=aY.mp this;show absurd (aY.mpr (e,a,jE m)) c
   rw[L2.sx _ B];unfold gW;rw[bz];rfl
  ·show(λe a=> ?_,λe a=> ?_,λx=> ?_,?_,(λz=>nomatch z),by rw[bt];let:=h.len;simp;lk)
   ·rcases bO.mp a with z|z
    ·show h.at_ e z
    ·rw[bG] at z;rw[z];show s
   ·rcases bO.mp a with z|z
    ·show h.ne e z
    ·rw[bG] at z;rw[z];show t
   ·rw[bz,bO]
    constructor
    ·rintro(z|z)
     ·let f:=(h.mem x).mp z
      let d:¬x.2=i:=λe=>c (by rw[<-e];let(q,C,D):=aY.mp z;show aY.mpr (q,C,by rw[D]));rw[aD d];show f
     ·let f:x= #[p,i]:=by simpa using z
      rw[f];change(if i=i then ag p else _)=ag p;rw[aH J]
    ·intro z
     let f:=z;by_cases d:x.2=i
     ·rw[aH d] at f
      right
      let:x= #[p,i]:=gX (aJ f).symm d;simp[this]
     ·rw[aD d] at f
      show .inl ((h.mem x).mpr f)
   ·rw[bz,j7]
    show(h.nd,by simp,λx w y E z=> ?_);let:y=i:=by simpa using E
    rw[z,this] at w;show c w
def uF.drop(h:uF H f l n ord)(i:Id):∃g,gW g=jV (gW f) (iL i)/\uF H g (λj=>if j=i then au else l j) (n+1) aA:=by
 show(f.filter λe=>decide (e.1.2≠i),?_,?_)
 ·unfold gW jV
  rw[List.filter_map]
  congr 1
  apply Pb;intro e _;by_cases d:e.1.2=i
  ·simp[d]
  ·let:¬iL e.1.2=iL i:=λz=>d (jE z)
   simp[d,this]
 ·show(λe a=>h.at_ e (cq.mp a).1,λe a=>h.ne e (cq.mp a).1,λx=> ?_,?_,(λz=>nomatch z),by let:=eY (λe:PE1=>decide (e.1.2≠i)) f;let:=h.len;lk)
  ·constructor
   ·intro z
    let⟨e,a,rfl⟩:=aY.mp z;let⟨m,o⟩:=cq.mp a;rw[aD (kU o)];show(h.mem e.1).mp (dm m)
   ·intro z
    let c:=z;by_cases d:x.2=i
    ·rw[aH d] at c;cases c
    ·rw[aD d] at c
     let⟨e,a,k⟩:=aY.mp ((h.mem x).mpr c);show aY.mpr (e,cq.mpr (a,decide_eq_true (by rw[k];show d)),k)
  ·show h.nd.sublist (jd.map _)
def Tr(h:JD u){c:Nat}(k:c<2):∃d,JD d/\fT (Ag u) (cy (c:Int)) (.bl aC)=Ag d/\d.contains c=aC/\∀j,j<2->j≠c->d.contains j=u.contains j:=by
 let f:c=0\/c=1:=by lk
 let a:∀{u d:aa Nat},(0≠c->d.contains 0=u.contains 0)->(1≠c->d.contains 1=u.contains 1)->∀j,j<2->j≠c->d.contains j=u.contains j:=λg i j l e=>by
  let:j=0\/j=1:=by lk
  rcases this with rfl|rfl
  ·show g e
  ·show i e
 rcases h with rfl|rfl|rfl|rfl|rfl<;>rcases f with rfl|rfl
 ·show([0],.inr (.inl rfl),J,J,a (λz=>(z J).elim) λ_=>rfl)
 ·show([1],.inr (.inr (.inl rfl)),J,J,a (λ_=>rfl) (λz=>(z J).elim))
 ·show([0],.inr (.inl rfl),J,J,a (λz=>(z J).elim) λ_=>rfl)
 ·show([0,1],.inr (.inr (.inr (.inl rfl))),J,J,a (λ_=>rfl) (λz=>(z J).elim))
 ·show([1,0],.inr (.inr (.inr (.inr rfl))),J,J,a (λz=>(z J).elim) λ_=>rfl)
 ·show([1],.inr (.inr (.inl rfl)),J,J,a (λ_=>rfl) (λz=>(z J).elim))
 ·show([0,1],.inr (.inr (.inr (.inl rfl))),J,J,a (λz=>(z J).elim) λ_=>rfl)
 ·show([0,1],.inr (.inr (.inr (.inl rfl))),J,J,a (λ_=>rfl) (λz=>(z J).elim))
 ·show([1,0],.inr (.inr (.inr (.inr rfl))),J,J,a (λz=>(z J).elim) λ_=>rfl)
 ·show([1,0],.inr (.inr (.inr (.inr rfl))),J,J,a (λ_=>rfl) (λz=>(z J).elim))
def Ts(h:JD u):(Ag u).length<1000000:=by
 rcases h with rfl|rfl|rfl|rfl|rfl<;>(change _<1000000;decide)
def bT.count(C:bT CA N H R b acts waits afK tm afM n)(hc:H (R .cnt)=ag (.dT d))(l:yI k)(f:GW k=aA)(m:gP CA H v x):
  bT CA N (bD H (R .cnt) (.dT (fT d (kk k) v))) R b acts waits (λj=>if j=k then ag x else afK j) tm afM (n+1):=by
 let g:Grows CA H (bD H (R .cnt) (.dT (fT d (kk k) v))):=Grows.put hc (λz=>z);let at_:∀r o,r≠.cnt->H (R r)=ag o->bD H (R .cnt) (.dT (fT d (kk k) v)) (R r)=ag o:=λr o h e=>by rw[aZ (C.ne h)];show e
 let⟨p,q⟩:=C.self;let⟨s,t,w⟩:=C.kH;let⟨A,B,D⟩:=C.kz;let⟨cs,i,E⟩:=C.cnt;rw[hc] at i;cases i;let⟨u,I,L,M⟩:=C.pl;show(C.inj,(p,at_ _ _ (by decide) q),at_ _ _ (by decide) C.eV,(s,at_ _ _ (by decide) t,w.bA g),(A,at_ _ _ (by decide) B,D.bA g),(_,aw,(E.put l m).bA g),at_ _ _ (by decide) C.rq,u,I,at_ _ _ (by decide) L,λa O=> ?_);let⟨Q,T,Y⟩:=M a O;let h:oK a≠.cnt:=by unfold oK;split<;>decide
 show(Q,at_ _ _ h T,?_);let c:=Y.bA g;show(c.at_,c.ne,λy=> ?_,c.nd,c.Mh,by let:=c.len;lk);rw[tX]
 ·show c.mem y
 ·change(if [2*a,y.2.1,y.2.2]=k then ag x else afK [2*a,y.2.1,y.2.2])=_
  rw[aD];intro z;rw[<-z] at f;unfold GW kd at f;let:¬(2*a=0\/2*a=2):=abH f;lk
def bT.place(C:bT CA N H R b acts waits afK tm afM n)(hc:H (R .cnt)=ag (.dT k))(hax:a<2)(hv:gP CA H v x)(hp:iD H L p)(hw:eM x [2*a,h,i]=ag (gw p))
  (M:H (R (oK a))=ag (.dT l))(Q:H (R .xn)=ag (.dK us)):
  bT CA N (bD (bD (bD H (R .cnt) (.dT (fT k (kk [2*a,h,i]) v))) (R (oK a)) (.dT (if p=[] then jV l (iL #[h,i]) else fT l (iL #[h,i]) (.ref L)))) (R .xn) (.dK (fT us (cy (a:Int)) (.bl aC)))) R b acts waits (λj=>if j=[2*a,h,i] then ag x else afK j) tm afM (n+1):=by
 let s:oK a≠.cnt:=by unfold oK;split<;>decide
 let w:oK a≠.xn:=by unfold oK;split<;>decide
 let⟨dx,h1⟩:=C.self;let⟨vs,h2,h3⟩:=C.kH;let⟨ks,h4,h5⟩:=C.kz;let⟨cs,T,h7⟩:=C.cnt;rw[hc] at T;cases T;let⟨u,h8,Y,h10⟩:=C.pl;rw[Q] at Y;cases Y;let hd1:bD H (R .cnt) (.dT (fT k (kk [2*a,h,i]) v)) (R (oK a))=ag (.dT l):=by rw[aZ (C.ne s)];show M
 let hu2:∀o,bD (bD H (R .cnt) (.dT (fT k (kk [2*a,h,i]) v))) (R (oK a)) o (R .xn)=ag (.dK (Ag u)):=λo=>by rw[aZ (C.ne w.symm),aZ (C.ne (by decide))];show Q
 generalize t:(if p=[] then jV l (iL #[h,i]) else fT l (iL #[h,i]) (.ref L))=O;let g:Grows CA H (bD (bD (bD H (R .cnt) (.dT (fT k (kk [2*a,h,i]) v))) (R (oK a)) (.dT O)) (R .xn) (.dK (fT (Ag u) (cy (a:Int)) (.bl aC)))):=
  ((Grows.put hc (λz=>z)).trans (Grows.put hd1 (λz=>z))).trans (Grows.put (hu2 _) (λz=>z))
 let at_:∀r o,r≠.cnt->r≠oK a->r≠.xn->H (R r)=ag o->(bD (bD (bD H (R .cnt) (.dT (fT k (kk [2*a,h,i]) v))) (R (oK a)) (.dT O)) (R .xn) (.dK (fT (Ag u) (cy (a:Int)) (.bl aC)))) (R r)=ag o:=λr o n1 n2 n3 aaV=>by
  rw[aZ (C.ne n3),aZ (C.ne n2),aZ (C.ne n1)];show aaV
 let m:∀r,r=.self\/r=.eV\/r=.kH\/r=.kz\/r=.rq->r≠oK a:=λr s z=>by
  unfold oK at z;rcases s with rfl|rfl|rfl|rfl|rfl<;>(split at z<;>cases z)
 let⟨u',w1,w2,w3,w4⟩:=Tr h8 hax;let hk:yI [2*a,h,i]:=.inl (2*a,h,i,by lk,J);show(C.inj,(dx,at_ _ _ (by decide) (m _ (by simp)) (by decide) h1),at_ _ _ (by decide) (m _ (by simp)) (by decide) C.eV,(vs,at_ _ _ (by decide) (m _ (by simp)) (by decide) h2,h3.bA g),(ks,at_ _ _ (by decide) (m _ (by simp)) (by decide) h4,h5.bA g),
  (_,by rw[aZ (C.ne (by decide)),aZ (C.ne s.symm),aw],(h7.put hk hv).bA g),at_ _ _ (by decide) (m _ (by simp)) (by decide) C.rq,u',w1,by rw[aw,w2],λc aav=> ?_)
 let⟨es,A,B⟩:=h10 c aav;by_cases hx:c=a
 ·subst hx
  rw[M] at A;cases A;rw[w3];let pf:∀j:Id,vC (λj=>if j=[2*c,h,i] then ag x else afK j) c (gx b c) j=if j= #[h,i] then(if p=[] then au else ag p) else vC afK c (gx b c) j:=λj=>by
   by_cases d:j= #[h,i]
   ·rw[aH d,d]
    show T7 (by change(if _ then _ else _)=_;rw[aH J]) hw
   ·rw[aD d]
    show tX ?_;rw[aD];intro z;simp![dL,and_true,true_and] at z;show d (gX z.1 z.2)
  by_cases q:p=[]
  ·rw[aH q] at t
   let⟨D,E,I⟩:=B.drop #[h,i];show(D,by rw[aZ (C.ne w),aw,<-t,E],?_);let e:=I.bA g;show(e.at_,e.ne,λy=> ?_,e.nd,(λz=>nomatch z),e.len);rw[pf,aH q];show e.mem y
  ·rw[aD q] at t
   let⟨D,E,I⟩:=B.put hp q;show(D,by rw[aZ (C.ne w),aw,<-t,E],?_);let e:=I.bA g;show(e.at_,e.ne,λy=> ?_,e.nd,(λz=>nomatch z),e.len);rw[pf,aD q];show e.mem y
 ·let ra:oK c≠oK a:=by
   unfold oK;let:(c=0/\a=1)\/(c=1/\a=0):=by lk
   rcases this with⟨rfl,rfl⟩|⟨rfl,rfl⟩<;>decide
  let rb:oK c≠.cnt:=by unfold oK;split<;>decide
  let rc:oK c≠.xn:=by unfold oK;split<;>decide
  rw[w4 c aav hx];show(es,at_ _ _ rb ra rc A,?_);let f:=B.bA g;show(f.at_,f.ne,λy=> ?_,f.nd,f.Mh,by let:=f.len;lk);rw[tX]
  ·show f.mem y
  ·change(if _ then _ else _)=_
   rw[aD];intro z;simp![dL] at z;lk
end
inductive Vr(K:aq)(o i:V)(H:Hp)(Q:VK):Prop|mk:∀p a j v,o=.ref p->i=.int ((j:Nat):Int)->eE K H p a->a[j]?=ag v->Q v H->Vr K o i H Q
def NZ:aaD X (Vr X.K):=by
 intro m s u H o i x y Q I c d h;let⟨p,e,j,v,rfl,rfl,f,a,q⟩:=h;cases c;let⟨t,rfl⟩:=d;let⟨z,r,g,A⟩:=I.list f;let⟨w,k,l⟩:=r.get a;let B:j<e.length:=(List.getElem?_eq_some_iff.mp a).1;let C:=zD;show wpAny_getItem_list g.isList (by lk) (by lk) (by rw[bE];simpa using k) (v,H,I,l,q)
section
variable{CA N:az}{H:Hp}{R:pN->az}{b:gq}{acts waits:aa Act}{afK:k9->ae Act}{tm n:Nat}{afM:aa Nat}
def bT.aat(C:bT CA N H R b acts waits afK tm afM n)(hc:H (R .kH)=ag (.bZ a))(d:gP CA H v x):
  bT CA N (bD H (R .kH) (.bZ (a++[v]))) R b (acts++[x]) waits afK tm afM n:=by
 let g:Grows CA H (bD H (R .kH) (.bZ (a++[v]))):=Grows.put hc (λz=>z);let at_:∀r o,r≠.kH->H (R r)=ag o->bD H (R .kH) (.bZ (a++[v])) (R r)=ag o:=λr o f e=>by rw[aZ (C.ne f)];show e
 let⟨h,i⟩:=C.self;let⟨M,c,j⟩:=C.kH;rw[hc] at c;cases c;let⟨k,l,m⟩:=C.kz;let⟨p,q,s⟩:=C.cnt;let⟨u,t,y,A⟩:=C.pl;show(C.inj,(h,at_ _ _ (by decide) i),at_ _ _ (by decide) C.eV,(_,aw,bL.snoc (j.bA g) (d.bA g)),(k,at_ _ _ (by decide) l,m.bA g),(p,at_ _ _ (by decide) q,s.bA g),at_ _ _ (by decide) C.rq,u,t,at_ _ _ (by decide) y,λB D=> ?_);let⟨E,I,L⟩:=A B D;show(E,at_ _ _ (by unfold oK;split<;>decide) I,L.bA g)
def bT.Zq(C:bT CA N H R b acts waits afK tm afM n)(c:N≠CA)(d:H (R .self)=ag (.lM N a L))(t:Nat):bT CA N (bD H (R .self) (.lM N a (oN R t))) R b acts waits afK t afM n:=by
 let g:Grows CA H (bD H (R .self) (.lM N a (oN R t))):=Grows.put d (λz=>c z.1);let at_:∀r o,r≠.self->H (R r)=ag o->bD H (R .self) (.lM N a (oN R t)) (R r)=ag o:=λr o f e=>by rw[aZ (C.ne f)];show e
 let⟨h,i,j⟩:=C.kH;let⟨k,l,m⟩:=C.kz;let⟨p,q,s⟩:=C.cnt;let⟨u,v,x,y⟩:=C.pl;show(C.inj,(a,aw),at_ _ _ (by decide) C.eV,(h,at_ _ _ (by decide) i,j.bA g),(k,at_ _ _ (by decide) l,m.bA g),(p,at_ _ _ (by decide) q,s.bA g),at_ _ _ (by decide) C.rq,u,v,at_ _ _ (by decide) x,λA B=> ?_);let⟨D,E,I⟩:=y A B;show(D,at_ _ _ (by unfold oK;split<;>decide) E,I.bA g)
def bT.acA(C:bT CA N H R b acts waits afK tm afM n)(a:aa Nat):bT CA N (bD H (R .eV) (.bZ (a.map λ(n:Nat)=>V.int (n:Int)))) R b acts waits afK tm a n:=by
 let g:Grows CA H (bD H (R .eV) (.bZ (a.map λ(n:Nat)=>V.int (n:Int)))):=Grows.put C.eV (λz=>z);let at_:∀r o,r≠.eV->H (R r)=ag o->bD H (R .eV) (.bZ (a.map λ(n:Nat)=>V.int (n:Int))) (R r)=ag o:=λr o c e=>by rw[aZ (C.ne c)];show e
 let⟨d,f⟩:=C.self;let⟨h,i,j⟩:=C.kH;let⟨k,l,m⟩:=C.kz;let⟨p,q,s⟩:=C.cnt;let⟨u,t,v,x⟩:=C.pl;show(C.inj,(d,at_ _ _ (by decide) f),aw,(h,at_ _ _ (by decide) i,j.bA g),(k,at_ _ _ (by decide) l,m.bA g),(p,at_ _ _ (by decide) q,s.bA g),at_ _ _ (by decide) C.rq,u,t,at_ _ _ (by decide) v,λy A=> ?_);let⟨B,D,E⟩:=x y A;show(B,at_ _ _ (by unfold oK;split<;>decide) D,E.bA g)
def bT.Vj(C:bT CA N H R b acts waits afK tm afM n)(hw:rQ CA H a c):bT CA N (bD H (R .kz) (.dT a)) R b acts c afK tm afM n:=by
 let⟨E,d,I⟩:=C.kz;let g:Grows CA H (bD H (R .kz) (.dT a)):=Grows.put d (λz=>z);let at_:∀r o,r≠.kz->H (R r)=ag o->bD H (R .kz) (.dT a) (R r)=ag o:=λr o f e=>by rw[aZ (C.ne f)];show e
 let⟨h,i⟩:=C.self;let⟨j,k,l⟩:=C.kH;let⟨m,p,q⟩:=C.cnt;let⟨u,s,t,v⟩:=C.pl;show(C.inj,(h,at_ _ _ (by decide) i),at_ _ _ (by decide) C.eV,(j,at_ _ _ (by decide) k,l.bA g),(a,aw,hw.bA g),(m,at_ _ _ (by decide) p,q.bA g),at_ _ _ (by decide) C.rq,u,s,at_ _ _ (by decide) t,λx y=> ?_);let⟨A,B,D⟩:=v x y;show(A,at_ _ _ (by unfold oK;split<;>decide) B,D.bA g)
end
def NC(h:mX H k v y)(a:GW k=aC):∃c h i,c<2/\k=[2*c,h,i]/\∃p d,v=gw p/\y=.ref d/\iD H d p:=by
 cases h with
 |place e f=>show(_,_,_,e,J,_,_,J,J,f)
 |gone b e=>
  exfalso;unfold GW kd at a;let:=kU a;simp![SN] at this;lk
 |cell hc=>
  exfalso;unfold GW kd bK at a;let:=kU a;simp![SN] at this;lk
def Xo(Z:Hp->Prop)(e:∀a,Z a->t D d a)(f:(∀a,Z a->t D d a)->NM c t u D d H):NM c t u D d H:=f e
def p9(R:pN->az)(a:az):Prop:=∃r,a=R r
section
universe a
variable{CA N:az}
inductive xX(CA N:az)(d:aa V)(H:Hp)(Q:VK)(E:XK):Prop|mk:∀a v x R b acts waits afK tm afM n,d=[.ref a,v]->R .self=a->bT CA N H R b acts waits afK tm afM n->gP CA H v x->(∀w∈x.writes,yI w.1)->(x.writes.map (·.1)).Nodup->1<=x.hand->x.hand<=afM.length->acts.length<100000->n+x.writes.length<500000->(∀c,bQ (p9 R) H c->Grows CA H c->bT CA N c R b (acts++[x]) waits (nZ afK x x.writes.length) (max tm x.time) (afM.set (x.hand - 1) (afM.getD (x.hand - 1) 0+1)) (n+x.writes.length)->Q .jn c)->xX CA N d H Q E
def Ml:bM ["self","act","target","other"] ["self","act"] (bo (cQ (fI 19) 5)):=cB
def acF(F:ip K N "take" "Copy.take" (cQ (fI 19) 5) ["self","act"])(hne:N≠CA)(T:dY K N iS)(TA:dY K CA rK)(mm:mg "max"=au)(DL:-eC CA "is_later" ["self","other"] 1 (Wz CA wO))
  (DP:-ig "is_place" ["target"] 1 v9)(DS:-eC N "set_place" ["self","target","place"] 2 (xq N)):-eC N "take" ["self","act"] 3 (xX CA N):=by
 show F.def Ml (λvs H adb adc h=> ?_) (λadU cdv adW adX adY H vs adb adc A h=> ?_)
 ·let⟨ade,v,a,R,b,acts,waits,afK,tm,afM,n,rfl,_⟩:=h
  rfl
 ·let⟨ade,v,a,R,b,acts,waits,afK,tm,afM,n,rfl,rfl,abm,hx,ok,Y,x1,x2,la,ln,aax⟩:=h
  let acm:=Ml.nd;let hr1:fo 1 _:=A.bA (by decide);show(_,ay (fY (qy bX d6 d4 lq (cA (pv 0) J) (ak (pv 1) aB)))
   (ay (mJ (pv 0) (d7 (FK J) J mm A9 (ak (cA (pv 0) J) (ak (cA (pv 1) J) aB))) J)
   (ay (T5 (cA (pv 0) J) (ij pK (cA (pv 1) J) aX) NZ aX Dk x9)
   (aV (nz dE J (GN (cA (pv 1) J)) (fM (i:=2) acm J (gA J))
    (ay (dW 3 acm (IH (uX A) (cA (pv 0) J) (pv 2) (J,J,J,J)))
    (aV (fO (yj (fL rO (pv 3) kP (fU _)) (tT (io (bY (pv 1) TA.cl DL hr1 (ak (pv 3) aB))))).pt
     (ay (tV (uX A) (cA (pv 0) J) (pv 2) (pv 1) J)
     (aV (fO (io (dU DP hr1 J (ak (pv 2) aB))) (aV (fY (bY (pv 0) T.cl DS A (ak (pv 2) (ak (kQ (uX A) (cA (pv 1) J) (pv 2) (λ_ _=>rfl)) aB))))) dH)))
     dH))))))),?_)
  room
  let⟨dx,hs⟩:=abm.self;let⟨vs,hcm,hcv⟩:=abm.kH;let⟨p,dp,kn,wr,od,kws,rfl,g1,g2,g3,g4⟩:=id hx.at_;let hlv:=bL.length hcv;show(_,J,R .self,N,dx,_,_,J,hs,T.cl,T.na _ (by simp),(cF R tm).2.2.1,.inl (J,_,eE.of hcm),_,J,R .kH,_,_,J,J,hcm,jy (by lk),?_);let B:=abm.aat hcm hx;let G1:Grows CA H (bD H (R .kH) (.bZ (vs++[.ref p]))):=Grows.put hcm (λz=>z);let K1:bQ (p9 R) H (bD H (R .kH) (.bZ (vs++[.ref p]))):=bQ.refl.put (_,J);generalize bD _ _ _=d at B G1 K1⊢;let⟨M,O⟩:=B.self;show(_,J,R .self,N,M,_,_,J,O,T.cl,T.na _ (by simp),(cF R tm).1,_,J,p,CA,dp,_,_,J,(G1 p _ g1 (J,J)),TA.cl,TA.na _ (by simp),zS ..,_,_,J,_,J,R .self,N,M,_,J,O,T.cl,T.na _ (by simp),(by change 7<1000;decide),?_);let et:gM "time" (V.int (if(a.time:Int)>(tm:Int) then(a.time:Int) else(tm:Int))) (oN R tm)=oN R (max tm a.time):=by
   let:(if(a.time:Int)>(tm:Int) then(a.time:Int) else(tm:Int))=((max tm a.time:Nat):Int):=by split<;>lk
   rw[this];rfl
  rw[et];let Q:=B.Zq hne O (max tm a.time);let C:=G1.trans (Grows.put (o:=.lM N M (oN R (max tm a.time))) O (λz=>hne z.1));let K2:=K1.put (x:=R .self) (o:=.lM N M (oN R (max tm a.time))) (_,J);generalize bD _ _ _=H2 at Q C K2⊢;let⟨dx2,hs2⟩:=Q.self;let ei:((a.hand:Int)- 1)=((a.hand - 1:Nat):Int):=by lk
  show(_,J,R .self,N,dx2,_,_,J,hs2,T.cl,T.na _ (by simp),(cF R _).2.1,_,J,p,CA,dp,_,_,J,(C p _ g1 (J,J)),TA.cl,TA.na _ (by simp),kI ..,_,_,J,J,R .eV,_,a.hand - 1,_,J,by rw[<-ei],eE.of Q.eV,Rf (by lk),_,_,J,J,R .eV,_,_,a.hand - 1,J,J,Q.eV,?_,?_)
  ·rw[ei,ao]
   unfold Oj;rw[aH (by lk),aH (by lk),bE]
  let eh:(afM.map λ(n:Nat)=>V.int (n:Int)).set (a.hand - 1) (V.int (((afM.getD (a.hand - 1) 0:Nat):Int)+1))=(afM.set (a.hand - 1) (afM.getD (a.hand - 1) 0+1)).map λ(n:Nat)=>V.int (n:Int):=by
   rw[V6];rfl
  rw[eh];let l:=Q.acA (afM.set (a.hand - 1) (afM.getD (a.hand - 1) 0+1));let G3:=C.trans (Grows.put (o:=.bZ ((afM.set (a.hand - 1) (afM.getD (a.hand - 1) 0+1)).map λ(n:Nat)=>V.int (n:Int))) Q.eV (λz=>z));let K3:=K2.put (x:=R .eV) (o:=.bZ ((afM.set (a.hand - 1) (afM.getD (a.hand - 1) 0+1)).map λ(n:Nat)=>V.int (n:Int))) (_,J);generalize bD H2 (R .eV) (.bZ ((afM.set (a.hand - 1) (afM.getD (a.hand - 1) 0+1)).map λ(n:Nat)=>V.int (n:Int)))=q at l G3 K3⊢;generalize afM.set (a.hand - 1) (afM.getD (a.hand - 1) 0+1)=abn at l aax;show(_,J,p,CA,dp,_,_,J,(G3 p _ g1 (J,J)),TA.cl,TA.na _ (by simp),kM ..,wr,od,J,.inr (kws,G3.lH g3,zL (λj σ m=>∃v2 U:ae V,σ=[ag (.ref (R .self)),ag (.ref p),v2,U]/\bQ (p9 R) H m/\Grows CA H m/\
   bT CA N m R b (acts++[a]) waits (nZ afK a j) (max tm a.time) abn (n+j)) ?_ (λj σ m _ (_,_,_,_,G,_)=>G.lH g3) ?_ ?_))
  ·show(au,au,J,K3,G3,l.congr λaax _=>Kh afK a aax)
  ·rintro j nk ad0 aaG σ m hj hq ⟨v2,U,rfl,KB,G,D⟩
   room
   let⟨f,E,r,adz⟩:=bL.yz g4 hj;subst r;let⟨hjl,_⟩:=List.getElem?_eq_some_iff.mp E;let okk:=ok f (bg E);let ad2:=adz.bA G;let hx':=hx.bA G;let gp:=G p _ g1 (J,J);let hwo:=xk Y (bg E);let hso:(eM a f.1).isSome=aC:=by rw[hwo];rfl
   let⟨dxj,hsj⟩:=D.self;let⟨I,hcj,hcv⟩:=D.cnt;let acy:=Nv afK Y E;show(_,J,R .self,N,dxj,_,_,J,hsj,T.cl,T.na _ (by simp),(cF R _).2.2.2.2.1,R .cnt,J,.inr (_,.inl hcj),_,J,_,oW.t hcj hq,?_);let adC:(∀c,yI c->nZ afK a (j+1) c=nZ afK a j c)->∀d U,bB m d->∃v2 v3':ae V,[ag (V.ref (R .self)),ag (V.ref p),ag (V.ref aaG),U]=[ag (.ref (R .self)),ag (.ref p),v2,v3']/\bQ (p9 R) H d/\Grows CA H d/\
     bT CA N d R b (acts++[a]) waits (nZ afK a (j+1)) (max tm a.time) abn (n+(j+1)):=λhst d U g=>
    (_,_,J,KB.same g,G.trans g.grows,((D.same g).congr hst).more (by lk))
   dsimp only[rE];show Xo (λd=>bB m d/\∀c,nZ afK a (j+1) c=if c=f.1 then ag a else nZ afK a j c) ?_ λyes=> ?_
   ·rintro d ⟨g,hst⟩
    room
    let B:=D.same g;let⟨M,O⟩:=B.self;let hc1:=g _ _ hcj;show(_,J,_,J,R .self,N,M,_,_,J,O,T.cl,T.na _ (by simp),(cF R _).2.2.2.2.1,_,J,R .cnt,_,J,xG.t hc1 (g.pI hq) (jy (by let:=hcv.len;lk)),?_);let C:Grows CA d (bD d (R .cnt) (.dT (fT I (kk f.1) (.ref p)))):=Grows.put hc1 (λz=>z);let hq2:=C.pI (g.pI hq);let KB2:bQ (p9 R) H (bD d (R .cnt) (.dT (fT I (kk f.1) (.ref p)))):=(KB.same g).put (_,J);show(_,J,aaG,f.1,J,okk,hq2,λq s=>(_,J,?_));let G3':=((G.trans g.grows).trans C).trans s.grows;cases hpl:GW f.1 with
    |false=>
     show jg J ?_;show(_,_,J,KB2.same s,G3',((B.count hc1 okk hpl (hx'.bA g.grows)).same s).congr λc _=>hst c)
    |true=>
     show iu J ?_;let⟨y,abC,hvy⟩:∃y,dZ kws (kk f.1)=ag y/\mX m f.1 f.2 y:=by
      rcases(g4.bA G).pQ ok okk with⟨_,e⟩|⟨v',y,e1,e2,e3⟩
      ·rw[hwo] at e;cases e
      ·rw[hwo] at e2
       cases e2;show(y,e1,e3)
     let⟨L,h,abb,hax,r,pp,adM,ep,rfl,hpt⟩:=NC hvy hpl;let gH3:=(g.grows.trans C).trans s.grows;let l:bT CA N (bD q (R .cnt) (.dT I)) R b (acts++[a]) waits (nZ afK a j) (max tm a.time) abn (n+j):=B.same λabd aav e=>by
      by_cases hc:abd=R .cnt
      ·rw[hc,hc1] at e
       rw[hc,aw,e]
      ·rw[aZ hc]
       show s abd aav (by rw[aZ hc];show e)
     let hc3:=s _ _ aw;let eH:bD (bD q (R .cnt) (.dT I)) (R .cnt) (.dT (fT I (kk [2*L,h,abb]) (.ref p)))=q:=by
      rw[tF];funext abd;by_cases hc:abd=R .cnt
      ·rw[hc,aw,hc3,r]
      ·rw[aZ hc]
     let rne:∀abh,abh≠pN.cnt->∀aav,bD q (R .cnt) (.dT I) (R abh)=ag aav->q (R abh)=ag aav:=λabh A aav e=>by rw[aZ (l.ne A)] at e;show e
     let⟨dx3,hs3⟩:=l.self;let hs3:=rne _ (by decide) _ hs3;let⟨ac5,hu1,hu2,hu3⟩:=l.pl;let⟨es,he1,he2⟩:=hu3 L hax;let hpc:=rne _ (by decide) _ l.rq;let hd3:=rne _ (by unfold oK;split<;>decide) _ he1;let abN:=rne _ (by decide) _ hu2;let g5:=gH3.lH (G.lH g3);let hq3:uN q aaG [2*L,h,abb]:=by
      let:=s.pI hq2;rw[r] at this;show this
     show(_,J,R .self,dx3,_,J,hs3,J,_,J,_,J,p,CA,dp,_,_,J,(gH3 p _ gp (J,J)),TA.cl,TA.na _ (by simp),kM ..,_,J,wr,_,J,.inr (_,_,_,.inr (_,g5),J,by rw[r] at abC;show hq3,by rw[r] at abC;show abC.symm),?_);let edo:DU (R .zx) (R .zw) L=R (oK L):=by unfold DU oK;split<;>rfl
     show(R .self,dx3,R .rq,R .xn,R .zx,R .zw,aaG,adM,_,L,h,abb,pp,gW es,Ag ac5,J,hs3,(cF R _).2.2.2.2.2.1,(cF R _).2.2.2.2.2.2,hpc,hax,by rw[edo];show hd3,abN,hq3,hpt.bA gH3,?_,Ts hu1,?_)
     ·let:=he2.len
      unfold gW;rw[ao];lk
     rw[edo];let hw':eM a [2*L,h,abb]=ag (gw pp):=by rw[<-r,hwo,ep]
     let g33:Grows CA m (bD q (R .cnt) (.dT I)):=gH3.trans (Grows.put hc3 (λz=>z));let fin:=l.place aw hax (hx'.bA g33) (hpt.bA g33) hw' (by rw[aZ (l.ne (by unfold oK;split<;>decide))];show hd3) (by rw[aZ (l.ne (by decide))];show abN);rw[eH] at fin;show(_,_,J,((KB2.same s).put (_,J)).put (_,J),?_,fin.congr λc _=>by rw[hst c,r]);show(G3'.trans (Grows.put hd3 (λz=>z))).trans (Grows.put (u:=.dK (Ag ac5)) (by rw[aZ (l.ne (by unfold oK;split<;>decide))];show abN) (λz=>z))
   ·
    rcases hcv.val f.1 okk with⟨hw1,hv1⟩|⟨y,vy,hw1,hv1,hy⟩
    ·rw[hv1] at yes⊢
     show(_,J,J,_,J,iu J (iu J (yes m (λ_ _ z=>z,λc=> ?_))));rw[xl afK Y E];by_cases k:c=f.1
     ·rw[aH k,aH k,k,<-acy,hw1,Af hso]
     ·rw[aD k,aD k]
    ·rw[hv1] at yes⊢
     let⟨py,dy,kny,wry,ody,kwy,rfl,y1,_⟩:=id hy.at_;show(_,J,J,_,J,jg (decide_eq_false (λz=>nomatch z)) ?_);show(_,J,p,dp,_,J,gp,J,_,J,_,_,a,y,J,hx',hy,λd g=>(_,J,?_));let hw2:afK f.1=ag y:=by rw[<-acy];show hw1
     cases hm:wO a y with
     |true=>
      show iu J (yes d (g,λc=> ?_));rw[xl afK Y E];by_cases k:c=f.1
      ·rw[aH k,aH k,k,hw2,BL hso hm]
      ·rw[aD k,aD k]
     |false=>
      show jg J (adC (λc _=> ?_) d _ g);rw[xl afK Y E];by_cases k:c=f.1
      ·rw[aH k,k,hw2,BM hso hm,hw1]
      ·rw[aD k]
  ·rintro σ m ⟨v2,U,rfl,KB,G,D⟩
   room
   rw[((bL.length g4).symm)] at D;show aax m KB G D
end
def Ph(x:Act):Id:= #[x.hand,x.number]
def yx(x:Act):Int×Int:= #[(x.hand:Int),(x.number:Int)]
def Sb(l:aa Act):Prop:=l.Pairwise λa x=>X7 a x=aC
def Ee:X7 a x=aC↔sC (yx a) (yx x):=by
 rw[lT];unfold sC yx;simp only;lk
def Sb.nd(h:Sb l):(l.map Ph).Nodup:=by
 show bN.mpr (eT (λ{a b} c e=> ?_) h);rw[lT] at c;let d:a.hand=b.hand:=eI Tc e;let f:a.number=b.number:=eI yW e;lk
def KA{d:aa Act}(k:Sb d){f:aa (Int×Int)}{l:aa Act}(q:l.Perm d)(m:f.Perm (l.map yx))(o:f.Pairwise λi j=>¬sC j i):f=d.map yx:=by
 let p:f.Perm (d.map yx):=m.trans (q.map yx);let r:(d.map yx).Nodup:=bN.mpr (eT (λ{a b} g e=>by
  rw[Ee,e] at g;unfold sC at g;lk) k)
 let s:f.Nodup:=p.nodup_iff.mpr r;show rN (λa h=>by unfold sC at h;lk) (λa b c m o=>by unfold sC at*;lk) ?_ (bN.mpr (eT (λ{a b} g=>Ee.mp g) k)) λx=>p.mem_iff;show Vd (λ{i j} n t=> ?_) o s;unfold sC at*;let:¬(i.1=j.1/\i.2=j.2):=λz=>t (gX z.1 z.2);lk
def BQ:∀{c:aa (aa NK×V)} {b:aa Act},SM.bL (λq (x:Act)=>q.1=iL #[x.hand,x.number]/\gP CA H q.2 x) c b->(b.map Ph).Nodup->∀x∈b,∃v,dZ c (iL #[x.hand,x.number])=ag v/\gP CA H v x:=by
 intro _ _ z;induction z with
 |nil=>
  intro _ x a;show nomatch a
 | @cons q y c b h t f=>
  intro d x a;rw[bi,eJ] at d;rcases aT.mp a with e|a
  ·subst e
   show(q.2,jx h.1,h.2)
  ·let⟨v,g,i⟩:=f d.2 x a
   show(v,?_,i);rw[iZ]
   ·show g
   ·rw[h.1]
    intro z;let:Ph y=Ph x:=jE z;show d.1 (by rw[this];show dm a)
def P4:∀{b:aa (aa NK×V)} {c:aa Act},SM.bL (λq (x:Act)=>q.1=iL #[x.hand,x.number]/\gP CA H q.2 x) b c->∃a:aa ((Int×Int)×V),b=a.map (λe=> #[[.inl e.1.1,.inl e.1.2],e.2])/\a.map (·.1)=c.map yx:=by
 intro _ _ z;induction z with
 |nil=>
  show([],J,J)
 | @cons q y b c h t d=>
  let⟨a,f,g⟩:=d;show(#[yx y,q.2]::a,?_,by rw[bi,bi,g]);rw[bi,<-f]
  congr 1
  show gX h.1 J
section
universe a
variable{CA N:az}
inductive mq(CA N:az)(f:aa V)(H:Hp)(Q:VK)(E:XK):Prop|mk:∀a j g h e c i d,f=[.ref a]->H a=ag (.lM N j e)->e.lookup ("had":cX)=ag (.ref g)->e.lookup ("waiting":cX)=ag (.ref h)->e.lookup ("is_ready":cX)=au->H g=ag (.bZ (c.map λ(n:Nat)=>V.int (n:Int)))->H h=ag (.dT i)->rQ CA H i d->Sb d->c.length<=8->(∀x∈d,x.knows.length=c.length)->(d.find? (λx=>Ar x.knows c)=au->∀b,bB H b->Q .jn b)->(∀x,d.find? (λx=>Ar x.knows c)=ag x->∀b q,bB H b->eW b q #[x.hand,x.number]->Q (.ref q) b)->mq CA N f H Q E
def vz:bM ["self","key"] ["self"] (bo (cQ (fI 19) 3)):=cB
def SQ(F:ip K N "first_ready" "Copy.first_ready" (cQ (fI 19) 3) ["self"])(T:dY K N iS)(ms:mg "sorted"=au)(DR:-eC N "is_ready" ["self","act"] 1 (zo CA N)):-eC N "first_ready" ["self"] 2 (mq CA N):=by
 show F.def vz (λvs H aax aaC h=> ?_) (λabi cdv abm abn abo H vs aax aaC z h=> ?_)
 ·let⟨a,e,A,s,B,g,kvs,b,rfl,_⟩:=h
  rfl
 ·let⟨a,e,A,s,B,g,kvs,b,rfl,j,h2,C,h4,h5,D,⟨E,t,I⟩,L,hl8,hkn,k1,k2⟩:=h
  show(_,ay (nz dE J (mv (d7 (LI J) J ms pU (ak (cA (pv 0) J) aB))) (fM (i:=1) vz.nd J (gA J))
   (aV (fO (io (bY (pv 0) T.cl DR z (ak (kQ (uX z) (cA (pv 0) J) (pv 1) (λ_ _=>rfl)) aB))) (aV (bP (pv 1))) dH))) (aV (bP kP)),?_)
  room
  let⟨es,e1,e2⟩:=P4 I;show(_,J,a,N,e,_,_,J,j,T.cl,T.na _ (by simp),C,s,es,J,.inl (by rw[<-e1];show D),λl k is hl M p2 y=> ?_);rw[e2] at M;let eis:=KA L t M p2;subst eis;let S0:bB H (bD H l (.bZ (k.map V.ref))):=bB.new hl;let ndw:(E.map Ph).Nodup:=(t.map Ph).nodup_iff.mpr L.nd;show(l,J,(_,eE.of aw),pj (λc m d=>∃v:ae V,m=[ag (.ref a),v]/\bB H d/\d l=ag (.bZ (k.map V.ref))/\(b.take c).find? (λx=>Ar x.knows g)=au) ?_ (λc m d _ (_,_,_,n,_)=>eE.of n) ?_ ?_)
  ·show(au,J,S0,aw,J)
  ·rintro c abA m d O ⟨v,rfl,S,n,f⟩
   room
   rw[aF] at O;let⟨q,Q,rfl⟩:=bv.mp O;let hlw:b.length=k.length:=by
    let:=c9 y;rw[ao] at this;show this
   let⟨x,o,hqx⟩:∃x,b[c]?=ag x/\eW H q (x.hand,x.number):=by
    let p:c<b.length:=by rw[hlw];show(List.getElem?_eq_some_iff.mp Q).1
    let⟨abB,U,hbt⟩:=xB y (by rw[aF,aL p];rfl);rw[Q] at U;cases U;show(_,aL p,hbt)
   let hxm:x∈E:=t.mem_iff.mpr (bg o);let⟨u,hu,hux⟩:=BQ I ndw x hxm;let Y:eW d q #[x.hand,x.number]:=S _ _ hqx;show(_,J,a,e,_,J,S _ _ j,h4,_,J,a,N,e,_,_,J,S _ _ j,T.cl,T.na _ (by simp),C,_,J,s,u,J,.inr (_,_,_,.inl (S _ _ D),J,Y.key,hu.symm),a,e,A,B,g,u,x,J,S _ _ j,h2,S _ _ h5,hux.bA S.grows,hkn x (bg o),hl8,λH1 r=>(_,J,?_));let etk:b.take (c+1)=b.take c++[x]:=by rw[cE,o];rfl
   cases hle:Ar x.knows g with
   |true=>
    show iu J (_,J,k2 x ?_ H1 q (S.trans r) (r _ _ Y));let e3:b=b.take c++x::b.drop (c+1):=by
     let⟨p,ex⟩:=List.getElem?_eq_some_iff.mp o;let:=(gu c b).symm;rw[List.drop_eq_getElem_cons p,ex] at this;show this
    rw[e3,Pa,f];simp[hle]
   |false=>
    show jg J (_,J,S.trans r,r _ _ n,?_);rw[etk,Pa,f];simp[hle]
  ·rintro m d ⟨v,rfl,S,n,f⟩
   room
   let abh:(k.map V.ref).length=b.length:=by
    let:=c9 y;simp![ao] at this⊢;lk
   rw[abh,cu] at f;show k1 f d S
end
def ki(b:gq)(acts:aa Act):aa Nat:=(fA b.hands).map λi=>de acts (i+1)
def mw(b:gq)(acts:aa Act):(ki b acts).length=b.hands:=by unfold ki;rw[ao,oz]
def FD(b:gq)(acts:aa Act)(a:1<=h)(d:h<=b.hands):(ki b acts).getD (h - 1) 0=de acts h:=by
 unfold ki;rw[bS,aF,gb (by lk)];change de acts (h - 1+1)=_;rw[show h - 1+1=h by lk]
def on(CA N:az)(H:Hp)(R:pN->az)(b:gq)(c:Ps):Prop:=bT CA N H R b c.acts c.waits (fu c.acts) (p8 c.acts) (ki b c.acts) (64*c.acts.length)
def Jb(h:x.knows.length=b.hands):Ar x.knows (ki b acts)=o8 b acts x:=by
 rw[lA,we];unfold Ar;rw[tp];let d:∀i,i<b.hands->(yY (λx y=>decide (x<=y)) x.knows (ki b acts))[i]?=ag (decide (iY x (i+1)<=de acts (i+1))):=λi a=>by
  rw[JW];unfold ki iY;rw[aL (show i<x.knows.length by lk),aF,gb a,bS,show i+1 - 1=i by lk,aL (show i<x.knows.length by lk)];rfl
 constructor
 ·intro z g k l
  let:=z _ (bg (d (g - 1) (by lk)));let e:=kU (show decide (iY x (g - 1+1)<=de acts (g - 1+1))=aC from this);rw[show g - 1+1=g by lk] at e;show e
 ·intro z v f
  let⟨i,a,j⟩:=List.mem_iff_getElem.mp f;rw[qg,mw] at a;let e:=d i (by lk);rw[aL (by rw[qg,mw];show a),j] at e;rw[(aJ e)];show decide_eq_true (z (i+1) (by lk) (by lk))
section
variable{b:gq}{M:SM.Made}{c:Ps}
def zj(m:dv b M)(k:cK b M c)(a:x∈M x.hand):((c.acts++c.waits).any (e8 x)=aC)↔(x.number<=de c.acts x.hand\/x∈c.waits):=by
 rw[pb];constructor
 ·rintro⟨y,d,e⟩
  rcases bO.mp d with z|z
  ·let f:=k.made m z
   let:=(m.isIt a f).mp e;subst this;show .inl ((k.mem m).mp z).2
  ·let:=(m.isIt a (k.wmade y z)).mp e
   subst this;show .inr z
 ·rintro(z|z)
  ·show(x,cw _ ((k.mem m).mpr (a,z)),lS.mpr (J,J))
  ·show(x,b7 _ z,lS.mpr (J,J))
end
section
variable{CA N:az}{H U:Hp}{R:pN->az}{b:gq}{M:SM.Made}{acts waits:aa Act}
def HS(a:1<=x.hand)(d:x.hand<=b.hands)(hw:x.writes.length<=64)
  (C:bT CA N H R b (acts++[x]) waits (nZ (fu acts) x x.writes.length) (max (p8 acts) x.time) ((ki b acts).set (x.hand - 1) ((ki b acts).getD (x.hand - 1) 0+1)) (64*acts.length+x.writes.length)):
  on CA N H R b (acts++[x],waits):=by
 unfold on;let e:ki b (acts++[x])=(ki b acts).set (x.hand - 1) ((ki b acts).getD (x.hand - 1) 0+1):=by
  rw[FD b acts a d];show RF b.hands acts x a
 rw[e,Fw];show(C.congr λk _=>(Ge acts x k).symm).more ?_;rw[bt];simp![aN,dS];lk
def P1(h:rQ CA H a waits)(g:gP CA H v x)(j:∀y∈waits,Ph y≠Ph x):rQ CA H (fT a (iL #[x.hand,x.number]) v) (nW x waits):=by
 let⟨k,d,f⟩:=h;let m:dZ a (iL #[x.hand,x.number])=au:=by
  cases e:dZ a (iL #[x.hand,x.number]) with
  |none=>rfl
  |some u=>
   let⟨q,n,o⟩:=aY.mp (Gg e);let⟨i,p⟩:=List.mem_iff_getElem?.mp n;let⟨y,r,s,_⟩:=bL.get f p;show absurd (jE (s.symm.trans o)) (j y (d.mem_iff.mp (bg r)))
 rw[L2.sx _ m];show(k++[x],?_,bL.snoc f (J,g));let:∀l:aa Act,(nW x l).Perm (x::l):=by
  intro l;induction l with
  |nil=>show .refl _
  |cons y l t=>
   unfold nW;split
   ·show .refl _
   ·show(t.cons y).trans (adi x y l)
 show(List.perm_append_comm.trans (d.cons x)).trans (this waits).symm
def NB(h:rQ CA H a waits)(x:Act):rQ CA H (jV a (iL #[x.hand,x.number])) (waits.filter λy=> !e8 y x):=by
 let⟨d,f,i⟩:=h;show(d.filter λy=> !e8 y x,f.filter _,?_);clear f;induction i with
 |nil=>show .nil
 | @cons q y a d h t g=>
  let e:(e8 y x=aC)↔q.1=iL #[x.hand,x.number]:=by
   rw[lS,h.1];constructor
   ·rintro⟨j,k⟩;rw[j,k]
   ·intro z
    let:=jE z;show(eI Tc this,eI yW this)
  by_cases c:q.1=iL #[x.hand,x.number]
  ·rw[FG c,tj (by rw[e.mpr c];decide)]
   show g
  ·let l:e8 y x=aA:=by
    cases z:e8 y x with
    |false=>rfl
    |true=>show absurd (e.mp z) c
   rw[zM c,sZ (by rw[l];rfl)];show .cons h g
end
def Gz(h:c.waits.find? (o8 b c.acts)=ag x):mH b (f+1) c=mH b f (c.acts++[x],c.waits.filter λy=> !e8 y x):=by
 rw[mH,h]
def GA(h:c.waits.find? (o8 b c.acts)=au):mH b (f+1) c=c:=by
 rw[mH,h]
theorem Dv:∀{l:aa b},(∀x∈l,p x=q x)->l.find? p=l.find? q
 |[],_=>rfl
 |x::l,h=>by
  rw[eZ,eZ,h x (aQ ..),Dv λy a=>h y (aM _ a)]
def GU:∀k n l,(∀a∈l,1<=a.hand/\a.hand<=k)->(∀h,de l h<=n)->l.length<=k*n:=by
 intro k;induction k with
 |zero=>
  intro n l hl _;cases l with
  |nil=>simp
  |cons a l=>let:=hl a (aQ ..);lk
 |succ k b=>
  intro n l hl hc;let e:l.length=(l.filter λa=>a.hand==k+1).length+(l.filter λa=> !(a.hand==k+1)).length:=by
   rw[<-lx,<-lx];show(y9 (λa:Act=>a.hand==k+1)).trans ?_
   congr 2
   funext a;cases(a.hand==k+1)<;>rfl
  let d:(l.filter λa=>a.hand==k+1).length<=n:=hc (k+1);let f:=b n (l.filter λa=> !(a.hand==k+1)) (λa c=>by
   let⟨z,y⟩:=cq.mp c;let:=hl a z;simp at y;lk) λh=>bC (by unfold de;show(jd.filter _).length_le) (hc h)
  rw[e,JT];lk
theorem MQ:∀(l:aa Act) lo n,l.Pairwise (λa b=>a.number<b.number)->(∀a∈l,lo<a.number/\a.number<=n)->l.length<=n - lo
 |[],_,_,_,_=>by simp
 |a::l,lo,n,e,c=>by
  let⟨f,g⟩:=List.pairwise_cons.mp e;let:=MQ l a.number n g λy d=>(f y d,(c y (aM _ d)).2);let:=c a (aQ ..);rw[aN];lk
def NA(g:dv b M)(f:cK b M c)(i:Sm e M)(j:b.hands<=8):c.waits.length<=8*e:=by
 show bC (GU b.hands e c.waits (λa d=>(g.hand _ a (f.wmade a d)).2) λh=> ?_) (L3 e j);let:(c.waits.filter λa=>a.hand==h).Pairwise λa b=>a.number<b.number:=by
  show jD (λ{a b} d k z=> ?_) (f.wsrt.sublist jd);let l:a.hand=h:=by simpa using(cq.mp d).2
  let m:b.hand=h:=by simpa using(cq.mp k).2
  rw[lT] at z;lk
 let:=MQ _ 0 e this λa d=>by
  let l:=g.at_ (f.wmade a ((cq.mp d).1));let m:=i.len a.hand;lk
 show this
section
universe a
variable{CA N:az}
def GR(h:Q [] H):wE a H Q:=h
def Fi(h:∀v H,Q v H->c v H)(x:mq CA N d H Q E):mq CA N d H c M:=by
 let⟨a,e,f,g,j,k,l,m,n,o,p,r,s,t,u,A,B,C,D,I,L⟩:=x;show(a,e,f,g,j,k,l,m,n,o,p,r,s,t,u,A,B,C,D,λz b S=>h _ _ (I z b S),λy z b q S i=>h _ _ (L y z b q S i))
inductive v8(CA N:az)(e:aa V)(H:Hp)(Q:VK)(E:XK):Prop|mk:∀a v x R b M c f,e=[.ref a,v]->R .self=a->on CA N H R b c->gP CA H v x->dv b M->cK b M c->x∈M x.hand->b.hands<=8->Sm f M->f<=300->(∀d,bQ (p9 R) H d->Grows CA H d->on CA N d R b (iz b c x)->Q (.int (((iz b c x).acts.length:Int)-(c.acts.length:Int))) d)->v8 CA N e H Q E
def Cr:bM ["self","act","key","before","ready"] ["self","act"] (bo (cQ (fI 19) 1)):=cB
def Yz(F:ip K N "receive" "Copy.receive" (cQ (fI 19) 1) ["self","act"])(hne:N≠CA)(T:dY K N iS)(TA:dY K CA rK)(ml:mg "len"=au)(DH:-eC N "has_act" ["self","act"] 1 (Cd CA N))
  (DF:-eC N "first_ready" ["self"] 2 (mq CA N))(DT:-eC N "take" ["self","act"] 3 (xX CA N)):-eC N "receive" ["self","act"] 4 (v8 CA N):=by
 show F.def Cr (λvs H abN ac6 abd=> ?_) (λadP cdv adR adS adT H vs abN ac6 A abd=> ?_)
 ·let⟨ac7,v,x,R,b,M,c,abe,rfl,_⟩:=abd
  rfl
 ·let⟨ac7,v,x,R,b,M,c,abe,rfl,rfl,ac8,hx,h,o,B,hb8,bd,hN,aav⟩:=abd
  let aax:=Cr.nd;let hr1:fo 1 _:=A.bA (by decide);let hr2:fo 2 _:=A.bA (by decide);show(_,ay (dW 2 aax (jf (ak (cA (pv 1) J) (ak (cA (pv 1) J) aB))))
   (ay (fO (yj (io (bY (pv 0) T.cl DH hr1 (ak (pv 1) aB))) (tT (xA (GP (uX A) (pv 2) (cA (pv 0) J)) J))).pt (aV (bP aX)) dH)
   (ay (dW 3 aax (d7 cJ J ml cg (ak (cA (pv 0) J) aB)))
   (ay (tV (uX A) (cA (pv 0) J) (pv 2) (pv 1) J)
   (ay (dW 4 aax (IF (pv 0) T.cl DF hr2))
   (ay (CG dE (fL Uh (pv 4) kP (fU _)) (ay (fY (bY (pv 0) T.cl DT A (ak (N0 (uX A) (cA (pv 0) J) (pv 4) (J,J,J,J)) aB))) (aV (dW 4 aax (IF (pv 0) T.cl DF hr2)))))
   (aV (bP (ij pK (d7 cJ J ml cg (ak (cA (pv 0) J) aB)) (pv 3))))))))),?_)
  room
  let⟨p,dp,adU,adV,od,kws,rfl,g1,g2,g3,g4⟩:=id hx.at_;let hh:=(h.hand _ x B).2;show(_,J,p,CA,dp,_,_,J,g1,TA.cl,TA.na _ (by simp),kI ..,_,J,p,CA,dp,_,_,J,g1,TA.cl,TA.na _ (by simp),kN ..,lB,λq hq=> ?_);let s:bB H (bD H q (.dC [.int (x.hand:Int),.int (x.number:Int)])):=bB.new hq;let hid:eW (bD H q (.dC [.int (x.hand:Int),.int (x.number:Int)])) q #[x.hand,x.number]:=aw;generalize bD _ _ _=L at s hid⊢;let C:=bT.same ac8 s;let⟨O,U⟩:=C.self;let⟨D,hw1,hw2⟩:=C.kz;let hx0:=hx.bA s.grows;show(_,J,R .self,O,_,J,U,J,_,J,R .self,O,R .eV,_,_,.ref p,x,J,U,(cF R _).2.1,C.eV,hx0,hh.1,by rw[mw];show hh.2,?_);rw[(FD b c.acts hh.1 hh.2)];let act:(c.acts++c.waits).any (e8 x)=aC->abN (.int 0) L:=λz=>by
   let e:iz b c x=c:=by unfold iz;rw[aH z]
   let:=aav L (bQ.rA s) s.grows (by rw[e];show C);rw[e,Yl] at this;show this
  let⟨ws,hwp,hwa⟩:=id hw2;let srt:∀{a:Ps},cK b M a->Sb a.waits:=λaav=>aav.wsrt;show(_,J,?_);by_cases hA:x.number<=de c.acts x.hand
  ·show iu (decide_eq_true hA) (iu J (act ((zj h o B).mpr (.inl hA))))
  ·show jg (decide_eq_false hA) (_,J,_,J,R .self,N,O,_,_,J,U,T.cl,T.na _ (by simp),(cF R _).2.2.2.1,R .kz,_,J,oW.t hw1 hid.key,_,J,?_)
   by_cases hB:x∈c.waits
   ·let⟨aaE,hu,_⟩:=BQ hwa ((hwp.map Ph).nodup_iff.mpr (srt o).nd) x (hwp.mem_iff.mpr hB)
    rw[hu];show iu J (act ((zj h o B).mpr (.inr hB)))
   ·let acw:(c.acts++c.waits).any (e8 x)=aA:=by
     cases e:(c.acts++c.waits).any (e8 x) with
     |false=>rfl
     |true=>
      rcases(zj h o B).mp e with z|z
      ·show absurd z hA
      ·show absurd z hB
    let acy:∀y∈c.waits,Ph y≠Ph x:=λy l e=>by
     let e1:y.hand=x.hand:=eI Tc e;let ym:=o.wmade y l;rw[e1] at ym;show hB (by rw[<-h.Jt ym B (eI yW e)];show l)
    let ada:dZ D (iL #[x.hand,x.number])=au:=by
     cases e:dZ D (iL #[x.hand,x.number]) with
     |none=>rfl
     |some aaE=>
      let⟨z,hz,ez⟩:=aY.mp (Gg e);let⟨adX,hi⟩:=List.mem_iff_getElem?.mp hz;let⟨y,l,h1,_⟩:=bL.get hwa hi;show absurd (jE (h1.symm.trans ez)) (acy y (hwp.mem_iff.mp (bg l)))
    rw[ada];show jg J ?_;let⟨cvs,hcm,hca⟩:=C.kH;show(_,J,R .self,N,O,_,_,J,U,T.cl,T.na _ (by simp),(cF R _).2.2.1,R .kH,cvs,J,.inl (eE.of hcm),?_);let hlw:D.length<1000000:=by
     let:=bL.length hwa;let h2:=hwp.length_eq;let h3:c.waits.length<=8*abe:=NA h o bd hb8;lk
    show(_,J,_,J,R .self,N,O,_,_,J,U,T.cl,T.na _ (by simp),(cF R _).2.2.2.1,_,J,R .kz,_,J,xG.t hw1 hid.key (jy (by lk)),?_);let G1:Grows CA H (bD L (R .kz) (.dT (fT D (iL #[x.hand,x.number]) (.ref p)))):=s.grows.trans (Grows.put hw1 (λz=>z));let K1:bQ (p9 R) H (bD L (R .kz) (.dT (fT D (iL #[x.hand,x.number]) (.ref p)))):=(bQ.rA s).put (_,J);let j:on CA N (bD L (R .kz) (.dT (fT D (iL #[x.hand,x.number]) (.ref p)))) R b (c.acts,nW x c.waits):=C.Vj (P1 hw2 hx0 acy);generalize bD _ _ _=u at G1 K1 j⊢;let co1:=o.kz h B acw;let ecm:iz b c x=mH b ((nW x c.waits).length+1) (c.acts,nW x c.waits):=by
     unfold iz;rw[aD (by rw[acw];decide)]
    let fr:∀u a,on CA N u R b a->cK b M a->∀Q' E',(a.waits.find? (o8 b a.acts)=au->∀n,bB u n->Q' .jn n)->(∀y,a.waits.find? (o8 b a.acts)=ag y->∀n q,bB u n->eW n q #[y.hand,y.number]->Q' (.ref q) n)->
      mq CA N [.ref (R .self)] u Q' E':=λu a j k1 Q' E' q1 q2=>by
     let⟨dx1,hs1⟩:=j.self;let⟨wk,Y,w2⟩:=j.kz;let hkl:∀y∈a.waits,y.knows.length=(ki b a.acts).length:=λy l=>by rw[mw];show(h.kn _ y (k1.wmade y l)).1
     let acX:a.waits.find? (λy=>Ar y.knows (ki b a.acts))=a.waits.find? (o8 b a.acts):=Dv λy l=>Jb (by rw[<-mw b a.acts];show hkl y l);show(R .self,dx1,R .eV,R .kz,_,ki b a.acts,wk,a.waits,J,hs1,(cF R _).2.1,(cF R _).2.2.2.1,J,j.eV,Y,w2,srt k1,by rw[mw];show hb8,hkl,λz=>q1 (by rw[<-acX];show z),λy z=>q2 y (by rw[<-acX];show z))
    let⟨dx1,hs1⟩:=j.self;let hcl:(cvs.length:Int)=(c.acts.length:Int):=by rw[bL.length hca]
    rw[hcl];let' Z:Nat->V->Hp->Prop:=λm f g=>∃a k,m=a.waits.length/\bQ (p9 R) H g/\Grows CA H g/\on CA N g R b a/\cK b M a/\a.waits.length<k/\mH b k a=iz b c x/\
     ((f=.jn/\a.waits.find? (o8 b a.acts)=au)\/∃y r,f=.ref r/\a.waits.find? (o8 b a.acts)=ag y/\eW g r #[y.hand,y.number])
    show(_,J,R .self,dx1,_,J,hs1,J,GR (Fi (Q:=λf g=>∃m,Z m f g) (E:=E0) ?_ (fr u _ j co1 _ _ (λz g d=>(_,(c.acts,nW x c.waits),_,J,K1.same d,G1.trans d.grows,bT.same j d,co1,jC _,ecm.symm,.inl (J,z)))
     λy z g r d hr'=>(_,(c.acts,nW x c.waits),_,J,K1.same d,G1.trans d.grows,bT.same j d,co1,jC _,ecm.symm,.inr (y,r,J,z,hr')))))
    rintro f g hZ
    room
    show(λm σ n=>∃f,σ=[ag (V.ref (R .self)),ag (V.ref p),ag (V.ref q),ag (V.int (c.acts.length:Int)),ag f]/\Z m f n,let(m,z):=hZ;(m,f,J,z),?_);rintro m σ H3 ⟨rv3,rfl,i,k,rfl,K3,G3,I,co3,hfl,est,hrv⟩
    room
    let⟨k,rfl⟩:∃f',k=f'+1:=(k - 1,by lk);rcases hrv with⟨rfl,hfn⟩|⟨y,r,rfl,hfs,hri⟩
    ·
     show(_,J,J,_,J,jg J ?_);rw[GA hfn] at est;let⟨dx3,hs3⟩:=I.self;let⟨vs3,hc3,ha3⟩:=I.kH;show(_,J,R .self,N,dx3,_,_,J,hs3,T.cl,T.na _ (by simp),(cF R _).2.2.1,R .kH,vs3,J,.inl (eE.of hc3),_,J,_,_,J,J,?_);let:=aav H3 K3 G3 (by rw[<-est];show I);rw[<-est] at this;rw[bL.length ha3];show this
    ·show(_,J,J,_,J,iu J (_,λσ' H'' z=>z,?_))
     let hym:=jS hfs;let hyM:=co3.wmade y hym;let hyh:=(h.hand _ y hyM).2;let⟨dx3,hs3⟩:=I.self;let⟨wk,Y,w2⟩:=I.kz;let⟨ws3,wp3,wa3⟩:=id w2;let⟨aaE,hu,hua⟩:=BQ wa3 ((wp3.map Ph).nodup_iff.mpr (srt co3).nd) y (wp3.mem_iff.mpr hym);let G4:Grows CA H3 (bD H3 (R .kz) (.dT (jV wk (iL #[y.hand,y.number])))):=Grows.put Y (λz=>z);let hal:i.acts.length<=8*abe:=Eg bd co3 hb8;let wro:=h.wr _ y hyM;show(_,J,R .self,dx3,_,J,hs3,J,_,J,R .self,N,dx3,_,_,J,hs3,T.cl,T.na _ (by simp),(cF R _).2.2.2.1,R .kz,J,.inr (_,.inl Y),_,J,wk,_,r,aaE,Y,J,hri.key,hu,?_);show(R .self,aaE,y,R,b,i.acts,_,_,_,_,_,J,J,(bT.Vj I (NB w2 y)),hua.bA G4,λw hw=>om.Yv (wro.Dy w hw),wro.nd,hyh.1,by rw[mw];show hyh.2,by lk,by let:=wro.LB;lk,λH5 K5 G5 C5=> ?_);let C6:=HS hyh.1 hyh.2 wro.LB C5;let co6:=co3.aas h hym (pZ hfs);let K6:=(K3.put (_,J)).trans K5;let G6:=(G3.trans G4).trans G5;let ac5:mH b k (i.acts++[y],i.waits.filter λz=> !e8 z y)=iz b c x:=by rw[<-Gz hfs];show est
     let hlt:(i.waits.filter λz=> !e8 z y).length<i.waits.length:=SM.filter_lt hym (by rw[lS.mpr (J,J)];rfl);let⟨dx6,hs6⟩:=C6.self;show(_,J,R .self,dx6,_,J,hs6,J,GR (Fi (Q:=λf g=>∃m,m<i.waits.length/\Z m f g) (E:=E0) (λf H7 (m,hm,z)=>(m,hm,f,J,z)) (fr H5 _ C6 co6 _ _ (λz g d=>(_,hlt,(i.acts++[y],i.waits.filter λz=> !e8 z y),k,J,K6.same d,G6.trans d.grows,bT.same C6 d,co6,bu hlt (Pz hfl),ac5,.inl (J,z)))
      λy' z g r' d hr'=>(_,hlt,(i.acts++[y],i.waits.filter λz=> !e8 z y),k,J,K6.same d,G6.trans d.grows,bT.same C6 d,co6,bu hlt (Pz hfl),ac5,.inr (y',r',J,z,hr')))))
end
structure fD(H:Hp)(P:Addr)(pos:Pos)(qual:Str):Prop where
 at_:∃ps,H P=some (.oY ps)/\TriplesOk ps.toList/\(codeAmong pos ps.toList=none\/∃c',codeAmong pos ps.toList=some (.ref c')/\H c'=some (qK c' qual))
def fD.same(h:fD H P b d)(S:bB H e):fD e P b d:=by
 let⟨f,g,i,a⟩:=h.at_;show(f,S _ _ g,i,?_);rcases a with a|⟨c,a,j⟩
 ·show .inl a
 ·show .inr (c,a,S _ _ j)
def fD.put(h:fD H P f d)(g:a≠P)(i:∀c,H a≠ag (qK c d)):fD (bD H a o) P f d:=by
 let⟨j,k,l,b⟩:=h.at_;show(j,by rw[aZ (ff g)];show k,l,?_);rcases b with b|⟨c,b,e⟩
 ·show .inl b
 ·show .inr (c,b,by rw[aZ (λz=>i c (by rw[<-z];show e))];show e)
inductive aaH(K:aq)(C:az)(m a:cX)(st:qc)(b:aa cX)(c:az):Prop|mk:∀(f:az) (i:aE) (j:ae az) (kV d e:aE) (g:ae az) (h:aE) (k:af (ae aE)),OS K C m f->K.lookup f=ag (i,j,.func (eU m a (ku st) (iB st) (bo st) .none kV d e g (.ref c) h),k)->ju K (.ref c) a=aC->eG K (.ref f)=aC->Binds K (eU m a (ku st) (iB st) (bo st) .none kV d e g (.ref c) h) b []->aaH K C m a st b c
structure Nb(K:PySem.W.Frag)(C:Addr)(m qual:Str)(st:Stmt)(ps:List Str)(c:Addr):Prop where
 ex:aaH K C m qual st ps c
section
universe a
def Nb.def{st:qc}(F:Nb K C m e st b c)(S:bM g b (bo st))(len:∀a H Q E,i a H Q E->a.length=b.length)
  (j:∀f A d s H a Q E,fo k (A.deeper (sQ e (bo st) s.heap.objs.size f (.ref c)))->i a H Q E->
   ∃t,JE (DY Pj P w K mg base g e (bo st) f (.ref c) A d s H E).IM (iB st) t/\t {nx:=λ_ l=>Q .jn l,rt:=Q} (start g a) H):eC P w K mg base C m b (k+1) i:=by
 let⟨f,v,x,kV,y,z,B,D,I,n,lk,o,L,p⟩:=F.ex;show(f,_,n,p,RJ lk o S len λA d s H a Q E r u=> ?_);let⟨t,h,q⟩:=j f A d s H a Q E r u;show(t,h.IM,q)
end
def Xa(h:Se H k v)(c:Se H d v):k=d:=by
 cases k with
 |inl i=>
  cases(show v=V.int i from h);cases d with
  |inl j=>cases(show V.int i=V.int j from c);rfl
  |inr g=>let(b,e,_):=c;cases e
 |inr n=>
  let⟨b,rfl,l⟩:=h;cases d with
  |inl j=>cases(show V.ref b=V.int j from c)
  |inr g=>
   let⟨o,e,f⟩:=c;cases e;rw[l] at f;simp![ni,HO.dC.injEq] at f
   congr 1
   let:∀(a b:aa Int),a.map V.int=b.map V.int->a=b:=by
    intro a;induction a with
    |nil=>intro b h;cases b with|nil=>rfl|cons _ _=>cases h
    |cons x a m=>
     intro b h;cases b with
     |nil=>cases h
     |cons y b=>
      simp![bi,dL,V.int.injEq] at h;rw[h.1,m b h.2]
   show this _ _ f
def Qg(h:jo H g a)(b:jo H c a):g=c:=by
 let⟨k,e,p⟩:=h;let⟨l,d,f⟩:=b;rw[e] at d;cases d;clear e;induction p generalizing c with
 |nil=>cases f;rfl
 |cons h t i=>
  cases f with
  |cons b j=>rw[Xa h b,i j]
def WQ(h:iD H a p)(b:iD H a q):p=q:=by
 let:∀(p q:Place),p.map PL.oP=q.map PL.oP->p=q:=by
  intro p;induction p with
  |nil=>intro q h;cases q with|nil=>rfl|cons _ _=>cases h
  |cons x p c=>
   intro q h;cases q with
   |nil=>cases h
   |cons y q=>
    simp![bi,dL] at h;rw[PL.HV.mp h.1,c q h.2]
 show this p q (Qg h b)
open Classical in
noncomputable def IE (H:Hp) (a:az):Place:=if h:∃p,iD H a p then h.choose else []
def My(h:iD H a p):IE H a=p:=by
 unfold IE;let b:∃p,iD H a p:=(p,h);rw[dif_pos b];show WQ b.choose_spec h
def Moved(H:Hp)(R a:pN->az):Prop:=∀r,a r=R r\/((r=.zx\/r=.zw)/\H (a r)=au)
structure vS(CA PT:Addr)(H H':Hp)(R R':pN->Addr):Prop where
 Xc:Moved H R R'
 keep:bQ (λc=>p9 R c\/c=PT) H H'
 grow:Grows CA H H'
 trk:∀b,H b≠none->H' b≠none
def CY:Moved H R R:=λ_=>.inl rfl
theorem Bj:∀{u v:aa Nat},Ag u=Ag v->u=v
 |[],[],_=>rfl
 |[],_::_,h=>nomatch h
 |_::_,[],h=>nomatch h
 |a::u,b::v,h=>by
  unfold Ag at h;simp![bi,dL,Et,qU,and_true] at h;rw[Bj (u:=u) (v:=v) h.2,show a=b by lk]
def bT.has{eV:aa Nat}(C:bT CA N H R b l m p q eV n)(r:pN):∃o,H (R r)=ag o/\(∀c,o≠.oY c)/\(N≠CA->¬VN CA o):=by
 let⟨s,d⟩:=C.self;let⟨t,e,_⟩:=C.kH;let⟨v,f,_⟩:=C.kz;let⟨x,g,_⟩:=C.cnt;let⟨u,_,i,a⟩:=C.pl;let⟨y,j,_⟩:=a 0 (by decide);let⟨A,k,_⟩:=a 1 (by decide);cases r with
 |self=>show(_,d,(λ_ z=>nomatch z),λh z=>h z.1)
 |eV=>show(_,C.eV,(λ_ z=>nomatch z),λ_ z=>z)
 |kH=>show(_,e,(λ_ z=>nomatch z),λ_ z=>z)
 |kz=>show(_,f,(λ_ z=>nomatch z),λ_ z=>z)
 |cnt=>show(_,g,(λ_ z=>nomatch z),λ_ z=>z)
 |rq=>show(_,C.rq,(λ_ z=>nomatch z),λ_ z=>z)
 |zx=>show(_,j,(λ_ z=>nomatch z),λ_ z=>z)
 |zw=>show(_,k,(λ_ z=>nomatch z),λ_ z=>z)
 |xn=>show(_,i,(λ_ z=>nomatch z),λ_ z=>z)
def p7(R:pN->az)(a:Nat)(d:az):pN->az:=λr=>if r=oK a then d else R r
def wf(a:Nat):oK a=.zx\/oK a=.zw:=by unfold oK;split<;>simp
def CZ(h:r≠.zx)(b:r≠.zw):p7 R a d r=R r:=by
 unfold p7;rw[aD];rcases wf a with e|e<;>rw[e]<;>assumption
def bT.TX{s:aa Nat}(C:bT CA N H R b D E t p s n)(hax:a<2)(I:H d=au)(g:Grows CA H h)
  (i:∀r,r≠.rq->r≠.xn->∀o,H (R r)=ag o->h (R r)=ag o)(L:h (R .rq)=ag (.bZ [.ref (p7 R a d .zx),.ref (p7 R a d .zw)]))(M:h d=ag (.dT (gW es1)))(O:H (R .xn)=ag (.dK (Ag u)))(Q:h (R .xn)=ag (.dK (Ag k)))(T:JD k)(U:k.contains a=aA)(Y:∀j,j<2->j≠a->k.contains j=u.contains j)
  (he:uF h es1 (λaav=>vC t a (gx b a) aav) (64+n) aC):bT CA N h (p7 R a d) b D E t p s n:=by
 let⟨dx,h1⟩:=C.self;let⟨vs,h2,h3⟩:=C.kH;let⟨ks,h4,h4'⟩:=C.kz;let⟨cs,h6,h7⟩:=C.cnt;let⟨u0,_,v,h10⟩:=C.pl;let eu:u0=u:=by
  rw[O] at v;let z:=aJ v;injection z with z;show(Bj z).symm
 subst eu;let c:∀r,r≠.zx->r≠.zw->p7 R a d r=R r:=λr aaE h'=>CZ aaE h';let cf:oN (p7 R a d) p=oN R p:=by
  unfold oN;rw[c .eV (by decide) (by decide),c .kH (by decide) (by decide),c .kz (by decide) (by decide),c .cnt (by decide) (by decide),c .rq (by decide) (by decide),c .xn (by decide) (by decide)]
 let x:∀r,R r≠d:=λr e=>by
  let⟨o,y,_⟩:=C.has r;rw[e,I] at y;cases y
 show(λr q e=> ?_,(dx,?_),?_,(vs,?_,h3.bA g),(ks,?_,h4'.bA g),(cs,?_,h7.bA g),?_,k,T,?_,λf A=> ?_)
 ·unfold p7 at e
  by_cases l:r=oK a<;>by_cases m:q=oK a
  ·rw[l,m]
  ·rw[aH l,aD m] at e;show absurd e.symm (x q)
  ·rw[aD l,aH m] at e;show absurd e (x r)
  ·rw[aD l,aD m] at e;show C.inj r q e
 ·rw[c .self (by decide) (by decide),cf];show i _ (by decide) (by decide) _ h1
 ·rw[c .eV (by decide) (by decide)];show i _ (by decide) (by decide) _ C.eV
 ·rw[c .kH (by decide) (by decide)];show i _ (by decide) (by decide) _ h2
 ·rw[c .kz (by decide) (by decide)];show i _ (by decide) (by decide) _ h4
 ·rw[c .cnt (by decide) (by decide)];show i _ (by decide) (by decide) _ h6
 ·rw[c .rq (by decide) (by decide)];show L
 ·rw[c .xn (by decide) (by decide)];show Q
 ·by_cases B:f=a
  ·subst B
   show(es1,?_,?_)
   ·unfold p7;rw[aH J];show M
   ·rw[U];show he
  ·let⟨es,e1,e2⟩:=h10 f A
   let ra:oK f≠oK a:=by
    unfold oK;let:(f=0/\a=1)\/(f=1/\a=0):=by lk
    rcases this with⟨rfl,rfl⟩|⟨rfl,rfl⟩<;>decide
   show(es,?_,?_)
   ·unfold p7;rw[aD ra];show i _ (by rcases wf f with e|e<;>rw[e]<;>decide) (by rcases wf f with e|e<;>rw[e]<;>decide) _ e1
   ·rw[Y f A B];show e2.bA g
def dp2(a:fo k A):A.depth+2<fE:=by let:=a.dp;lk
def Qa(h:JD u)(i:a<2)(hc:u.contains a=aC):∃b,JD b/\jV (Ag u) (cy (a:Int))=Ag b/\b.contains a=aA/\(∀j,j<2->j≠a->b.contains j=u.contains j)/\dZ (Ag u) (cy (a:Int))=ag (.bl aC):=by
 let e:a=0\/a=1:=by lk
 let c:∀{u b:aa Nat},(0≠a->b.contains 0=u.contains 0)->(1≠a->b.contains 1=u.contains 1)->∀j,j<2->j≠a->b.contains j=u.contains j:=λf g j k d=>by
  let:j=0\/j=1:=by lk
  rcases this with rfl|rfl
  ·show f d
  ·show g d
 rcases h with rfl|rfl|rfl|rfl|rfl<;>rcases e with rfl|rfl
 ·cases hc
 ·cases hc
 ·show([],.inl rfl,J,J,c (λz=>(z J).elim) (λ_=>rfl),J)
 ·cases hc
 ·cases hc
 ·show([],.inl rfl,J,J,c (λ_=>rfl) (λz=>(z J).elim),J)
 ·show([1],.inr (.inr (.inl rfl)),J,J,c (λz=>(z J).elim) (λ_=>rfl),J)
 ·show([0],.inr (.inl rfl),J,J,c (λ_=>rfl) (λz=>(z J).elim),J)
 ·show([1],.inr (.inr (.inl rfl)),J,J,c (λz=>(z J).elim) (λ_=>rfl),J)
 ·show([0],.inr (.inl rfl),J,J,c (λ_=>rfl) (λz=>(z J).elim),J)
def Rr(r:fD H P b c)
  (h:∀g f a d,bQ (·=P) H g->Grows CA H g->fD g P b c->g f=ag (AV f (Aa "<lambda>" c m n o [] p a d))->g a=ag (qK a c)->Q (.ref f) g):Zy c P m n o b p B H Q:=by
 let⟨j,k,q,i⟩:=r.at_;show(j,k,q,?_);rcases i with i|⟨a,i,s⟩
 ·show .inl (i,λf a d e hc t=> ?_)
  let u:=bI k hc;let v:=bI k e;let y:bD H P (.oY (j++(List.toArray [fb b.line,fb b.col,.ref a]))) a=au:=by rw[aZ u.symm];show hc
  let A:bD (bD H P (.oY (j++(List.toArray [fb b.line,fb b.col,.ref a])))) a (qK a c) f=au:=by rw[aZ t,aZ v.symm];show e
  let l:bD (bD (bD H P (.oY (j++(List.toArray [fb b.line,fb b.col,.ref a])))) a (qK a c)) f (AV f (Aa "<lambda>" c m n o [] p a d)) a=ag (qK a c):=by rw[aZ t.symm,aw]
  show h _ f a d ((((bQ.refl (F:=λx=>x=P)).put J).new y).new A) (((Grows.put k (λz=>z)).trans (Grows.new y)).trans (Grows.new A)) (j++(List.toArray [fb b.line,fb b.col,.ref a]),by rw[aZ v,aZ u,aw],?_,.inr (a,?_,l)) aw l
  ·rw[Kf];show TriplesOk_snoc _ _ _ _ q
  ·rw[Kf];show codeAmong_snoc _ q i
 ·show .inr (a,i,λf d e=> ?_)
  let l:bD H f (AV f (Aa "<lambda>" c m n o [] p a d)) a=ag (qK a c):=by rw[aZ (bI s e)];show s
  show h _ f a d ((bQ.refl).new e) (Grows.new e) (r.same (bB.new e)) aw l
def uc:pW:=(135,71,135,91)
def n9:cX:=("Copy.order":cX)++".<locals>."++"<lambda>"
section
universe a
variable{CA N:az}
inductive Gu(CA N PT:az)(h:aa V)(H:Hp)(Q:VK)(E:XK):Prop|mk:∀(a:az) (c:Nat) (R:pN->az) (b:gq) (k l:aa Act) (e:k9->ae Act) (m:Nat) (o:aa Nat) (n:Nat) (u:aa Nat),h=[.ref a,.int (c:Int)]->R .self=a->c<2->bT CA N H R b k l e m o n->fD H PT uc n9->H (R .xn)=ag (.dK (Ag u))->u.contains c=aC->(∀i j p,vC e c (gx b c) i=ag p->vC e c (gx b c) j=ag p->i=j)->(∀d f,vS CA PT H d R f->bT CA N d f b k l e m o n->fD d PT uc n9->(∃g,d (f .xn)=ag (.dK (Ag g))/\g.contains c=aA/\∀j,j<2->u.contains j=aA->g.contains j=aA)->Q .jn d)->Gu CA N PT h H Q E
def Ij:bM ["self","axis"] ["self","axis"] (bo (cQ (fI 19) 7)):=cB
def abv{c PT:az}(F:Nb K N "order" "Copy.order" (cQ (fI 19) 7) ["self","axis"] c)(T:dY K N iS)(md:mg "dict"=au)(ms:mg "sorted"=au)(CH:qf base c PT)(abl:base.BuiltinsAt mg PT)(hgP:fj≠PT):
  -eC N "order" ["self","axis"] 1 (Gu CA N PT):=by
 show F.def Ij (λvs H abn abo h=> ?_) (λac8 ac9 ada adb H vs abn abo s h=> ?_)
 ·let⟨a,b,R,abA,abB,abC,win,tm,had,abN,u,rfl,_⟩:=h
  rfl
 ·let⟨a,b,R,abA,abB,abC,win,tm,had,abN,u,rfl,rfl,B,C,Q,D,hux,acg,acm⟩:=h
  let adc:=Ij.nd;show(_,ay (KZ (jQ (rH (Zp s) J) J md km (ak (Fs (LH (u10 s) J (dp2 s)) J ms pU (ak (QU (jm cG (cA (pv 0) J) (pv 1))) aB) (Mz (QT J J J CH abl hgP) QN)) aB)) (Lb (cA (pv 0) J) (pv 1) x9))
   (aV (fY (QX (cA (pv 0) J) (pv 1) (J,J,J,J)))),?_)
  room
  let⟨U,Y⟩:=C.self;let⟨u0,hu1,hu2,hu3⟩:=C.pl;rw[D] at hu2;let eu:u=u0:=by
   let z:=aJ hu2;injection z with z;show Bj z
  subst eu;let⟨E,he1,l⟩:=hu3 b B;let edo:DU (R .zx) (R .zw) b=R (oK b):=by unfold DU oK;split<;>rfl
  show(_,J,R .self,N,U,_,_,J,Y,T.cl,T.na _ (by simp),(cF R _).2.2.2.2.2.1,_,J,R .rq,_,_,_,J,J,eE.of C.rq,BR B,_,gW E,J,.inl (by rw[edo];show he1),λf hr'=> ?_);let I:bB H (bD H f (xc (DU (R .zx) (R .zw) b) f)):=bB.new hr';let hv:bD H f (xc (DU (R .zx) (R .zw) b) f) f=ag (xc (DU (R .zx) (R .zw) b) f):=aw;generalize bD H f (xc (DU (R .zx) (R .zw) b) f)=H1 at I hv⊢;dsimp only[wE,BX];show Rr (CA:=CA) (Q.same I) λi f' c' ctv KL GL TL hf hc'=> ?_;let L:bQ (λx=>x=PT) H i:=(bQ.rA I).trans KL;let aa5:∀c o,H c=ag o->(∀g,o≠.oY g)->i c=ag o:=λc o e n=>L c o e λz=>by
   let⟨g,M,_⟩:=Q.at_;rw[z,M] at e;cases e;show n _ rfl
  let GH:Grows CA H i:=I.grows.trans GL;let hvL:i f=ag (xc (DU (R .zx) (R .zw) b) f):=GL f _ hv trivial;let hdL:i (R (oK b))=ag (.dT (gW E)):=aa5 _ _ he1 (λ_ z=>nomatch z);show(f,DU (R .zx) (R .zw) b,f',c',E.map (λe=> #[iL e.1.2,e.2]),IE i,_,_,_,_,_,_,_,_,_,_,_,J,J,hvL,.inl (by rw[edo,df];show hdL),hf,hc',(λ_ _=>rfl,J,J,J,J,J,by lia),λz hz=> ?_,λacX g es' k hl hl2 ext hpr ac0 ac1=> ?_)
  ·let⟨e,he,rfl⟩:=aY.mp hz
   let M:=(l.at_ e he).bA GH;change jo i ((IE i e.2).map PL.oP) e.2/\IE i e.2≠[];rw[My M];show(M,l.ne e he)
  ·let⟨j,m,rfl⟩:=sB ac0
   let ek:(j.map λe=> #[iL e.1.2,e.2]).map (λz=> #[z.1,V.ref z.2])=gW j:=by rw[df];rfl
   rw[ek] at hpr;let nd1:(j.map (·.1.2)).Nodup:=(m.map (·.1.2)).nodup_iff.mpr l.nd;let GE:Grows CA i k:=λc o e _=>ext c o e;let G2:Grows CA H k:=GH.trans GE;let abb:∀c o,H c=ag o->(∀g,o≠.oY g)->k c=ag o:=λc o e n=>ext c o (aa5 c o e n);show(acX,g,gW j,J,eE.of hl2,hpr,λd p=> ?_);rw[qA (CN nd1)];let q:H d=au:=by
    cases e:H d with
    |none=>rfl
    |some o=>
     by_cases c:∃g,o=.oY g
     ·let⟨ps',rfl⟩:=c
      let⟨ps0,t,_⟩:=TL.at_;by_cases v:d=PT
      ·rw[v,ext _ _ t] at p;cases p
      ·let:=ext _ _ (L d _ e v)
       rw[p] at this;cases this
     ·let:=abb d o e (λg z=>c (g,z))
      rw[p] at this;cases this
   let at3:∀c o,H c=ag o->(∀g,o≠.oY g)->bD k d (.dT (gW j)) c=ag o:=λc o e n=>by
    rw[aZ (bI e q)];show abb c o e n
   let hp3:=at3 _ _ C.rq (λ_ z=>nomatch z);show(_,J,R .self,N,U,_,_,J,(at3 _ _ Y (λ_ z=>nomatch z)),T.cl,T.na _ (by simp),(cF R _).2.2.2.2.2.1,_,J,R .rq,_,_,b,J,J,hp3,?_,?_)
   ·change Oj 2 (b:Int)=ag b
    unfold Oj;rw[aH (by lk),aH (by lk),bE]
   let ac5:[V.ref (R .zx),V.ref (R .zw)].set b (.ref d)=[V.ref (p7 R b d .zx),V.ref (p7 R b d .zw)]:=by
    let:b=0\/b=1:=by lk
    rcases this with rfl|rfl<;>rfl
   rw[ac5];let at4:∀f,f≠.rq->∀o,H (R f)=ag o->(∀g,o≠.oY g)->bD (bD k d (.dT (gW j))) (R .rq) (.bZ [V.ref (p7 R b d .zx),V.ref (p7 R b d .zw)]) (R f)=ag o:=λf s o e n=>by
    rw[aZ (C.ne s)];show at3 _ _ e n
   let⟨A,w1,w2,w3,w4,w5⟩:=Qa hu1 B hux;let O:=at4 .xn (by decide) _ D (λ_ z=>nomatch z);show(_,J,R .self,N,U,_,_,J,at4 .self (by decide) _ Y (λ_ z=>nomatch z),T.cl,T.na _ (by simp),(cF R _).2.2.2.2.2.2,R .xn,J,.inl (_,.inl O),_,J,Ag u,cy (b:Int),.bl aC,O,J,w5,?_);rw[w2];let TB2:fD k PT uc n9:=TL.same ext;let nP:∀f,R f≠PT:=λf z=>by
    let⟨o,ho,hn,_⟩:=C.has f;let⟨ps0,t,_⟩:=Q.at_;rw[z,t] at ho;cases ho;show hn _ rfl
   let TB5:fD (bD (bD (bD k d (.dT (gW j))) (R .rq) (.bZ [V.ref (p7 R b d .zx),V.ref (p7 R b d .zw)])) (R .xn) (.dK (Ag A))) PT uc n9:=by
    show((TB2.same (bB.new p)).put (nP _) λc z=> ?_).put (nP _) λc z=> ?_
    ·rw[hp3] at z;cases z
    ·rw[O] at z;cases z
   let G5:Grows CA H (bD (bD (bD k d (.dT (gW j))) (R .rq) (.bZ [V.ref (p7 R b d .zx),V.ref (p7 R b d .zw)])) (R .xn) (.dK (Ag A))):=((G2.trans (Grows.new p)).trans (Grows.put hp3 (λz=>z))).trans (Grows.put O (λz=>z));let K5:bQ (λc=>p9 R c\/c=PT) H (bD (bD (bD k d (.dT (gW j))) (R .rq) (.bZ [V.ref (p7 R b d .zx),V.ref (p7 R b d .zw)])) (R .xn) (.dK (Ag A))):=
    ((((L.bA λc z=>J3 z).same ext).new p).put (.inl (_,J))).put (.inl (_,J))
   let trk:∀c,H c≠au->bD (bD (bD k d (.dT (gW j))) (R .rq) (.bZ [V.ref (p7 R b d .zx),V.ref (p7 R b d .zw)])) (R .xn) (.dK (Ag A)) c≠au:=λc hc=>by
    let h2:k c≠au:=by
     cases e:H c with
     |none=>show absurd e hc
     |some o=>
      by_cases v:c=PT
      ·let⟨ps0,t,_⟩:=TB2.at_
       rw[v,t];simp
      ·rw[ext _ _ (L c _ e v)];simp
    let up:∀(Hx:Hp) (a:az) (o:HO),Hx c≠au->bD Hx a o c≠au:=λHx a o h=>by
     by_cases e:c=a
     ·rw[e,aw];simp
     ·rw[aZ e];show h
    show up _ _ _ (up _ _ _ (up _ _ _ h2))
   show acm _ (p7 R b d) (λf=> ?_,K5,G5,trk) (C.TX B (es1:=j) q G5 (λf h1 h2 o e=> ?_) (by rw[aZ (C.ne (by decide)),aw]) ?_ D aw w1 w3 w4 ?_) TB5 (A,?_,w3,λabe hj hn=> ?_)
   ·unfold p7
    by_cases c:f=oK b
    ·rw[aH c]
     show .inr (by rw[c];show wf b,q)
    ·rw[aD c];show .inl rfl
   ·let⟨o',ho',hn',_⟩:=C.has f
    rw[e] at ho';cases ho';rw[aZ (C.ne h2)];show at4 f h1 o e hn'
   ·let d1:d≠R .rq:=λz=>by rw[z,C.rq] at q;cases q
    let d2:d≠R .xn:=λz=>by rw[z,D] at q;cases q
    rw[aZ d2,aZ d1,aw]
   ·let pc:j.map (·.1)|>.Perm (E.map (·.1)):=m.map (·.1)
    show(λe h=>((l.at_ e (m.mem_iff.mp h)).bA G5),λe h=>l.ne e (m.mem_iff.mp h),λx=> ?_,nd1,λ_=> ?_,by rw[m.length_eq];show l.len)
    ·rw[pc.mem_iff];show l.mem x
    ·unfold M8
     let plv:∀e∈j,IE i e.2=e.1.1:=λe h=>My ((l.at_ e (m.mem_iff.mp h)).bA GH);show bN.mpr (jD (λ{x y} hx hy z=> ?_) (List.pairwise_and_iff.mpr ((bN.mp ac1),bN.mp nd1)));let⟨z1,z2⟩:=z;let z1':YT (IE i y.2) (IE i x.2)=aA:=z1;rw[plv x hx,plv y hy] at z1';rcases wx x.1.1 y.1.1 with c|c|c
     ·show c
     ·exfalso
      let m2:=(l.mem y.1).mp (dm (m.mem_iff.mp hy));rw[<-c] at m2;show z2 (acg _ _ _ ((l.mem x.1).mp (dm (m.mem_iff.mp hx))) m2)
     ·rw[c] at z1';cases z1'
   ·rw[CZ (r:=.xn) (by decide) (by decide),aw]
   ·by_cases c:abe=b
    ·rw[c];show w3
    ·rw[w4 abe hj c];show hn
end
section
variable{CA PT:az}{H O H2:Hp}{R R' afZ:pN->az}
def vS.same(S:bB H O):vS CA PT H O R R:=(CY,bQ.rA S,S.grows,λb h=>by
 cases e:H b with
 |none=>show absurd e h
 |some o=>rw[S _ _ e];simp)
theorem vS.trans(a:vS CA PT H O R R')(b:vS CA PT O H2 R' afZ):vS CA PT H H2 R afZ:=by
 show(λr=> ?_,λc o e n=> ?_,a.grow.trans b.grow,λc h=>b.trk c (a.trk c h))
 ·rcases b.Xc r with e|⟨d,e⟩
  ·rw[e];show a.Xc r
  ·show .inr (d,?_)
   cases q:H (afZ r) with
   |none=>rfl
   |some o=>show absurd e (a.trk _ (by rw[q];simp))
 ·show b.keep c o (a.keep c o e n) λz=> ?_
  rcases z with⟨r,z⟩|z
  ·rcases a.Xc r with q|⟨_,q⟩
   ·show n (.inl (r,by rw[z,q]))
   ·rw[z] at e;rw[q] at e;cases e
  ·show n (.inr z)
def vS.then(a:vS CA PT H O R R')(S:bB O H2):vS CA PT H H2 R R':=a.trans (vS.same S)
def vS.own(K:bQ (p9 R) H O)(G:Grows CA H O)(C:bT CA N O R b d g i j k n):vS CA PT H O R R:=
 (CY,K.bA λ_ z=>.inl z,G,λc h=>by
  by_cases f:p9 R c
  ·let⟨r,rfl⟩:=f
   let⟨o,a,_⟩:=C.has r;rw[a];simp
  ·cases e:H c with
   |none=>show absurd e h
   |some o=>rw[K c o e f];simp)
theorem vS.self(a:vS CA PT H O R R'):R' .self=R .self:=by
 rcases a.Xc .self with e|⟨h,_⟩
 ·show e
 ·rcases h with h|h<;>cases h
end
def MR(Z:L2.St->Hp->Prop)(b:∀a H,Z a H->D.nx a H)(d:(∀a H,Z a H->D.nx a H)->NM c t u D a H):NM c t u D a H:=d b
def zU(b:gq)(c:k9->ae Act)(a:Nat)(L:aa (Place×Id)):Prop:=
 (∀m:aa (Place×Id),M8 m->(∀x,x∈m↔vC c a (gx b a) x.2=ag x.1)->m=L)/\(∀x,x∈L↔vC c a (gx b a) x.2=ag x.1)/\(∀i j p,vC c a (gx b a) i=ag p->vC c a (gx b a) j=ag p->i=j)
section
universe a
variable{CA N:az}
inductive xr(CA N PT:az)(f:aa V)(H:Hp)(Q:VK)(E:XK):Prop|mk:∀(a:az) (d:Nat) (R:pN->az) (b:gq) (g h:aa Act) (e:k9->ae Act) (i:Nat) (j:aa Nat) (n:Nat) (L:aa (Place×Id)),f=[.ref a,.int (d:Int)]->R .self=a->d<2->bT CA N H R b g h e i j n->fD H PT uc n9->zU b e d L->(∀c R' l k,vS CA PT H c R R'->bT CA N c R' b g h e i j n->fD c PT uc n9->H l=au->¬p9 R' l->c l=ag (.bZ (k.map V.ref))->SM.bL (λx p=>eW c p x.2) L k->Q (.ref l) c)->xr CA N PT f H Q E
def TR:bM ["self","axis"] ["self","axis"] (bo (cQ (fI 19) 9)):=cB
def P6(h:JD u){a:Nat}(c:a<2):(dZ (Ag u) (cy (a:Int))).isSome=u.contains a:=by
 let b:a=0\/a=1:=by lk
 rcases h with rfl|rfl|rfl|rfl|rfl<;>rcases b with rfl|rfl<;>rfl
def acL{PT:az}(F:ip K N "line" "Copy.line" (cQ (fI 19) 9) ["self","axis"])(T:dY K N iS)(ml:mg "list"=au)(DO:-eC N "order" ["self","axis"] 1 (Gu CA N PT)):-eC N "line" ["self","axis"] 2 (xr CA N PT):=by
 show F.def TR (λvs H aax aaC h=> ?_) (λabh cdv abl abm abn H vs aax aaC B h=> ?_)
 ·let⟨aaE,d,R,b,o,r,s,t,v,n,aaG,rfl,_⟩:=h
  rfl
 ·let⟨aaE,d,R,b,o,r,s,t,v,n,aaG,rfl,rfl,m,C,D,E,aaV⟩:=h
  show(_,ay (fO (xA (GP (uX B) (pv 1) (cA (pv 0) J)) J) (aV (fY (bY (pv 0) T.cl DO B (ak (pv 1) aB)))) dH)
   (aV (bP (jQ (Eb J) J ml kj (ak (jm cG (cA (pv 0) J) (pv 1)) aB)))),?_)
  room
  let⟨I,L⟩:=C.self;let⟨u,hu1,y,hu3⟩:=C.pl;show MR (λM O=>M=[ag (.ref (R .self)),ag (.int (d:Int))]/\∃a u1,vS CA PT H O R a/\bT CA N O a b o r s t v n/\fD O PT uc n9/\O (a .xn)=ag (.dK (Ag u1))/\u1.contains d=aA) ?_ λQ=> ?_
  ·
   rintro M O ⟨rfl,a,u1,G,g,A,hu,hun⟩
   room
   let⟨dx1,U⟩:=g.self;rw[G.self] at U;let⟨u0,v1,Y,v3⟩:=g.pl;rw[hu] at Y;let eu:u1=u0:=by
    let z:=aJ Y;injection z with z;show Bj z
   subst eu;let⟨c,he1,he2⟩:=v3 d m;let edo:DU (a .zx) (a .zw) d=a (oK d):=by unfold DU oK;split<;>rfl
   let eL:=E.1 _ (he2.Mh (by rw[hun];rfl)) he2.mem;show(_,J,R .self,N,dx1,_,_,J,U,T.cl,T.na _ (by simp),(cF a _).2.2.2.2.2.1,_,J,a .rq,_,_,_,J,J,eE.of g.rq,BR m,_,gW c,J,.inl (by rw[edo];show he1),λl f hl hps=> ?_);let S:bB O (bD O l (.bZ (f.map V.ref))):=bB.new hl;show aaV _ a l f (G.then S) (g.same S) (A.same S) ?_ (λ(abd,e)=> ?_) aw ?_
   ·cases e:H l with
    |none=>rfl
    |some abe=>show absurd hl (G.trk l (by rw[e];simp))
   ·let⟨abe,ho,_⟩:=g.has abd
    rw[<-e,hl] at ho;cases ho
   ·rw[<-eL]
    let go:∀c f,fG (λi q=>jo O i.1 q) (gW c) f->SM.bL (λx p=>eW (bD O l (.bZ (f.map V.ref))) p x.2) (c.map (·.1)) f->True:=λ_ _ _ _=>trivial;let go:∀c j,fG (λi q=>jo O i.1 q) (gW c) j->SM.bL (λx p=>eW (bD O l (.bZ (f.map V.ref))) p x.2) (c.map (·.1)) j:=by
     intro c;induction c with
     |nil=>intro j h;cases h;show .nil
     |cons e c ih=>
      intro j h;let h':fG (λi q=>jo O i.1 q) (#[iL e.1.2,V.ref e.2]::gW c) j:=h;cases h' with
      |cons h1 h2=>show .cons (S _ _ (Ru h1)) (ih _ h2)
    show go c f hps
  ·show(_,J,_,J,R .self,N,I,_,_,J,L,T.cl,T.na _ (by simp),(cF R _).2.2.2.2.2.2,R .xn,_,J,oW.k (k:=cy (d:Int)) y,_,J,?_)
   rw[P6 hu1 m];cases hc:u.contains d with
   |false=>show jg J (Q _ _ (J,R,u,vS.same (λ_ _ z=>z),C,D,y,hc))
   |true=>
    show iu J (_,J,R .self,I,_,J,L,J,_,J,R .self,d,R,b,o,r,s,t,v,n,u,J,J,m,C,D,y,hc,E.2.2,λO a G g A (u',q1,q2,_)=>Q _ _ (J,a,u',G,g,A,q1,q2))
end
def HI(h:mX H k v y)(c:k=[2*f+1,a,i])(d:v=[if t then 1 else 0]):y=.bl t:=by
 cases h with
 |place e g=>
  simp![dL] at c;lk
 |gone b e=>
  cases b<;>cases t<;>first|rfl|(simp at d)
 |cell hc=>
  unfold bK at c;simp at c
def zV(b:k9->ae Act)(a:Nat)(c:Id->Bool):Prop:=∀i:Id,(b [2*a+1,i.1,i.2]=au/\c i=aA)\/∃y,b [2*a+1,i.1,i.2]=ag y/\eM y [2*a+1,i.1,i.2]=ag [if c i then 1 else 0]/\∀w∈y.writes,yI w.1
section
universe a
variable{CA N:az}
def Jh(C:bT CA N H R b L M m O T n)(U:c<2)(j:zV m c l)(o:uN H t [2*c+1,i.1,i.2])
  (k:∀d,bB H d->Q (.bl (l i)) d):Ce CA N [.ref (R .self),.ref t] H Q E:=by
 let⟨p,q⟩:=C.self;let⟨r,s,u⟩:=C.cnt;let ok:yI [2*c+1,i.1,i.2]:=.inl (2*c+1,i.1,i.2,by lk,J);show(R .self,p,R .cnt,t,_,r,[2*c+1,i.1,i.2],J,q,(cF R _).2.2.2.2.1,s,ok,o,?_);rcases u.val _ ok with⟨f,g⟩|⟨x,v,f,g,A⟩
 ·rcases j i with⟨_,h⟩|⟨y,a,_⟩
  ·show .inl (g,λd v S B=> ?_)
   let e:v=.bl (l i):=HI B J (by rw[h];change(if(2*c+1)%2=1 then([0]:aa Int) else _)=_;rw[aH (by lk)];rfl);rw[e];show k d S
  ·rw[f] at a;cases a
 ·rcases j i with⟨a,_⟩|⟨y,a,h,D⟩
  ·rw[f] at a;cases a
  ·rw[f] at a
   cases a;show .inr (x,v,_,g,A,h,D,λy I=> ?_);rw[HI I J J];show k H (λ_ _ z=>z)
inductive rf(CA N PT:az)(g:aa V)(H:Hp)(Q:VK)(E:XK):Prop|mk:∀(a:az) (d:Nat) (R:pN->az) (b:gq) (h i:aa Act) (e:k9->ae Act) (j:Nat) (k:aa Nat) (n:Nat) (L:aa (Place×Id)) (m:Id->Bool),g=[.ref a,.int (d:Int)]->R .self=a->d<2->bT CA N H R b h i e j k n->fD H PT uc n9->zU b e d L->zV e d m->L.length<1000000->(∀c f l o,vS CA PT H c R f->bT CA N c f b h i e j k n->fD c PT uc n9->H l=au->¬p9 f l->c l=ag (.bZ (o.map V.ref))->SM.bL (λx p=>eW c p x.2) (L.filter λx=> !m x.2) o->Q (.ref l) c)->rf CA N PT g H Q E
def Ic:bM ["self","axis","number"] ["self","axis"] (bo (cQ (fI 19) 10)):=cB
def abp{PT:az}(F:ip K N "there" "Copy.there" (cQ (fI 19) 10) ["self","axis"])(T:dY K N iS)(DL:-eC N "line" ["self","axis"] 2 (xr CA N PT))(DH:-eC N "has" ["self","target"] 3 (Ce CA N))(DG:-ig "gone_of" ["axis","number"] 1 (oQ 1)):
  -eC N "there" ["self","axis"] 4 (rf CA N PT):=by
 show F.def Ic (λvs H aa5 aa7 h=> ?_) (λabo cdv abB abC s H vs aa5 aa7 r h=> ?_)
 ·let⟨abb,l,R,b,B,E,I,M,O,n,L,j,rfl,_⟩:=h
  rfl
 ·let⟨abb,l,R,b,B,E,I,M,O,n,L,j,rfl,rfl,Q,C,TB,hL,hg,abD,abc⟩:=h
  let U:=Ic.nd;let hr1:fo 1 _:=r.bA (by decide);let hr2:fo 2 _:=r.bA (by decide);show(_,aV (bP (CQ (own:=[#["number",2]]) J U (mv (bY (pv 0) T.cl DL hr2 (ak (pv 1) aB))) (mW J) (λs H C Y fp=>fM (i:=2) U J (gA J))
   (λs H C Y fp=>Mw (je (io (bY (pv 0) T.cl DH r (ak (dU DG hr1 J (ak (pv 1) (ak (pv 2) aB))) aB))))) (λs H C Y fp=>pv 2))),?_)
  room
  let⟨dx,hs⟩:=C.self;show(_,J,R .self,dx,_,J,hs,J,_,J,R .self,l,R,b,B,E,I,M,O,n,L,J,J,Q,C,TB,hL,λH1 R1 abh ps G t T1 hln hlf hl hps=> ?_);let e1:=G.self;show(abh,J,(_,eE.of hl),λD m=> ?_);show yt (λd c=>bB H1 c/\∃a:aa az,c D=ag (.bZ (a.map V.ref))/\SM.bL (λx p=>eW c p x.2) ((L.take d).filter λx=> !j x.2) a) ?_ (λd c _ (S,_)=>eE.of (S _ _ hl)) ?_ ?_
  ·show(bB.new m,[],aw,.nil)
  ·rintro d ab6 c hi ⟨S,a,u,k⟩
   rw[aF] at hi;let⟨q,hpq,rfl⟩:=bv.mp hi;let⟨x,hx,hxq⟩:=bL.yz hps hpq;let etk:L.take (d+1)=L.take d++[x]:=by rw[cE,hx];rfl
   let hqb:a.length<=L.length:=by
    rw[<-(bL.length k)];show bC (eY _ _) (by rw[dq];lk)
   let C':=t.same S;let⟨dx',hs'⟩:=C'.self;rw[e1] at hs';show(J,(_,J,R .self,dx',_,J,hs',J,_,J,_,J,(l:Int),_,J,λaaG ht=> ?_));let f:bB c (bD c aaG (.dC [.int (2*(l:Int)+1),.ref q])):=bB.new ht;let tg:=GG (by rw[aw];rfl) (f _ _ (S _ _ hxq));let C2:=C'.same f;let v:=f _ _ u;generalize bD _ _ _=H2 at f tg C2 v⊢;let go:∀y E',(∀g,bB H2 g->y (.bl (j x.2)) g)->Ce CA N [.ref (R .self),.ref aaG] H2 y E':=λy E' h=>by
    rw[<-e1];show Jh C2 Q hg tg h
   show GR (go _ _ λg o=>(_,J,?_));let A:=(S.trans f).trans o;let aaV:SM.bL (λx p=>eW g p x.2) ((L.take d).filter λx=> !j x.2) a:=bL.imp (λ_ _ z=>o _ _ (f _ _ z)) k;cases hgx:j x.2 with
   |true=>
    show jg J (A,a,o _ _ v,?_);rw[etk,gH,tj (by rw[hgx];decide)];simpa using aaV
   |false=>
    let hq3:=o _ _ v;show iu J (_,J,_,hq3,jy (by rw[ao];lk),A.put m,a++[q],by rw[aw,bz];rfl,?_);let g4:Grows 0 g (bD g D (.bZ (a.map V.ref++[.ref q]))):=Grows.put hq3 (λz=>z);rw[etk,gH,sZ (by rw[hgx];rfl)];show bL.snoc (bL.imp (λ_ _ z=>g4.dC z) aaV) (g4.dC (A _ _ hxq))
  ·rintro c ⟨S,a,u,k⟩
   rw[ao,<-(bL.length hps),cu] at k;show abc c R1 D a (G.then S) (t.same S) (T1.same S) ?_ (λ(abm,e)=> ?_) u k
   ·cases e:H D with
    |none=>rfl
    |some abn=>show absurd m (G.trk D (by rw[e];simp))
   ·let⟨abn,ho,_⟩:=t.has abm
    rw[<-e,m] at ho;cases ho
end
def bT.keep{c:aa Nat}(C:bT CA N H R b e f h i c n)(S:bQ F H d)(g:Grows CA H d)(a:∀r,¬F (R r)):bT CA N d R b e f h i c n:=by
 let⟨j,k⟩:=C.self;let⟨l,m,o⟩:=C.kH;let⟨p,q,s⟩:=C.kz;let⟨t,v,x⟩:=C.cnt;let⟨u,y,z,A⟩:=C.pl;show(C.inj,(j,S _ _ k (a _)),S _ _ C.eV (a _),(l,S _ _ m (a _),o.bA g),(p,S _ _ q (a _),s.bA g),(t,S _ _ v (a _),x.bA g),S _ _ C.rq (a _),u,y,S _ _ z (a _),λB D=> ?_);let⟨E,I,L⟩:=A B D;show(E,S _ _ I (a _),L.bA g)
def fD.keep(h:fD H P d e)(S:bQ F H b)(g:Grows CA H b)(f:¬F P):fD b P d e:=by
 let⟨i,j,k,a⟩:=h.at_;show(i,S _ _ j f,k,?_);rcases a with a|⟨c,a,l⟩
 ·show .inl a
 ·show .inr (c,a,g _ _ l trivial)
def fD.ne(h:fD H P d f)(c:H a=au):a≠P:=λe=>by
 let⟨g,b,_⟩:=h.at_;rw[<-e,c] at b;cases b
def bT.free{d:aa Nat}(C:bT CA N H R b g h i j d n)(f:H a=au):¬p9 R a:=λ(r,e)=>by
 let⟨o,c,_⟩:=C.has r;rw[<-e,f] at c;cases c
def vS.free{CA PT:az}(G:vS CA PT H d R b)(c:¬p9 R a)(h:H a≠au):¬p9 b a:=λ(r,e)=>by
 rcases G.Xc r with q|⟨_,q⟩
 ·show c (r,by rw[e,q])
 ·show h (by rw[e];show q)
def vS.oM{CA PT:az}(G:vS CA PT H b R e)(h:H a=ag o)(c:¬p9 R a)(d:a≠PT):b a=ag o:=G.keep a o h λz=>by
 rcases z with z|z
 ·show c z
 ·show d z
structure kR(H:Hp)(d:Addr)(L:List (Place×Id))(lv:Place×Id->Bool):Prop where
 ex:∃kvs,H d=some (.dT kvs)/\(∀i:Id,(∀x∈L,x.2≠i)->dZ kvs (iL i)=none)/\∀p x,L[p]?=some x->∃t,dZ kvs (iL x.2)=some (.ref t)/\H t=some (.dC [.int ((SM.cnt lv L p:Nat):Int),.int ((SM.cnt lv L (p+1):Nat):Int)])
section
universe a
variable{CA N:az}
inductive Gs(CA N PT:az)(h:aa V)(H:Hp)(Q:VK)(E:XK):Prop|mk:∀(a:az) (e:Nat) (R:pN->az) (b:gq) (i j:aa Act) (f:k9->ae Act) (k:Nat) (l:aa Nat) (n:Nat) (L:aa (Place×Id)) (m:Id->Bool),h=[.ref a,.int (e:Int)]->R .self=a->e<2->bT CA N H R b i j f k l n->fD H PT uc n9->zU b f e L->zV f e m->L.length<1000000->(L.map (·.2)).Nodup->(∀c g d,vS CA PT H c R g->bT CA N c g b i j f k l n->fD c PT uc n9->H d=au->¬p9 g d->kR c d L (λx=> !m x.2)->Q (.ref d) c)->Gs CA N PT h H Q E
def Ih:bM ["self","axis","found","many","number","ahead"] ["self","axis"] (bo (cQ (fI 19) 11)):=cB
def abu{PT:az}(F:ip K N "ranks" "Copy.ranks" (cQ (fI 19) 11) ["self","axis"])(aaG:dY K N iS)(DL:-eC N "line" ["self","axis"] 2 (xr CA N PT))(DH:-eC N "has" ["self","target"] 3 (Ce CA N))(DG:-ig "gone_of" ["axis","number"] 1 (oQ 1)):
  -eC N "ranks" ["self","axis"] 4 (Gs CA N PT):=by
 show F.def Ih (λvs aax abD abE h=> ?_) (λacV cdv acX acY ac0 aax vs abD abE U h=> ?_)
 ·let⟨abN,u,R,aaV,aa0,aa1,win,tm,had,n,L,b,rfl,_⟩:=h
  rfl
 ·let⟨abN,u,R,aaV,aa0,aa1,win,tm,had,n,L,b,rfl,rfl,hax,aaC,TB,hL,hg,ac1,ndL,ab6⟩:=h
  let B:=Ih.nd;let hr1:fo 1 _:=U.bA (by decide);let hr2:fo 2 _:=U.bA (by decide);show(_,ay (dW 2 B qx) (ay (dW 3 B aX)
   (ay (nz dE J (mv (bY (pv 0) aaG.cl DL hr2 (ak (pv 1) aB))) (fM (i:=4) B J (gA J))
    (ay (dW 5 B (pv 3))
    (ay (fO (je (io (bY (pv 0) aaG.cl DH U (ak (dU DG hr1 J (ak (pv 1) (ak (pv 4) aB))) aB)))) (aV (GK (i:=3) B J (gA J) aX Dk)) dH)
    (aV (tV (uX U) (pv 2) (pv 4) (jf (ak (pv 5) (ak (pv 3) aB))) J)))))
   (aV (bP (pv 2))))),?_)
  room
  let⟨dx,hs⟩:=aaC.self;intro d C;let v:bB aax (bD aax d (.dT [])):=bB.new C;let dP:=TB.ne C;let dR:=aaC.free C;show(_,J,R .self,dx,_,J,v _ _ hs,J,_,J,R .self,u,R,aaV,aa0,aa1,win,tm,had,n,L,J,J,hax,(aaC.same v),(TB.same v),hL,λH1 R1 abd ps G C1 T1 hln hlf hl hps=> ?_);let e1:=G.self;let dR1:=G.free dR (by rw[aw];simp);let ld:abd≠d:=λz=>by rw[z,aw] at hln;cases hln
  show(abd,J,(_,eE.of hl),pj (λa l g=>∃v4 v5 k,l=[ag (.ref (R .self)),ag (.int (u:Int)),ag (.ref d),ag (.int ((SM.cnt (λx=> !b x.2) L a:Nat):Int)),v4,v5]/\bQ (·=d) H1 g/\Grows CA H1 g/\
   g d=ag (.dT k)/\k.length<=a/\(∀j:Id,(∀x∈L.take a,x.2≠j)->dZ k (iL j)=au)/\∀p x,p<a->L[p]?=ag x->∃f,dZ k (iL x.2)=ag (.ref f)/\g f=ag (.dC [.int ((SM.cnt (λx=> !b x.2) L p:Nat):Int),.int ((SM.cnt (λx=> !b x.2) L (p+1):Nat):Int)])) ?_
   (λa l g _ (_,_,_,_,KB,_)=>eE.of (KB _ _ hl ld)) ?_ ?_)
  ·show(au,au,[],?_,bQ.refl,Grows.refl,(G.oM aw dR dP),aS _,(λ_ _=>rfl),λp x D=>absurd D (Td _))
   rw[RZ];rfl
  ·rintro a ac6 l g hi ⟨v4,v5,k,rfl,KB,m,E,hkl,H,Y⟩
   room
   rw[aF] at hi;let⟨q,hpq,rfl⟩:=bv.mp hi;let⟨x,I,hxq⟩:=bL.yz hps hpq;let hil:a<L.length:=(List.getElem?_eq_some_iff.mp I).1;let abi:=hxq.bA m;let etk:L.take (a+1)=L.take a++[x]:=by rw[cE,I];rfl
   let C':=C1.keep KB m (λr z=>dR1 (r,z.symm));let⟨dx',hs'⟩:=C'.self;rw[e1] at hs';show(_,J,?_);dsimp only[rE];show MR (λl s=>l=[ag (.ref (R .self)),ag (.int (u:Int)),ag (.ref d),ag (.int ((SM.cnt (λx=> !b x.2) L (a+1):Nat):Int)),ag (.ref q),ag (.int ((SM.cnt (λx=> !b x.2) L a:Nat):Int))]/\bB g s) ?_ λfin=> ?_
   ·rintro l s ⟨rfl,y⟩
    room
    show(_,J,_,J,lB,λf M=>(_,J,_,J,d,_,J,xG.t (bB.add y M _ _ E) (eW.key (bB.add y M _ _ abi)) (jy (by lk)),?_));let O:=y.add (o:=.dC [.int ((SM.cnt (λx=> !b x.2) L a:Nat):Int),.int ((SM.cnt (λx=> !b x.2) L (a+1):Nat):Int)]) M;let ht4:bD s f (.dC [.int ((SM.cnt (λx=> !b x.2) L a:Nat):Int),.int ((SM.cnt (λx=> !b x.2) L (a+1):Nat):Int)]) f=ag (.dC [.int ((SM.cnt (λx=> !b x.2) L a:Nat):Int),.int ((SM.cnt (λx=> !b x.2) L (a+1):Nat):Int)]):=aw;generalize bD _ _ _=H4 at O ht4⊢;let g5:Grows CA H4 (bD H4 d (.dT (fT k (iL x.2) (.ref f)))):=Grows.put (O _ _ E) (λz=>z);show(_,_,_,J,(KB.same O).put J,(m.trans O.grows).trans g5,aw,?_,λj hj=> ?_,λp z D A=> ?_)
    ·let:=qB [#[iL x.2,V.ref f]] k
     change(kE k [#[iL x.2,V.ref f]]).length<=a+1;simp![aN,dS] at this;lk
    ·rw[qp,aD (λe=>hj x (by rw[etk];simp) (jE e).symm)]
     show H j λz A=>hj z (by rw[etk];show cw _ A)
    ·rw[qp]
     by_cases hpi:p=a
     ·subst hpi
      rw[I] at A;cases A;rw[aH J];show(f,J,g5.dC ht4)
     ·let⟨t',w1,w2⟩:=Y p z (by lk) A
      rw[aD (λe=>hpi ?_)]
      ·show(t',w1,g5.dC (O _ _ w2))
      ·let a1:=Bw ndL I
       let a2:=Bw ndL A;rw[jE e,a1] at a2;cases a2;rfl
   ·show(_,J,R .self,dx',_,J,hs',J,_,J,_,J,(u:Int),_,J,λf M=> ?_)
    let Q:bB g (bD g f (.dC [.int (2*(u:Int)+1),.ref q])):=bB.new M;let tg:=GG (by rw[aw];rfl) (Q _ _ abi);let C2:=C'.same Q;generalize bD _ _ _=H2 at Q tg C2⊢;let go:∀Q' E',(∀s,bB H2 s->Q' (.bl (b x.2)) s)->Ce CA N [.ref (R .self),.ref f] H2 Q' E':=λQ' E' h=>by
     rw[<-e1];show Jh C2 hax hg tg h
    show GR (go _ _ λs y=>(_,J,?_));let ecn:=R0 (λx:Place×Id=> !b x.2) L I;cases hgx:b x.2 with
    |true=>
     show jg J (fin _ _ (?_,Q.trans y));rw[ecn,aD (by simp[hgx])];rfl
    |false=>
     show iu J (_,J,_,_,J,J,fin _ _ (?_,Q.trans y));rw[ecn,aH (by simp[hgx])];rfl
  ·rintro l g ⟨v4,v5,k,rfl,KB,m,E,hkl,H,Y⟩
   room
   rw[ao,<-(bL.length hps)] at H Y;rw[cu] at H;show(_,J,ab6 g R1 d ?_ (C1.keep KB m (λr z=>dR1 (r,z.symm))) (T1.keep KB m (λz=>dP z.symm)) C dR1 (k,E,H,λp x D=>Y p x (List.getElem?_eq_some_iff.mp D).1 D));show(λr=> ?_,λc aav e n=> ?_,(v.grows.trans G.grow).trans m,λc h=> ?_)
   ·rcases G.Xc r with q|⟨h1,q⟩
    ·show .inl q
    ·show .inr (h1,v.free q)
   ·let T:c≠d:=λz=>by rw[z,C] at e;cases e
    show KB c aav (G.keep c aav (v _ _ e) n) T
   ·by_cases T:c=d
    ·rw[T,E];simp
    ·let h1:=G.trk c (by rw[aZ T];show h)
     cases e:H1 c with
     |none=>show absurd e h1
     |some aav=>rw[KB c aav e T];simp
def fX(L:aa (Place×Id))(a:Place×Id->Bool)(i j:Id):ae (Nat×Nat):=match jZ L i,jZ L j with
 |some p,ag q=>zm (min (SM.cnt a L p) (SM.cnt a L q)) (max (SM.cnt a L (p+1)) (SM.cnt a L (q+1)))
 |_,_=>au
def kR.get(h:kR H d L c):∃a,H d=ag (.dT a)/\∀i:Id,(jZ L i=au/\dZ a (iL i)=au)\/∃p t,jZ L i=ag p/\dZ a (iL i)=ag (.ref t)/\H t=ag (.dC [.int ((SM.cnt c L p:Nat):Int),.int ((SM.cnt c L (p+1):Nat):Int)]):=by
 let⟨a,f,g,j⟩:=h.ex;show(a,f,λi=> ?_);cases e:jZ L i with
 |none=>show .inl (J,g i λx b=>OA e x b)
 |some p=>
  let⟨x,b,rfl⟩:=GZ e;let⟨t,k,l⟩:=j p x b;show .inr (p,t,J,k,l)
inductive Cb(f:aa V)(H:Hp)(Q:VK)(E:XK):Prop|mk:∀d a b L c i j,f=[.ref d,.ref a,.ref b]->kR H d L c->eW H a i->eW H b j->(fX L c i j=au->Q .jn H)->(∀r,fX L c i j=ag r->∀e t,bB H e->e t=ag (.dC [.int (r.1:Int),.int (r.2:Int)])->Q (.ref t) e)->Cb f H Q E
def Mn:bM ["ranks","one","other","first","end"] ["ranks","one","other"] (bo (fI 34)):=cB
def acH(F:fQ K mg "span" (fI 34) ["ranks","one","other"])(M:mg "min"=au)(O:mg "max"=au):-ig "span" ["ranks","one","other"] 1 Cb:=by
 show F.def Mn (λT H Q E h=> ?_) (λaax cdv aaE aaG aaV H T Q E g h=> ?_)
 ·let⟨d,a,b,L,e,i,j,rfl,_⟩:=h
  rfl
 ·let⟨d,a,b,L,e,i,j,rfl,U,u,v,f,k⟩:=h
  let z:=Mn.nd;show(_,ay (fO (yj (xA (zy (uX g) (pv 1) (pv 0)) J) (tT (xA (zy (uX g) (pv 2) (pv 0)) J))).pt (aV (bP kP)) dH)
   (ay (dW 3 z (d7 (OM J) J M Zd (ak (jm ef (kQ (uX g) (pv 0) (pv 1) (λ_ _=>rfl)) aX) (ak (jm ef (kQ (uX g) (pv 0) (pv 2) (λ_ _=>rfl)) aX) aB))))
   (ay (dW 4 z (d7 (FK J) J O A9 (ak (jm ef (kQ (uX g) (pv 0) (pv 1) (λ_ _=>rfl)) aX) (ak (jm ef (kQ (uX g) (pv 0) (pv 2) (λ_ _=>rfl)) aX) aB))))
   (aV (bP (mV (fL wV (pv 3) (pv 4) (fU _)) (jf (ak (pv 3) (ak (ij pK (pv 4) aX) aB))) kP))))),?_)
  room
  let⟨Y,hk,A⟩:=U.get;let l:∀{a i},eW H a i->oW H d (.ref a) (dZ Y (iL i)):=λh=>oW.t hk (eW.key h);show(_,J,_,J,d,_,J,l u,_,J,?_);rcases A i with⟨m,n⟩|⟨p,r,m,n,B⟩
  ·rw[n]
   show iu J (iu J (f ?_));unfold fX;rw[m]
  rw[n];show jg J ?_;show(_,J,_,J,d,_,J,l v,_,J,?_);rcases A j with⟨s,o⟩|⟨q,aav,s,o,C⟩
  ·rw[o]
   show iu J (f ?_);unfold fX;rw[m,s]
  rw[o];show jg J ?_;let D:oW H d (.ref a) (ag (.ref r)):=by rw[<-n];show l u
  let I:oW H d (.ref b) (ag (.ref aav)):=by rw[<-o];show l v
  show(_,J,_,J,d,_,J,D,_,_,_,_,J,J,gg.of B,wy,_,J,_,J,d,_,J,I,_,_,_,_,J,J,gg.of C,wy,_,_,J,?_);show(_,J,_,J,d,_,J,D,_,_,_,_,J,J,gg.of B,b9 J,_,J,_,J,d,_,J,I,_,_,_,_,J,J,gg.of C,b9 J,_,_,J,?_);let es:fX L e i j=zm (min (SM.cnt e L p) (SM.cnt e L q)) (max (SM.cnt e L (p+1)) (SM.cnt e L (q+1))):=by unfold fX;rw[m,s]
  rw[es] at f k;let m1:(if((SM.cnt e L q:Nat):Int)<((SM.cnt e L p:Nat):Int) then((SM.cnt e L q:Nat):Int) else((SM.cnt e L p:Nat):Int))=((min (SM.cnt e L p) (SM.cnt e L q):Nat):Int):=by split<;>lk
  let m2:(if((SM.cnt e L (q+1):Nat):Int)>((SM.cnt e L (p+1):Nat):Int) then((SM.cnt e L (q+1):Nat):Int) else((SM.cnt e L (p+1):Nat):Int))=((max (SM.cnt e L (p+1)) (SM.cnt e L (q+1)):Nat):Int):=by split<;>lk
  rw[m1,m2];generalize min (SM.cnt e L p) (SM.cnt e L q)=x at f k⊢;generalize max (SM.cnt e L (p+1)) (SM.cnt e L (q+1))=y at f k⊢;unfold zm at f k;show(_,J,_,J,_,_,J,J,_,J,?_);by_cases c:x<y
  ·rw[aH c] at k
   show iu (decide_eq_true (by lk)) (_,J,_,J,_,_,J,J,lB,λr ht=>k _ rfl _ r (bB.new ht) ?_);rw[aw];let:((y:Int)- 1)=((y - 1:Nat):Int):=by lk
   change ag (HO.dC [V.int (x:Int),V.int ((y:Int)- 1)])=_;rw[this]
  ·rw[aD c] at f
   show jg (decide_eq_false (by lk)) (f J)
def pR(g h:Id->Id->ae (Nat×Nat))(v:uO):aa Int:=match v with
 |[1,z]=>[1,z]
 |[2,b,d,e,f,i,j,l,m]=>(match g #[b.toNat,d.toNat] #[i.toNat,j.toNat],h #[e.toNat,f.toNat] #[l.toNat,m.toNat] with
  |some r,ag c=>[2,(r.1:Int),(c.1:Int),(r.2:Int),(c.2:Int)]
  |_,_=>[4])
 |[3,a,b,d,e,f,k]=>(match g #[b.toNat,d.toNat] #[b.toNat,d.toNat],h #[e.toNat,f.toNat] #[e.toNat,f.toNat] with
  |some r,ag c=>[3,a,(r.1:Int),(c.1:Int),k]
  |_,_=>[4])
 |_=>[0]
def Tz(b:gq)(l:aa Act)(v:uO):aa4 b l v=pR (uM b l 0) (uM b l 1) v:=rfl
def VJ(o p:ae (Nat×Nat)):aa Int:=match o,p with
 |some r,ag c=>[2,(r.1:Int),(c.1:Int),(r.2:Int),(c.2:Int)]
 |_,_=>[4]
def ZR(a k:Int)(o p:ae (Nat×Nat)):aa Int:=match o,p with
 |some r,ag c=>[3,a,(r.1:Int),(c.1:Int),k]
 |_,_=>[4]
def aaA(H:Hp)(o:ae (Nat×Nat))(v:V):Prop:=(o=au/\v=.jn)\/∃r t,o=ag r/\v=.ref t/\H t=ag (.dC [.int ((r.1:Nat):Int),.int ((r.2:Nat):Int)])
def kR.same(h:kR H d L a)(S:bB H b):kR b d L a:=by
 let⟨c,e,f,g⟩:=h.ex;show(c,S _ _ e,f,λp x i=> ?_);let⟨t,j,k⟩:=g p x i;show(t,j,S _ _ k)
def Bk(g:kR H d L f)(h:eW H a i)(l:eW H b j)(k:∀c v,bB H c->aaA c (fX L f i j) v->Q v c):Cb [.ref d,.ref a,.ref b] H Q E:=
 (d,a,b,L,f,i,j,J,g,h,l,λe=>k H _ (λ_ _ z=>z) (.inl (e,J)),λr e c t S m=>k c _ S (.inr (r,t,e,J,m)))
inductive Kz(b:aa V)(H:Hp)(Q:VK)(E:XK):Prop|mk:∀t e f g h i j k m n o r c s d,b=[.ref t,.ref e,.ref f]->H t=ag (.dC [.int 2,.ref g,.ref h,.ref i,.ref j])->eW H g r->eW H h c->eW H i s->eW H j d->kR H e k n->kR H f m o->(∀a l,bB H a->H l=au->a l=ag (.bZ ((VJ (fX k n r s) (fX m o c d)).map V.int))->Q (.ref l) a)->Kz b H Q E
def Mr:bM ["value","row_ranks","column_ranks","rows","columns"] ["value","row_ranks","column_ranks"] (bo (fI 32)):=cB
def GY:(5:Nat)<=bf:=by decide
def acP(F:fQ K mg "shown_area" (fI 32) ["value","row_ranks","column_ranks"])(e:qI mg "LOST" 4)(f:qI mg "AREA" 2)(k:-ig "span" ["ranks","one","other"] 1 Cb):-ig "shown_area" ["value","row_ranks","column_ranks"] 2 Kz:=by
 let⟨T,e⟩:=e;let⟨m,f⟩:=f;show F.def Mr (λU H Q E h=> ?_) (λaaC cdv aaG aaV aa0 H U Q E n h=> ?_)
 ·let⟨t,Y,dc,a1,a2,a3,a4,p,q,s,u,r,c,x,d,rfl,_⟩:=h
  rfl
 ·let⟨t,Y,dc,a1,a2,a3,a4,p,q,s,u,r,c,x,d,rfl,g,h1,h2,h3,h4,hR,hC,aav⟩:=h
  let y:=Mr.nd;show(_,ay (dW 3 y (dU k n J (ak (pv 1) (ak (jm ef (pv 0) aX) (ak (jm ef (pv 0) aX) aB)))))
   (ay (dW 4 y (dU k n J (ak (pv 2) (ak (jm ef (pv 0) aX) (ak (jm ef (pv 0) aX) aB)))))
   (ay (fO (yj (fL rO (pv 3) kP (fU _)) (tT (fL rO (pv 4) kP (fU _)))).pt (aV (bP (d9 (ak (fB (v:=.int 4) J e (T,J)) aB)))) dH)
   (aV (bP (d9 (ak (fB (v:=.int 2) J f (m,J)) (ak (jm ef (pv 3) aX) (ak (jm ef (pv 4) aX) (ak (jm ef (pv 3) aX) (ak (jm ef (pv 4) aX) aB)))))))))),?_)
  room
  show(_,J,_,J,_,_,_,_,J,J,gg.of g,b9 J,_,J,_,_,_,_,J,J,gg.of g,b9 J,?_);dsimp only[wE];show Bk hR h1 h3 λH1 v1 a z1=> ?_;let A:=a _ _ g;show(_,J,_,J,_,_,_,_,J,J,gg.of A,b9 J,_,J,_,_,_,_,J,J,gg.of A,b9 J,?_);dsimp only[wE];show Bk (hC.same a) (a _ _ h2) (a _ _ h4) λB v2 C z2=> ?_;let D:=a.trans C;let i:∀o,o=VJ (fX p s r x) (fX q u c d)->∀l,B l=au->Q (.ref l) (bD B l (.bZ (o.map V.int))):=λo aax l hl=>aav _ l (D.add hl) (D.free hl) (by rw[aw,aax]);rcases z1 with⟨b,rfl⟩|⟨I,t1,b,rfl,q1⟩
  ·show(_,J,J,_,J,iu J (iu J (eR,λl hl=>i [4] (by rw[b];rfl) l hl)))
  ·show(_,J,J,_,J,jg (decide_eq_false (λz=>nomatch z)) ?_)
   rcases z2 with⟨j,rfl⟩|⟨L,m,j,rfl,M⟩
   ·show(_,J,J,_,J,iu J (eR,λl hl=>i [4] (by rw[b,j];rfl) l hl))
   ·show(_,J,J,_,J,jg (decide_eq_false (λz=>nomatch z)) ?_)
    let O:=C _ _ q1;show(_,J,_,_,_,_,J,J,gg.of O,wy,_,J,_,_,_,_,J,J,gg.of M,wy,_,J,_,_,_,_,J,J,gg.of O,b9 J,_,J,_,_,_,_,J,J,gg.of M,b9 J,GY,λl hl=>i [2,(I.1:Int),(L.1:Int),(I.2:Int),(L.2:Int)] (by rw[b,j];rfl) l hl)
inductive Qm(b:aa V)(H:Hp)(Q:VK)(E:XK):Prop|mk:∀t d e f g x y h i j k r c,b=[.ref t,.ref d,.ref e]->H t=ag (.dC [.int 3,.int x,.ref f,.ref g,.int y])->eW H f r->eW H g c->kR H d h j->kR H e i k->(∀a l,bB H a->H l=au->a l=ag (.bZ ((ZR x y (fX h j r r) (fX i k c c)).map V.int))->Q (.ref l) a)->Qm b H Q E
def Qy:bM ["value","row_ranks","column_ranks","rows","columns"] ["value","row_ranks","column_ranks"] (bo (fI 33)):=cB
def adI(F:fQ K mg "shown_pointer" (fI 33) ["value","row_ranks","column_ranks"])(e:qI mg "LOST" 4)(M:qI mg "POINTER" 3)(j:-ig "span" ["ranks","one","other"] 1 Cb):-ig "shown_pointer" ["value","row_ranks","column_ranks"] 2 Qm:=by
 let⟨O,e⟩:=e;let⟨k,T⟩:=M;show F.def Qy (λU H Q E h=> ?_) (λaaC cdv aaG aaV aa0 H U Q E m h=> ?_)
 ·let⟨t,Y,dc,a1,a2,x,y,n,p,q,s,r,c,rfl,_⟩:=h
  rfl
 ·let⟨t,Y,dc,a1,a2,x,y,n,p,q,s,r,c,rfl,b,u,A,hR,hC,aav⟩:=h
  let B:=Qy.nd;show(_,ay (dW 3 B (dU j m J (ak (pv 1) (ak (jm ef (pv 0) aX) (ak (jm ef (pv 0) aX) aB)))))
   (ay (dW 4 B (dU j m J (ak (pv 2) (ak (jm ef (pv 0) aX) (ak (jm ef (pv 0) aX) aB)))))
   (ay (fO (yj (fL rO (pv 3) kP (fU _)) (tT (fL rO (pv 4) kP (fU _)))).pt (aV (bP (d9 (ak (fB (v:=.int 4) J e (O,J)) aB)))) dH)
   (aV (bP (d9 (ak (fB (v:=.int 3) J T (k,J)) (ak (jm ef (pv 0) aX) (ak (jm ef (pv 3) aX) (ak (jm ef (pv 4) aX) (ak (jm ef (pv 0) aX) aB)))))))))),?_)
  room
  show(_,J,_,J,_,_,_,_,J,J,gg.of b,b9 J,_,J,_,_,_,_,J,J,gg.of b,b9 J,?_);dsimp only[wE];show Bk hR u u λH1 v1 a z1=> ?_;let C:=a _ _ b;show(_,J,_,J,_,_,_,_,J,J,gg.of C,b9 J,_,J,_,_,_,_,J,J,gg.of C,b9 J,?_);dsimp only[wE];show Bk (hC.same a) (a _ _ A) (a _ _ A) λD v2 I z2=> ?_;let f:=a.trans I;let L:=f _ _ b;let g:∀o,o=ZR x y (fX n q r r) (fX p s c c)->∀l,D l=au->Q (.ref l) (bD D l (.bZ (o.map V.int))):=λo aax l hl=>aav _ l (f.add hl) (f.free hl) (by rw[aw,aax]);rcases z1 with⟨d,rfl⟩|⟨r1,t1,d,rfl,q1⟩
  ·show(_,J,J,_,J,iu J (iu J (eR,λl hl=>g [4] (by rw[d];rfl) l hl)))
  ·show(_,J,J,_,J,jg (decide_eq_false (λz=>nomatch z)) ?_)
   rcases z2 with⟨i,rfl⟩|⟨r2,k,i,rfl,q2⟩
   ·show(_,J,J,_,J,iu J (eR,λl hl=>g [4] (by rw[d,i];rfl) l hl))
   ·show(_,J,J,_,J,jg (decide_eq_false (λz=>nomatch z)) ?_)
    show(_,J,_,_,_,_,J,J,gg.of L,b9 J,_,J,_,_,_,_,J,J,gg.of (I _ _ q1),wy,_,J,_,_,_,_,J,J,gg.of q2,wy,_,J,_,_,_,_,J,J,gg.of L,b9 J,GY,λl hl=>g [3,x,(r1.1:Int),(r2.1:Int),y] (by rw[d,i];rfl) l hl)
inductive Gq(b:aa V)(H:Hp)(Q:VK)(E:XK):Prop|mk:∀t c d v e f g h,b=[.ref t,.ref c,.ref d]->jh H v t->kR H c e g->kR H d f h->(∀a l,bB H a->H l=au->a l=ag (.bZ ((pR (fX e g) (fX f h) v).map V.int))->Q (.ref l) a)->Gq b H Q E
def Qu:bM ["value","row_ranks","column_ranks"] ["value","row_ranks","column_ranks"] (bo (fI 31)):=cB
def abr(F:fQ K mg "shown" (fI 31) ["value","row_ranks","column_ranks"])(b:qI mg "AREA" 2)(e:qI mg "POINTER" 3)(B:mg "list"=au)(C:-ig "shown_area" ["value","row_ranks","column_ranks"] 2 Kz)(D:-ig "shown_pointer" ["value","row_ranks","column_ranks"] 2 Qm):-ig "shown" ["value","row_ranks","column_ranks"] 3 Gq:=by
 let⟨I,b⟩:=b;let⟨L,e⟩:=e;show F.def Qu (λM H Q E h=> ?_) (λf Y A aav s H M Q E u h=> ?_)
 ·let⟨t,g,i,v,j,m,n,o,rfl,_⟩:=h
  rfl
 ·let⟨t,g,i,v,j,m,n,o,rfl,O,x,z,k⟩:=h
  show(_,ay (fO (fL yk (jm ef (pv 0) aX) (fB (v:=.int 2) J b (I,J)) (fU _)) (aV (bP (dU C u J (ak (pv 0) (ak (pv 1) (ak (pv 2) aB)))))) dH)
   (ay (fO (fL yk (jm ef (pv 0) aX) (fB (v:=.int 3) J e (L,J)) (fU _)) (aV (bP (dU D u J (ak (pv 0) (ak (pv 1) (ak (pv 2) aB)))))) dH)
   (aV (bP (jQ ul J B kj (ak (pv 0) aB))))),?_)
  room
  cases O with
  |none h=>
   show(_,J,_,_,_,_,J,J,gg.of h,wy,J,_,J,jg J ?_);show(_,J,_,_,_,_,J,J,gg.of h,wy,J,_,J,jg J ?_);show(_,J,t,_,J,.inr (gg.of h),λl hl=>k _ l (bB.new hl) hl aw)
  |num aax h=>
   show(_,J,_,_,_,_,J,J,gg.of h,wy,J,_,J,jg J ?_);show(_,J,_,_,_,_,J,J,gg.of h,wy,J,_,J,jg J ?_);show(_,J,t,_,J,.inr (gg.of h),λl hl=>k _ l (bB.new hl) hl aw)
  |Jy r c s d h p q T U=>
   show(_,J,_,_,_,_,J,J,gg.of h,wy,J,_,J,iu J ?_);show(_,J,_,J,_,J,t,g,i,_,_,_,_,j,m,n,o,r,c,s,d,J,h,p,q,T,U,x,z,k)
  |cell a y r c h p q=>
   show(_,J,_,_,_,_,J,J,gg.of h,wy,J,_,J,jg J ?_);show(_,J,_,_,_,_,J,J,gg.of h,wy,J,_,J,iu J ?_);show(_,J,_,J,_,J,t,g,i,_,_,a,y,j,m,n,o,r,c,J,h,p,q,x,z,k)
end
def Ja:aa (Int×V):=[#[0,.int 1],#[1,.int 2],#[2,.int 5],#[3,.int 5]]
def wl(f:Int):(atT Ja f).getD .jn=if f=0 then .int 1 else if f=1 then .int 2 else if f=2 then .int 5 else if f=3 then .int 5 else .jn:=by
 unfold Ja;by_cases a:f=0
 ·rw[yD a.symm,aH a];rfl
 rw[yE (λz=>a z.symm),aD a];by_cases b:f=1
 ·rw[yD b.symm,aH b];rfl
 rw[yE (λz=>b z.symm),aD b];by_cases c:f=2
 ·rw[yD c.symm,aH c];rfl
 rw[yE (λz=>c z.symm),aD c];by_cases d:f=3
 ·rw[yD d.symm,aH d];rfl
 rw[yE (λz=>d z.symm),aD d];rfl
def Lx(h:(atT Ja f).getD .jn=.int (((f::r).length:Nat):Int)):f::r=[0]\/(∃z,f::r=[1,z])\/(∃a b d e,f::r=[2,a,b,d,e])\/∃x a b k,f::r=[3,x,a,b,k]:=by
 rw[wl] at h;let g:∀{n:Nat},V.int 5=V.int (n:Int)->n=5:=λe=>by injection e with e;lk
 split at h
 ·next e=>
  subst e;match r,h with
  |[],_=>show .inl rfl
  |_::_,h=>injection h with h;simp at h;lk
 split at h
 ·next e=>
  subst e;match r,h with
  |[z],_=>show .inr (.inl (z,J))
  |[],h=>injection h with h;simp at h
  |_::_::_,h=>injection h with h;simp at h;lk
 split at h
 ·next e=>
  subst e;let:=g h;match r,this with
  |[a,b,c,d],_=>show .inr (.inr (.inl (a,b,c,d,J)))
 split at h
 ·next e=>
  subst e;let:=g h;match r,this with
  |[a,b,c,d],_=>show .inr (.inr (.inr (a,b,c,d,J)))
 ·cases h
def Ov(h:¬(atT Ja f).getD .jn=.int (((f::r).length:Nat):Int)):ou R C (f::r)=au:=by
 unfold ou;split
 ·next e=>cases e;show absurd (wl 0) h
 ·next e=>cases e;show absurd (wl 1) h
 ·next e=>cases e;show absurd (wl 2) h
 ·next e=>cases e;show absurd (wl 3) h
 ·rfl
def oj(f:Int):aa Nat:=if f=2 then [1,3] else if f=3 then [2] else []
def Dq(b c:aa az)(v:aa Int)(d:aa V)(a:Nat):aa V:=(d.set a (.ref (b.getD (v.getD a 0).toNat 0))).set (a+1) (.ref (c.getD (v.getD (a+1) 0).toNat 0))
def FA(a b:aa az)(v:aa Int)(c:aa Nat):aa V:=c.foldl (Dq a b v) (v.map V.int)
def UX(n m:Nat)(v:aa Int)(a:Nat):Prop:=(0<=v.getD a 0/\v.getD a 0<(n:Int))/\0<=v.getD (a+1) 0/\v.getD (a+1) 0<(m:Int)
def UB(a:0<=z)(b:z<(R.length:Int)):∃x,R[z.toNat]?=ag x/\fg R z=ag x.2:=by
 let hl:z.toNat<R.length:=by lk
 show(R[z.toNat],aL hl,?_);unfold fg;rw[aD (by lk),aL hl];rfl
def yw(h:¬(0<=z/\z<(R.length:Int))):fg R z=au:=by
 unfold fg;by_cases c:z<0
 ·rw[aH c]
 ·rw[aD c,b8 (by lk)];rfl
def w6(h:SM.bL (λx p=>eW H p x.2) R a)(c:0<=z)(d:z<(R.length:Int)):∃i,fg R z=ag i/\eW H (a.getD z.toNat 0) i/\Hs (a.map V.ref) z=ag (.ref (a.getD z.toNat 0)):=by
 let⟨x,f,g⟩:=UB c d;let⟨p,b,j⟩:=bL.get h f;let e:a.getD z.toNat 0=p:=by rw[bS,b];rfl
 show(x.2,g,by rw[e];show j,?_);rw[e];let:z=((z.toNat:Nat):Int):=by lk
 rw[this];show b9 ?_;rw[aF,b];rfl
def m4(F:Id->Id->Id->Id->e)(a b c d:ae Id)(h:a=au\/b=au\/c=au\/d=au):(match a,b,c,d with
  |some i,ag j,ag k,ag m=>ag (F i j k m)
  |_,_,_,_=>au)=au:=by
 cases a<;>cases b<;>cases c<;>cases d<;>simp_all
def m2(F:Id->Id->c)(a b:ae Id)(h:a=au\/b=au):(match a,b with
  |some i,ag j=>ag (F i j)
  |_,_=>au)=au:=by
 cases a<;>cases b<;>simp_all
def Jr(e:v=f::r)(l:(∃a b d e,v=[2,a,b,d,e])\/∃x a b k,v=[3,x,a,b,k])(g:a∈oj f)(h:¬UX R.length C.length v a):ou R C v=au:=by
 subst e;let n:∀{z y:Int},¬((0<=z/\z<(R.length:Int))/\0<=y/\y<(C.length:Int))->fg R z=au\/fg C y=au:=λ{z y} h=>by
  by_cases c:0<=z/\z<(R.length:Int)
  ·show .inr (yw λd=>h (c,d))
  ·show .inl (yw c)
 rcases l with⟨x,b,d,e,l⟩|⟨x,b,d,k,l⟩
 ·cases l
  rw[show oj 2=[1,3] from rfl] at g;simp![aT,mI,or_false] at g;show m4 (λi j k m=>([2,(i.1:Int),(i.2:Int),(j.1:Int),(j.2:Int),(k.1:Int),(k.2:Int),(m.1:Int),(m.2:Int)]:aa Int)) (fg R x) (fg C b) (fg R d) (fg C e) ?_;rcases g with rfl|rfl
  ·rcases n h with z|z
   ·show .inl z
   ·show .inr (.inl z)
  ·rcases n h with z|z
   ·show .inr (.inr (.inl z))
   ·show .inr (.inr (.inr z))
 ·cases l
  rw[show oj 3=[2] from rfl] at g;simp![aT,mI,or_false] at g;subst g;show m2 (λi j=>([3,x,(i.1:Int),(i.2:Int),(j.1:Int),(j.2:Int),k]:aa Int)) (fg R b) (fg C d) (n h)
def uk(n:SM.bL (λx p=>eW H p x.2) R O)(o:SM.bL (λx p=>eW H p x.2) C Q)
  (c:f::r=[0]\/(∃q,f::r=[1,q])\/(∃a b d e,f::r=[2,a,b,d,e])\/∃x a b k,f::r=[3,x,a,b,k])(s:∀a∈oj f,UX R.length C.length (f::r) a)(l:H t=ag (.dC (FA O Q (f::r) (oj f)))):∃x,ou R C (f::r)=ag x/\jh H x t:=by
 rcases c with c|⟨q,c⟩|⟨x,b,d,e,c⟩|⟨x,b,d,k,c⟩
 ·cases c;show(_,J,.none l)
 ·cases c;show(_,J,.num q l)
 ·cases c
  let⟨⟨u,v⟩,y,A⟩:=s 1 (by rw[show oj 2=[1,3] from rfl];simp);let⟨⟨T,U⟩,Y,b4⟩:=s 3 (by rw[show oj 2=[1,3] from rfl];simp);let⟨g,B,D,_⟩:=w6 n (z:=x) u v;let⟨h,E,I,_⟩:=w6 o (z:=b) y A;let⟨L,e3,f3,_⟩:=w6 n (z:=d) T U;let⟨M,e4,f4,_⟩:=w6 o (z:=e) Y b4;show([2,(g.1:Int),(g.2:Int),(h.1:Int),(h.2:Int),(L.1:Int),(L.2:Int),(M.1:Int),(M.2:Int)],?_,.Jy g h L M l D I f3 f4);change(match fg R x,fg C b,fg R d,fg C e with
   |some i,ag j,ag k,ag m=>ag ([2,(i.1:Int),(i.2:Int),(j.1:Int),(j.2:Int),(k.1:Int),(k.2:Int),(m.1:Int),(m.2:Int)]:aa Int)
   |_,_,_,_=>au)=_
  rw[B,E,e3,e4]
 ·cases c
  let⟨⟨u,v⟩,y,A⟩:=s 2 (by rw[show oj 3=[2] from rfl];simp);let⟨g,B,D,_⟩:=w6 n (z:=b) u v;let⟨h,E,I,_⟩:=w6 o (z:=d) y A;show([3,x,(g.1:Int),(g.2:Int),(h.1:Int),(h.2:Int),k],?_,.cell x k g h l D I);change(match fg R b,fg C d with
   |some i,ag j=>ag ([3,x,(i.1:Int),(i.2:Int),(j.1:Int),(j.2:Int),k]:aa Int)
   |_,_=>au)=_
  rw[B,E]
def Ot(d e:aa az)(v:aa Int)(b:aa Nat):(FA d e v b).length=v.length:=by
 unfold FA;let:∀(b:aa Nat) c,(b.foldl (Dq d e v) c).length=c.length:=by
  intro b;induction b with
  |nil=>intro c;rfl
  |cons a b f=>intro c;rw[gB,f];unfold Dq;simp
 rw[this,ao]
def Vn(a b c d:az):aa (Int×V):=[#[0,.ref a],#[1,.ref b],#[2,.ref c],#[3,.ref d]]
inductive IRT(K:aq)(mg:Sv):Prop|mk:∀a b c d e,mg "ROWS_AT"=ag (.ref a)->TopD K a (Vn b c d e)->(∀H,gg K H b []/\gg K H c []/\gg K H d [.int 1,.int 3]/\gg K H e [.int 2])->IRT K mg
structure UT(K:PySem.W.Frag)(mg:Sv):Prop where
 ex:IRT K mg
structure XV(K:PySem.W.Frag)(mg:Sv):Prop where
 ex:∃a,mg "LENGTHS_content"=some (.ref a)/\TopD K a Ja
def TW{K:aq}(h:∀H,gg K H g []/\gg K H i []/\gg K H j [.int 1,.int 3]/\gg K H l [.int 2])(c:f::r=[0]\/(∃z,f::r=[1,z])\/(∃a b d e,f::r=[2,a,b,d,e])\/∃x a b k,f::r=[3,x,a,b,k]):
  ∃e,atT (Vn g i j l) f=ag (.ref e)/\∀H,gg K H e ((oj f).map λ(n:Nat)=>V.int (n:Int)):=by
 rcases c with c|⟨z,c⟩|⟨x,b,d,e,c⟩|⟨x,b,d,k,c⟩<;>cases c
 ·show(g,J,λH=>(h H).1)
 ·show(i,J,λH=>(h H).2.1)
 ·show(j,J,λH=>(h H).2.2.1)
 ·show(l,J,λH=>(h H).2.2.2)
def XN(c:f::r=[0]\/(∃z,f::r=[1,z])\/(∃a b d e,f::r=[2,a,b,d,e])\/∃x a b k,f::r=[3,x,a,b,k])(g:a∈oj f):a+1<(f::r).length/\((∃a b d e,f::r=[2,a,b,d,e])\/∃x a b k,f::r=[3,x,a,b,k]):=by
 rcases c with c|⟨z,c⟩|⟨x,b,d,e,c⟩|⟨x,b,d,k,c⟩
 ·cases c;cases g
 ·cases c;cases g
 ·show(?_,.inl (x,b,d,e,c))
  cases c;rw[show oj 2=[1,3] from rfl] at g;simp![aT,mI,or_false] at g;rcases g with rfl|rfl<;>simp
 ·show(?_,.inr (x,b,d,k,c))
  cases c;rw[show oj 3=[2] from rfl] at g;simp![aT,mI,or_false] at g;subst g;simp
def sE(h:SM.bL (λx p=>eW H p x.2) R a)(S:bB H b):SM.bL (λ(x:Place×Id) p=>eW b p x.2) R a:=bL.imp (λx p z=>S p _ z) h
def MP{v:aa Int}(h:a<v.length):Hs (v.map V.int) (a:Int)=ag (.int (v.getD a 0)):=by
 show b9 ?_;rw[aF,aL h,bS,aL h];rfl
def MO(h:a<n):Oj n (a:Int)=ag a:=by
 unfold Oj;rw[aH (by lk),aH (by lk),bE]
section
universe a
variable{CA N:az}
inductive Ky(e:aa V)(H:Hp)(Q:VK)(E:XK):Prop|mk:∀c a b v R C f g,e=[.ref c,.ref a,.ref b]->H c=ag (.bZ (v.map V.int))->H a=ag (.bZ (f.map V.ref))->H b=ag (.bZ (g.map V.ref))->SM.bL (λx p=>eW H p x.2) R f->SM.bL (λx p=>eW H p x.2) C g->(ou R C v=au->∀d,bB H d->Q .jn d)->(∀x,ou R C v=ag x->∀d t,bB H d->jh d x t->Q (.ref t) d)->Ky e H Q E
def Mq:bM ["content","rows","columns","value","at","row","column"] ["content","rows","columns"] (bo (fI 30)):=cB
def acO(F:fQ K mg "held" (fI 30) ["content","rows","columns"])(LT:XV K mg)(RT:UT K mg)(ml:mg "list"=au)(mt:mg "tuple"=au)(D:mg "len"=au):-ig "held" ["content","rows","columns"] 1 Ky:=by
 let⟨LA,cL,tL⟩:=LT.ex;let⟨RA,e0,e1,e2,e3,cR,tR,hE⟩:=RT.ex;show F.def Mq (λvs H aav abd h=> ?_) (λabl cdv abn abo abA H vs aav abd hr h=> ?_)
 ·let⟨c,E,b,v,R,C,p,q,rfl,_⟩:=h
  rfl
 ·let⟨c,E,b,v,R,C,p,q,rfl,hc,ha,I,L,M,O,k2⟩:=h
  let s:=Mq.nd;show(_,ay (fO (PW.pt (yj (je (qv (pv 0) (λ_=>rfl))) (tT (fL ZT (Ub (fB (v:=.ref LA) J cL J) (jm cG (pv 0) aX) (J,J,J,J)) (d7 cJ J D cg (ak (pv 0) aB)) (fU _))))) (aV (bP kP)) dH)
   (ay (dW 3 s (jQ ul J ml kj (ak (pv 0) aB)))
   (ay (nz dE J (WR (Ld (fB (v:=.ref RA) J cR J) (jm cG (pv 0) aX) (λ_ _=>rfl))) (fM (i:=4) s J (gA J))
    (ay (dW 5 s (jm cG (pv 0) (pv 4)))
    (ay (dW 6 s (jm cG (pv 0) (ij mK (pv 4) aX)))
    (ay (fO (je (PW.pt (oS (jU jz wV aX (pv 5) (d7 cJ J D cg (ak (pv 1) aB))) (n8 (jU jz wV aX (pv 6) (d7 cJ J D cg (ak (pv 2) aB))))))) (aV (bP kP)) dH)
    (ay (KZ (jm cG (pv 1) (pv 5)) (Lb (pv 3) (pv 4) x9))
    (aV (KZ (jm cG (pv 2) (pv 6)) (Lb (pv 3) (ij mK (pv 4) aX) x9))))))))
   (aV (bP (jQ rP J mt ql (ak (pv 3) aB)))))),?_)
  room
  let hlR:=bL.length L;let hlC:=bL.length M;cases v with
  |nil=>
   show(_,J,_,.inl (_,eE.of hc,J),iu J (iu J (O J H (λ_ _ z=>z))))
  |cons g r=>
  show(_,J,_,.inl (_,eE.of hc,J),jg J ?_);show(LA,Ja,J,tL,_,J,_,_,_,_,J,J,eE.of hc,wy,g,J,_,J,c,_,J,.inl (eE.of hc),?_);let hsc:WB ((atT Ja g).getD .jn) (.int (((g::r).length:Nat):Int))=aC:=by
   rw[wl]
   repeat' split
   all_goals rfl
  rw[show((g::r).map V.int).length=(g::r).length from ao ..];by_cases t:(atT Ja g).getD .jn=.int (((g::r).length:Nat):Int);case neg=>show(hsc,_,J,iu (by simp![t,decide_false,Tj]) (O (Ov t) H (λ_ _ z=>z)))
  show(hsc,_,J,jg (by simp![t,decide_true,nu]) ?_);let Q:=Lx t;let⟨abe,he,hsq⟩:=TW hE Q;show(_,J,c,_,J,.inl (eE.of hc),λl hl=> ?_);let S0:bB H (bD H l (.bZ ((g::r).map V.int))):=bB.new hl;show(_,J,_,_,_,_,J,J,eE.of (S0 _ _ hc),wy,RA,_,g,_,J,J,tR,he,abe,J,(_,hsq _),UF (λd T e=>∃U Y v6:ae V,T=[ag (.ref c),ag (.ref E),ag (.ref b),ag (.ref l),U,Y,v6]/\bB H e/\
   e l=ag (.bZ (FA p q (g::r) ((oj g).take d)))/\∀x∈(oj g).take d,UX R.length C.length (g::r) x) ?_ (λ_ _ _ _ _=>hsq _) ?_ ?_)
  ·show(au,au,au,J,S0,aw,(λx f=>nomatch f))
  ·rintro d abB T e hi ⟨U,Y,v6,rfl,S,u,y⟩
   rw[aF] at hi;let⟨x,f,rfl⟩:=bv.mp hi;let hxm:x∈oj g:=bg f;let⟨hxl,fm⟩:=XN Q hxm;let etk:(oj g).take (d+1)=(oj g).take d++[x]:=by rw[cE,f];rfl
   let hc':=S _ _ hc;let ha':=S _ _ ha;let hb':=S _ _ I;let A:¬UX R.length C.length (g::r) x->∀B,bB H B->aav .jn B:=λh B S1=>O (Jr J fm hxm h) B S1;let i1:=MP (v:=g::r) (a:=x) (by lk);dsimp only[rE];show(_,J,_,J,_,_,_,_,J,J,eE.of hc',i1,_,J,_,J,_,_,J,J,_,_,_,_,J,J,eE.of hc',(MP (v:=g::r) (a:=x+1) hxl),?_);show(_,J,_,_,J,J,_,J,?_);by_cases k:0<=(g::r).getD x 0;case neg=>show jg (decide_eq_false k) (_,J,jg J (iu J (A (λz=>k z.1.1) _ S)))
   show iu (decide_eq_true k) (_,J,E,_,J,.inl (eE.of ha'),_,_,J,J,_,J,?_);by_cases m:(g::r).getD x 0<(R.length:Int);case neg=>show jg (decide_eq_false (by rw[ao,<-hlR];show m)) (iu J (A (λz=>m z.1.2) _ S))
   show iu (decide_eq_true (by rw[ao,<-hlR];show m)) (_,J,_,_,J,J,_,J,?_);by_cases n:0<=(g::r).getD (x+1) 0;case neg=>show jg (decide_eq_false n) (_,J,iu J (A (λz=>n z.2.1) _ S))
   show iu (decide_eq_true n) (_,J,b,_,J,.inl (eE.of hb'),_,_,J,J,_,J,?_);by_cases o:(g::r).getD (x+1) 0<(C.length:Int);case neg=>show iu (by rw[ao,<-hlC,decide_eq_false o];rfl) (A (λz=>o z.2.2) _ S)
   show jg (by rw[ao,<-hlC,decide_eq_true o];rfl) ?_;let⟨_,_,_,j1⟩:=w6 L k m;let⟨_,_,_,j2⟩:=w6 M n o;let hln:=Ot p q (g::r) ((oj g).take d);show(_,J,_,J,_,_,_,_,J,J,eE.of ha',j1,_,J,_,J,l,_,_,x,J,J,u,MO (by rw[hln];lk),?_);let bl:b≠l:=λz=>by rw[z,hl] at I;cases I
   show(_,J,_,J,_,_,_,_,J,J,eE.of (by rw[aZ bl];show hb'),j2,_,J,_,J,_,_,J,J,l,_,_,x+1,J,J,aw,MO (by rw[pY,hln];lk),?_);show(_,_,_,J,(S.put hl).put hl,?_,λz j=> ?_)
   ·rw[aw,etk]
    unfold FA;rw[lO];rfl
   ·rw[etk] at j
    rcases bO.mp j with j|j
    ·show y z j
    ·rw[bG.mp j]
     show((k,m),n,o)
  ·rintro T e ⟨U,Y,v6,rfl,S,u,y⟩
   rw[ao,cu] at u y;show(_,J,l,_,J,.inl (eE.of u,λabc ht=> ?_));let S1:bB e (bD e abc (.dC (FA p q (g::r) (oj g)))):=bB.new ht;let SS:=S.trans S1;let⟨x,f,abi⟩:=uk (sE L SS) (sE M SS) Q y aw;show k2 x f _ abc SS abi
end
def ya(Z:L2.St->Hp->Prop)(b:∀a H,Z a H->u D a H)(c:(∀a H,Z a H->u D a H)->kC t u D a H):kC t u D a H:=c b
def Sa(a:k9->ae Act):Prop:=∀k x,a k=ag x->(eM x k).isSome=aC/\∀w∈x.writes,yI w.1
def M9(b:k9->ae Act)(H:Hp)(done:aa (aa NK×V))(r:Id)(a:aa (aa NK×V)):Prop:=∀c,(dZ done (kk (bK r c))=au/\dZ a (iL c)=au)\/∃u x v t,dZ done (kk (bK r c))=ag u/\b (bK r c)=ag x/\eM x (bK r c)=ag v/\dZ a (iL c)=ag (.ref t)/\jh H v t
structure ii(win:k9->Option Act)(H0 H:Hp)(d:Addr)(done rows:List (List NK×V))(n:Nat):Prop where
 at_:H d=some (.dT rows)
 len:rows.length<=n
 row:∀r,(dZ rows (iL r)=none/\∀c,dZ done (kk (Sw58.cellKey r c))=none)\/∃m ms,dZ rows (iL r)=some (.ref m)/\H0 m=none/\m≠d/\H m=some (.dT ms)/\ms.length<=n/\M9 win H done r ms
 inj:∀r r' m,dZ rows (iL r)=some (.ref m)->dZ rows (iL r')=some (.ref m)->r=r'
theorem M9.bA(g:Grows CA H a)(h:M9 b H done r d):M9 b a done r d:=λc=>by
 rcases h c with z|⟨u,x,v,t,e,f,i,j,k⟩
 ·show .inl z
 ·show .inr (u,x,v,t,e,f,i,j,k.bA g)
def ii.same(h:ii a b H d done rows n)(S:bB H c):ii a b c d done rows n:=by
 show(S _ _ h.at_,h.len,λr=> ?_,h.inj);rcases h.row r with z|⟨m,e,f,g,i,j,k,l⟩
 ·show .inl z
 ·show .inr (m,e,f,g,i,S _ _ j,k,l.bA (CA:=0) S.grows)
def ii.more(h:ii b c H d done rows n)(a:n<=m):ii b c H d done rows m:=by
 show(h.at_,bC h.len a,λr=> ?_,h.inj);rcases h.row r with z|⟨m,e,f,g,i,j,k,l⟩
 ·show .inl z
 ·show .inr (m,e,f,g,i,j,bC k a,l)
def ii.congr(h:ii a b H d done rows n)(e:∀r c,dZ f (kk (bK r c))=dZ done (kk (bK r c))):ii a b H d f rows n:=by
 show(h.at_,h.len,λr=> ?_,h.inj);rcases h.row r with⟨z,g⟩|⟨m,i,j,k,l,o,p,q⟩
 ·show .inl (z,λc=>by rw[e];show g c)
 ·show .inr (m,i,j,k,l,o,p,λc=> ?_)
  rw[e];show q c
def IA{k:aa NK}:(fT kvs k v).length<=kvs.length+1:=qB [#[k,v]] kvs
def ii.Xb(h:ii u o H d done rows n)(x:dZ rows (iL r)=au)(y:H m=ag (.dT []))(A:o m=au)(p:m≠d)(q:∀i f,dZ rows (iL i)=ag (.ref f)->f≠m):ii u o (bD H d (.dT (fT rows (iL r) (.ref m)))) d done (fT rows (iL r) (.ref m)) (n+1):=by
 let g:Grows 0 H (bD H d (.dT (fT rows (iL r) (.ref m)))):=Grows.put h.at_ (λz=>z);show(aw,by let:=h.len;let:=IA (kvs:=rows) (k:=iL r) (v:=.ref m);lk,λi=> ?_,λB C f a b=> ?_)
 ·rw[qp]
  by_cases e:i=r
  ·subst e
   rw[aH J];show .inr (m,[],J,A,p,by rw[aZ p];show y,bW _,λc=>.inl (?_,J));rcases h.row i with⟨_,z⟩|⟨f,s,a,_⟩
   ·show z c
   ·rw[x] at a;cases a
  ·rw[aD (λz=>e (jE z))]
   rcases h.row i with z|⟨f,s,a,b,t,D,I,E⟩
   ·show .inl z
   ·show .inr (f,s,a,b,t,by rw[aZ t];show D,by lk,E.bA g)
 ·rw[qp] at a b
  by_cases j:B=r<;>by_cases l:C=r
  ·rw[j,l]
  ·rw[aH (by rw[j])] at a
   rw[aD (λz=>l (jE z))] at b;cases a;show absurd rfl (q _ _ b)
  ·rw[aH (by rw[l])] at b
   rw[aD (λz=>j (jE z))] at a;cases b;show absurd rfl (q _ _ a)
  ·rw[aD (λz=>j (jE z))] at a
   rw[aD (λz=>l (jE z))] at b;show h.inj _ _ _ a b
def ii.cell(h:ii D I H d done rows n)(i:dZ rows (iL r)=ag (.ref m))(E:H m=ag (.dT q))(s:dZ done (kk (bK r c))=au)(L:D (bK r c)=ag x)(hw:eM x (bK r c)=ag v)(M:jh H v t):
  ii D I (bD H m (.dT (fT q (iL c) (.ref t)))) d (done++[#[kk (bK r c),u]]) rows (n+1):=by
 let g:Grows 0 H (bD H m (.dT (fT q (iL c) (.ref t)))):=Grows.put E (λz=>z);let y:∀{r c b a:Id},kk (bK r c)=kk (bK b a)->r=b/\c=a:=λ{r c b a} e=>by
  let:=zF (.inr (r,c,J)) (.inr (b,a,J)) e;unfold bK at this;simp![dL,and_true,true_and] at this;show(gX this.1 this.2.1,gX this.2.2.1 this.2.2.2)
 let O:m≠d:=by
  rcases h.row r with⟨z,_⟩|⟨l,A,f,o,j,_⟩
  ·rw[i] at z;cases z
  ·rw[i] at f;cases f;show j
 show(by rw[aZ (ff O)];show h.at_,by let:=h.len;lk,λb=> ?_,h.inj);by_cases e:b=r
 ·subst e
  rcases h.row b with⟨z,_⟩|⟨l,A,f,o,j,p,Q,B⟩
  ·rw[i] at z;cases z
  ·rw[i] at f
   cases f;rw[E] at p;cases p;show .inr (m,_,i,o,j,aw,by let:=IA (kvs:=q) (k:=iL c) (v:=.ref t);lk,λa=> ?_);rw[qh _ _ _ _ s,qp];by_cases C:a=c
   ·subst C
    rw[aH J,aH J];show .inr (u,x,v,t,J,L,hw,J,M.bA g)
   ·rw[aD (λz=>C (y z).2),aD (λz=>C (jE z))]
    show B.bA g a
 ·rcases h.row b with⟨z,T⟩|⟨l,A,f,o,j,p,Q,B⟩
  ·show .inl (z,λa=> ?_)
   rw[qh _ _ _ _ s,aD (λw=>e (y w).1)];show T a
  ·let U:l≠m:=λz=>e (h.inj _ _ _ f (by rw[z];show i))
   show .inr (l,A,f,o,j,by rw[aZ U];show p,by lk,λa=> ?_);rw[qh _ _ _ _ s,aD (λw=>e (y w).1)];show B.bA g a
structure wA(H:Hp)(d:Addr)(win:k9->Option Act):Prop where
 ex:∃rows,H d=some (.dT rows)/\∀r,(dZ rows (iL r)=none/\∀c,win (Sw58.cellKey r c)=none)\/∃m ms,dZ rows (iL r)=some (.ref m)/\H m=some (.dT ms)/\∀c,(win (Sw58.cellKey r c)=none/\dZ ms (iL c)=none)\/∃x v t,win (Sw58.cellKey r c)=some x/\Sw58.writeOf x (Sw58.cellKey r c)=some v/\dZ ms (iL c)=some (.ref t)/\jh H v t
def ii.all(h:ii a A H d f rows n)(hc:AB CA B f a k):wA H d a:=by
 show(rows,h.at_,λr=> ?_);let g:∀c,dZ f (kk (bK r c))=au->a (bK r c)=au:=λc e=>by
  rcases hc.val (bK r c) (.inr (r,c,J)) with⟨z,_⟩|⟨x,v,_,z,_⟩
  ·show z
  ·rw[e] at z;cases z
 rcases h.row r with⟨z,b⟩|⟨m,i,j,C,D,l,E,o⟩
 ·show .inl (z,λc=>g c (b c))
 ·show .inr (m,i,j,l,λc=> ?_)
  rcases o c with⟨z,b⟩|⟨u,x,v,t,_,p,q,s,y⟩
  ·show .inl (g c z,b)
  ·show .inr (x,v,t,p,q,s,y)
theorem Gf:∀{c:aa (aa NK×V)} {i:Nat} {k:aa NK} {v:V},(c.map (·.1)).Nodup->c[i]?=ag #[k,v]->dZ c k=ag v/\dZ (c.take i) k=au
 |[],i,k,v,_,h=>by simp at h
 |p::c,0,k,v,_,h=>by
  cases h;show(jx J,J)
 |p::c,i+1,k,v,f,h=>by
  let d:c[i]?=ag #[k,v]:=by simpa using h
  let⟨g,j⟩:=eJ.mp f;let⟨a,b⟩:=Gf j d;let e:¬p.1=k:=λz=>g (aY.mpr (#[k,v],bg d,z.symm));show(by rw[iZ e];show a,?_);change dZ (p::c.take i) k=au;rw[iZ e];show b
def P5(h:mX H k v y)(d:k=bK r c):∃t,y=.ref t/\jh H v t:=by
 cases h with
 |place a p=>unfold bK at d;simp at d
 |gone b a=>unfold bK at d;simp at d
 |cell h=>show(_,J,h)
def aay(H c:Hp):Prop:=∀b a,H b=ag (.dC a)->c b=ag (.dC a)
def jh.tups(g:aay H f)(h:jh H v a):jh f v a:=by
 cases h with
 |none h=>show .none (g _ _ h)
 |num z h=>show .num z (g _ _ h)
 |Jy r c s d h b e i j=>show .Jy r c s d (g _ _ h) (g _ _ b) (g _ _ e) (g _ _ i) (g _ _ j)
 |cell a k r c h b e=>show .cell a k r c (g _ _ h) (g _ _ b) (g _ _ e)
def ii.W0(h:ii k f H d done rows n)(l:a≠d)(p:f a≠au)(q:H a=ag u)(s:∀i,u≠.dC i):ii k f (bD H a o) d done rows n:=by
 let g:aay H (bD H a o):=λb i e=>by
  rw[aZ (λz=>by rw[z,q] at e;cases e;show s _ rfl)];show e
 show(by rw[aZ (ff l)];show h.at_,h.len,λr=> ?_,h.inj);rcases h.row r with z|⟨m,y,A,j,B,C,D,E⟩
 ·show .inl z
 ·show .inr (m,y,A,j,B,by rw[aZ (λz=>p (by rw[<-z];show j))];show C,D,λc=> ?_)
  rcases E c with z|⟨u,x,v,t,I,L,M,O,Q⟩
  ·show .inl z
  ·show .inr (u,x,v,t,I,L,M,O,Q.tups g)
section
universe a
variable{CA N:az}
inductive Gx(CA N:az)(f:aa V)(H:Hp)(Q:VK)(E:XK):Prop|mk:∀a R b g h c i j n,f=[.ref a]->R .self=a->bT CA N H R b g h c i j n->Sa c->n<1000000->(∀e d,bB H e->H d=au->wA e d c->Q (.ref d) e)->Gx CA N f H Q E
def Ip:bM ["copy","cells","target","act","row"] ["copy"] (bo (fI 37)):=cB
def abw(F:fQ K mg "cells_by_row" (fI 37) ["copy"])(abc:dY K N iS)(TA:dY K CA rK)(c4:qI mg "CELL" 4):-ig "cells_by_row" ["copy"] 1 (Gx CA N):=by
 let⟨t4,c4⟩:=c4;show F.def Ip (λvs H abB abC h=> ?_) (λac1 cdv ac6 ac7 ac8 H vs abB abC hr h=> ?_)
 ·let⟨abD,R,b,abE,abN,Y,tm,had,acg,rfl,_⟩:=h
  rfl
 ·let⟨abD,R,b,abE,abN,Y,tm,had,acg,rfl,rfl,aaV,hW,hn,acm⟩:=h
  let aav:=Ip.nd;show(_,ay (dW 1 aav qx)
   (ay (T0 (nz dE J (NY (cA (pv 0) J)) (K9 J (sA (fM (i:=2) aav J (gA J)) (sA (fM (i:=3) aav J (gA J)) GO)))
    (aV (fO (fL yk (jm ef (pv 2) aX) (fB (v:=.int 4) J c4 (t4,J)) (fU _))
     (ay (dW 4 aav (QV (uX hr) (pv 1) (jm ef (pv 2) aX) qx (J,J,J,J)))
     (aV (tV (uX hr) (pv 4) (jm ef (pv 2) aX) (kQ (uX hr) (cA (pv 3) J) (pv 2) (λ_ _=>rfl)) J))) dH))))
   (aV (bP (pv 1)))),?_)
  room
  intro d C;let⟨k,hc,D⟩:=aaV.cnt;let⟨dx,hs⟩:=aaV.self;let S0:bB H (bD H d (.dT [])):=bB.new C;let dc:d≠R .cnt:=λz=>by rw[z,hc] at C;cases C
  show(R .cnt,_,S0 _ _ hc,trivial,λod=> ?_);let sc:R .self≠R .cnt:=aaV.ne (by decide);show(_,J,R .self,N,dx,_,_,J,by rw[aZ sc];show S0 _ _ hs,abc.cl,abc.na _ (by simp),(cF R _).2.2.2.2.1,R .cnt,od,k,J,aw,Ly (λf p g=>∃v2 v3 v4 rows,p=[ag (.ref (R .self)),ag (.ref d),v2,v3,v4]/\bQ (·=R .cnt) H g/\g (R .cnt)=ag (.lH od (.dT k))/\ii Y H g d (k.take f) rows (2*f)) ?_ (λf p g _ (_,_,_,_,_,_,A,_)=>A) ?_ ?_)
  ·show(au,au,au,[],J,λc o e E=>by rw[aZ E];show S0 _ _ e,aw,by rw[aZ dc,aw],aS _,λr=>.inl (J,λc=>rfl),(λ_ _ _ h=>nomatch h))
  ·rintro f ky v q Tt p g hi hq hT ⟨v2,v3,v4,rows,rfl,KB,A,CB⟩
   room
   let⟨sk,ok,rfl⟩:=D.keys _ (bg hi);let⟨hv1,hv0⟩:=Gf D.nd hi;let hil:f<k.length:=(List.getElem?_eq_some_iff.mp hi).1;let hcl:=D.len;let⟨x,hwx,hxa⟩:∃x,Y sk=ag x/\gP CA H v x:=by
    rcases D.val sk ok with⟨_,z⟩|⟨x,v',B,z2,z3⟩
    ·rw[hv1] at z;cases z
    ·rw[hv1] at z2;cases z2;show(x,B,z3)
   let gr:∀{a:Hp},bQ (·=R .cnt) H a->Grows CA H a:=λl b o e im=>l b o e λz=>by
    let z:=z;rw[z,hc] at e;cases e;show im
   let I:bB g (bD g Tt (.dC [.ref q,v])):=bB.new hT;let ht1:bD g Tt (.dC [.ref q,v]) Tt=ag (.dC [.ref q,v]):=aw;let etk:k.take (f+1)=k.take f++[#[kk sk,v]]:=by rw[cE,hi];rfl
   let s:=CB.same I;let KB1:=KB.same I;let hL1:=I _ _ A;let hq1:=I.pI hq;generalize bD _ _ _=H1 at I ht1 s KB1 hL1 hq1⊢;show(Tt,_,J,gg.of ht1,J,_,_,J,_,_,J,J,?_);rcases ok with⟨ka,kh,kn,ka4,rfl⟩|⟨r,c,rfl⟩
   ·let⟨rb,L,_⟩:=BW hq1
    show(_,J,_,_,_,_,J,J,gg.of L,wy,J,_,J,jg (decide_eq_false (λz=>by injection z with z;lk)) ?_);show(_,_,_,rows,J,KB1,hL1,(s.congr λr c=> ?_).more (by lk));rw[etk,qh _ _ _ _ hv0,aD];intro z;rw[zE,wm] at z;simp at z
   ·let⟨rb,cb,L,hrb,hcb⟩:=Gk hq1
    show(_,J,_,_,_,_,J,J,gg.of L,wy,J,_,J,iu J ?_);show ya (λp a=>∃m M aaG,p=[ag (.ref (R .self)),ag (.ref d),ag (.ref q),ag v,ag (.ref m)]/\bQ (·=R .cnt) H a/\a (R .cnt)=ag (.lH od (.dT k))/\Grows CA H1 a/\ii Y H a d (k.take f) aaG (2*f+1)/\dZ aaG (iL r)=ag (.ref m)/\a m=ag (.dT M)/\H m=au) ?_ λabm=> ?_
    ·rintro p a ⟨m,M,aaG,rfl,l,O,G12,j,hrm,hms,hm0⟩
     room
     let hx2:=hxa.bA (gr l);let⟨acV,dp,kn,wr,ow,kws,rfl,g1,g2,g3,g4⟩:=hx2.at_;let⟨hws,hwk⟩:=hW _ _ hwx;let⟨Q,y,e1,e2,e3⟩:∃Q y,dZ kws (kk (bK r c))=ag y/\eM x (bK r c)=ag Q/\mX a (bK r c) Q y:=by
      rcases g4.pQ hwk (.inr (r,c,J)) with⟨_,z⟩|⟨Q,y,B,z2,z3⟩
      ·rw[z] at hws;cases hws
      ·show(Q,y,B,z2,z3)
     let⟨adc,rfl,hct⟩:=P5 e3 J;let hml:M.length<=2*f+1:=by
      rcases j.row r with⟨z,_⟩|⟨m',ms',B,_,_,z4,z5,_⟩
      ·rw[hrm] at z;cases z
      ·rw[hrm] at B;cases B
       rw[hms] at z4;cases z4;show z5
     show(_,J,acV,CA,dp,_,_,J,g1,TA.cl,TA.na _ (by simp),kM ..,_,J,wr,_,J,.inr (_,_,_,.inr (_,g3),J,(G12.pI hq1),e1.symm),_,J,_,J,_,_,_,_,J,J,gg.of (G12.dC L),b9 J,m,_,J,xG.t hms (eW.key (G12.dC hcb)) (jy (by lk)),?_);let mc:m≠R .cnt:=λz=>by rw[z,hc] at hm0;cases hm0
     show(_,_,_,aaG,J,λb o e E=> ?_,by rw[aZ (ff mc)];show O,?_)
     ·rw[aZ (λz=>by rw[z,hm0] at e;cases e)];show l b o e E
     ·rw[etk]
      show j.cell hrm hms hv0 hwx e2 hct
    ·let dl:=s.len
     show(_,J,d,J,.inr (_,.inl s.at_),_,J,_,_,_,_,J,J,gg.of L,b9 J,λz n=> ?_);let u:bB H1 (bD H1 z (.dT [])):=bB.new n;let hz2:bD H1 z (.dT []) z=ag (.dT []):=aw;let j:=s.same u;let l:=KB1.same u;let O:=u _ _ hL1;let hzd:z≠d:=λe=>by rw[e,s.at_] at n;cases n
     let hz0:H z=au:=by
      cases e:H z with
      |none=>rfl
      |some o=>
       by_cases zc:z=R .cnt
       ·rw[zc,hL1] at n;cases n
       ·rw[KB1 z o e zc] at n;cases n
     let ac0:∀r' m',dZ rows (iL r')=ag (.ref m')->m'≠z:=λr' m' e ez=>by
      rcases s.row r' with⟨q,_⟩|⟨m2,ms2,T,_,_,q4,_⟩
      ·rw[e] at q;cases q
      ·rw[e] at T;cases T
       rw[ez,n] at q4;cases q4
     generalize bD _ _ _=a at u hz2 j l O⊢;show(rows,iL r,rb,j.at_,J,eW.key (u _ _ hrb),jy (by lk),λadz U=> ?_,λU=> ?_)
     ·rcases j.row r with⟨q,_⟩|⟨m,M,T,q2,q3,q4,q5,q6⟩
      ·rw[U] at q;cases q
      ·rw[U] at T
       cases T;show abm _ _ (m,M,rows,J,l,O,u.grows,j.more (by lk),U,q4,q2)
     ·let E:∀b o,H b=ag o->b≠d:=λb o e z=>by rw[z,C] at e;cases e
      show abm _ _ (z,[],_,J,λb o e nb=>by rw[aZ (E b o e)];show l b o e nb,by rw[aZ (ff dc)];show O,u.grows.trans (Grows.put j.at_ (λz=>z)),j.Xb U hz2 hz0 hzd ac0,?_,by rw[aZ hzd];show hz2,hz0);rw[qp,aH J]
  ·rintro p g ⟨v2,v3,v4,rows,rfl,KB,A,CB⟩
   room
   rw[cu] at CB;show(A,_,J,acm _ d (λb o e=> ?_) C ((CB.W0 (ff dc) (by rw[hc];simp) A (λ_ z=>nomatch z)).all D));by_cases bc:b=R .cnt
   ·rw[bc] at e⊢
    rw[aw,<-e,hc]
   ·rw[aZ bc];show KB b o e bc
end
section
variable{X:Cx}{a:fK}{ta:TE}
def TZ(d:XR X r)(e:PE X a ta)(f:∀whole,JM a X.env whole=(do let v<-whole;yT a.pos;holding [v] (OV v))):
  PT X a (λb H Q=>ta b H λx g=>r x g Q):=by
 intro c s b H Q I h;show OY (gj (e c s b H _ I h) λv i (x,j,k,l,m)=>d c i b j x v Q k l m) (f _)
end
section
universe a
variable{CA N:az}
inductive Ql(j:aa V)(H:Hp)(Q:VK)(E:XK):Prop|mk:∀(m k n o:az) (d:aa (aa NK×V)) (C:aa (Place×Id)) (q:aa az) (e f:aa (Place×Id)) (g h:Place×Id->Bool) (b:Id->uO),j=[.ref m,.ref k,.ref n,.ref o]->H m=ag (.dT d)->H k=ag (.bZ (q.map V.ref))->SM.bL (λx p=>eW H p x.2) C q->kR H n e g->kR H o f h->(∀c,(b c=[0]/\dZ d (iL c)=au)\/∃t,dZ d (iL c)=ag (.ref t)/\jh H (b c) t)->C.length<1000000->(C.flatMap λy=>pR (fX e g) (fX f h) (b y.2)).length<1000010->(∀i l,bB H i->H l=au->i l=ag (.bZ ((C.flatMap λy=>pR (fX e g) (fX f h) (b y.2)).map V.int))->Q (.ref l) i)->Ql j H Q E
def Qw:bM ["cells","columns","row_ranks","column_ranks","told","column"] ["cells","columns","row_ranks","column_ranks"] (bo (fI 38)):=cB
def FF(f:b->aa Int)(l:aa b)(i:Nat):((l.take i).flatMap f).length<=(l.flatMap f).length:=by
 conv=>rhs;rw[<-gu i l,jc,bt]
 lk
def adG(F:fQ K mg "shown_row" (fI 38) ["cells","columns","row_ranks","column_ranks"])(mn:mg "len"=au)(DS:-ig "shown" ["value","row_ranks","column_ranks"] 3 Gq):-ig "shown_row" ["cells","columns","row_ranks","column_ranks"] 4 Ql:=by
 show F.def Qw (λvs H aaG aaV h=> ?_) (λabe cdv abi abl abm H vs aaG aaV u h=> ?_)
 ·let⟨m,q,v,A,B,C,Q,b,d,e,f,g,rfl,_⟩:=h
  rfl
 ·let⟨m,q,v,A,B,C,Q,b,d,e,f,g,rfl,D,E,T,hR,hD,U,hn,hz,k⟩:=h
  let Y:=Qw.nd;let hl:=bL.length T;show(_,ay (fO (je (TZ Wk (pv 0) (λ_=>rfl))) (aV (bP (ij Q5 (d9 (ak aX aB)) (d7 cJ J mn cg (ak (pv 1) aB))))) dH)
   (ay (dW 4 Y (d9 aB))
   (ay (nz dE J (mv (pv 1)) (fM (i:=5) Y J (gA J))
    (aV (fO (xA (GP (uX u) (pv 5) (pv 0)) J)
     (aV (fY (qy bX mP mO wj (pv 4) (ak (dU DS u J (ak (kQ (uX u) (pv 0) (pv 5) (λ_ _=>rfl)) (ak (pv 2) (ak (pv 3) aB)))) aB))))
     (aV (fY (qy bX d6 d4 lq (pv 4) (ak aX aB)))))))
   (aV (bP (pv 4))))),?_)
  room
  let zero:∀c,dZ B (iL c)=au->pR (fX b e) (fX d f) (g c)=[0]:=λc aa0=>by
   rcases U c with⟨z,_⟩|⟨aav,z,_⟩
   ·rw[z];rfl
   ·rw[aa0] at z;cases z
  cases hms:B with
  |nil=>
   subst hms;show(_,J,m,[],J,.inl D,iu J (eR,λl j=>(_,J,q,_,J,.inl (eE.of (bB.new j _ _ E)),l,_,_,J,J,aw,by lk,?_,?_,λaa1 hp=> ?_)))
   ·rw[ao];lk
   ·rw[ao,bE,dN]
    change 1*Q.length<=_;lk
   ·show k _ aa1 ((bB.new j).add hp) ((bB.new j).free hp) ?_
    rw[aw,ao,bE,<-hl];let:∀L:aa (Place×Id),(bR L.length [V.int 0]).flatten=((L.flatMap λy=>pR (fX b e) (fX d f) (g y.2)).map V.int):=by
     intro L;induction L with
     |nil=>rfl
     |cons y L ih=>rw[aN,ja,iX,ih,O9,zero y.2 J];rfl
    rw[this]
  |cons e0 er=>
   show(_,J,m,_,J,.inl (by rw[D,hms]),jg J (bW _,λl j=> ?_));let S0:bB H (bD H l (.bZ [])):=bB.new j;show(_,J,q,J,(_,eE.of (S0 _ _ E)),pj (λn r p=>∃I:ae V,r=[ag (.ref m),ag (.ref q),ag (.ref v),ag (.ref A),ag (.ref l),I]/\bB H p/\p l=ag (.bZ (((C.take n).flatMap λy=>pR (fX b e) (fX d f) (g y.2)).map V.int))) ?_ (λn r p _ (_,_,S,_)=>eE.of (S _ _ E)) ?_ ?_)
   ·show(au,J,S0,aw)
   ·rintro n y r p hi ⟨I,rfl,S,o⟩
    room
    rw[aF] at hi;let⟨abn,hpq,rfl⟩:=bv.mp hi;let⟨x,hx,hxq⟩:=bL.yz T hpq;let hq':=S _ _ hxq;let hm':=S _ _ D;let etk:C.take (n+1)=C.take n++[x]:=by rw[cE,hx];rfl
    let M:((C.take (n+1)).flatMap λy=>pR (fX b e) (fX d f) (g y.2))=((C.take n).flatMap λy=>pR (fX b e) (fX d f) (g y.2))++pR (fX b e) (fX d f) (g x.2):=by rw[etk,jc];simp
    let hle:=FF (λy:Place×Id=>pR (fX b e) (fX d f) (g y.2)) C (n+1);rw[M,bt] at hle;show(_,J,_,J,m,_,J,oW.t hm' (eW.key hq'),_,J,?_);rcases U x.2 with⟨O,s⟩|⟨aav,O,s⟩
    ·rw[s]
     show jg J (_,J,.inl (J,_,eE.of o),l,_,_,J,J,o,jy (by rw[ao];lk),_,J,S.put j,?_);rw[aw,M,bz,zero _ s];rfl
    ·rw[O]
     show iu J (_,J,.inl (J,_,eE.of o),_,J,_,J,m,_,J,.inr (_,_,_,.inl hm',J,eW.key hq',O.symm),_,J,_,J,aav,v,A,_,b,d,e,f,J,s.bA (CA:=0) S.grows,hR.same S,hD.same S,λH1 l1 S1 abo abd=> ?_);show(l,l1,_,_,J,J,S1 _ _ o,abd,xw (by rw[ao,ao];lk),_,J,(S.trans S1).put j,?_);rw[aw,M,bz]
   ·rintro r p ⟨I,rfl,S,o⟩
    room
    rw[ao,<-hl,cu] at o;show(_,J,k p l S j o)
end
def kR.VG{CA PT:az}(h:kR H d L a)(G:vS CA PT H b R n)(c:¬p9 R d)(e:d≠PT):kR b d L a:=by
 let⟨f,g,i,j⟩:=h.ex;show(f,G.oM g c e,i,λp x k=> ?_);let⟨t,l,m⟩:=j p x k;show(t,l,G.grow.dC m)
def sF(h:SM.bL (λx p=>eW H p x.2) R a)(S:Grows CA H b):SM.bL (λ(x:Place×Id) p=>eW b p x.2) R a:=bL.imp (λx p z=>S.dC z) h
def nD(a:k9->ae Act)(r c:Id):uO:=(vZ a (bK r c)).getD [0]
def OL(h:wA H d a)(r:Id):∃rows,H d=ag (.dT rows)/\((dZ rows (iL r)=au/\∀c,nD a r c=[0])\/∃m b,dZ rows (iL r)=ag (.ref m)/\H m=ag (.dT b)/\∀c,(nD a r c=[0]/\dZ b (iL c)=au)\/∃t,dZ b (iL c)=ag (.ref t)/\jh H (nD a r c) t):=by
 let⟨rows,j,k⟩:=h.ex;let i:∀c,a (bK r c)=au->nD a r c=[0]:=λc e=>by unfold nD vZ;rw[e];rfl
 show(rows,j,?_);rcases k r with⟨z,l⟩|⟨m,b,n,o,p⟩
 ·show .inl (z,λc=>i c (l c))
 ·show .inr (m,b,n,o,λc=> ?_)
  rcases p c with⟨f,g⟩|⟨x,v,t,f,g,q,s⟩
  ·show .inl (i c f,g)
  ·let e:nD a r c=v:=by unfold nD vZ;rw[f];change(eM x _).getD [0]=v;rw[g];rfl
   show .inr (t,q,by rw[e];show s)
def wA.same(h:wA H d a)(S:bB H b):wA b d a:=by
 let⟨rows,e,f⟩:=h.ex;show(rows,S _ _ e,λr=> ?_);rcases f r with z|⟨m,g,i,j,k⟩
 ·show .inl z
 ·show .inr (m,g,i,S _ _ j,λc=> ?_)
  rcases k c with z|⟨x,v,t,l,n,o,p⟩
  ·show .inl z
  ·show .inr (x,v,t,l,n,o,p.bA (CA:=0) S.grows)
def oh(c:k9->ae Act)(d a:aa (Place×Id))(e b:Id->Bool)(f:aa (Place×Id)):aa Int:=f.flatMap λx=>(a.filter λy=> !b y.2).flatMap λy=>pR (fX d λz=> !e z.2) (fX a λz=> !b z.2) (nD c x.2 y.2)
def vx(e:k9->ae Act)(a c:aa (Place×Id))(b d:Id->Bool):aa Int:=((a.filter λx=> !b x.2).length:Int)::((c.filter λx=> !d x.2).length:Int)::oh e a c b d (a.filter λx=> !b x.2)
section
universe a
variable{CA N:az}
inductive Gr(CA N PT:az)(j:aa V)(H:Hp)(Q:VK)(E:XK):Prop|mk:∀a R b k m c o p n d e g h,j=[.ref a]->R .self=a->bT CA N H R b k m c o p n->fD H PT uc n9->zU b c 0 d->zU b c 1 e->zV c 0 g->zV c 1 h->d.length<1000000->e.length<1000000->(d.map (·.2)).Nodup->(e.map (·.2)).Nodup->Sa c->n<1000000->(vx c d e g h).length<=1000000->(∀f i l,vS CA PT H f R i->bT CA N f i b k m c o p n->fD f PT uc n9->H l=au->¬p9 i l->f l=ag (.bZ ((vx c d e g h).map V.int))->Q (.ref l) f)->Gr CA N PT j H Q E
def Ig:bM ["copy","rows","columns","row_ranks","column_ranks","cells","told","row"] ["copy"] (bo (fI 36)):=cB
theorem vS.none{CA PT:az}(G:vS CA PT H b R c)(h:b a=au):H a=au:=by
 cases e:H a with
 |none=>rfl
 |some o=>show absurd h (G.trk a (by rw[e];simp))
def abt{PT:az}(F:fQ K mg "sheet_of" (fI 36) ["copy"])(T:dY K N iS)(mn:mg "len"=au)(DT:-eC N "there" ["self","axis"] 4 (rf CA N PT))(DR:-eC N "ranks" ["self","axis"] 4 (Gs CA N PT))(DC:-ig "cells_by_row" ["copy"] 1 (Gx CA N))(DS:-ig "shown_row" ["cells","columns","row_ranks","column_ranks"] 4 Ql):-ig "sheet_of" ["copy"] 5 (Gr CA N PT):=by
 show F.def Ig (λvs abD abE abN h=> ?_) (λadA cdv adC adD adE abD vs abE abN o h=> ?_)
 ·let⟨ab6,R,b,v,A,e,B,C,n,a,f,d,g,rfl,_⟩:=h
  rfl
 ·let⟨ab6,R,b,v,A,e,B,C,n,a,f,d,g,rfl,rfl,aaC,TB,hL0,hL1,hg0,hg1,n0,Q,nd0,nd1,hW,hn,hz,act⟩:=h
  let p:=Ig.nd;let hr1:fo 1 _:=o.bA (by decide);show(_,ay (dW 1 p (bY (pv 0) T.cl DT o (ak aX aB))) (ay (dW 2 p (bY (pv 0) T.cl DT o (ak aX aB)))
   (ay (dW 3 p (bY (pv 0) T.cl DR o (ak aX aB))) (ay (dW 4 p (bY (pv 0) T.cl DR o (ak aX aB)))
   (ay (dW 5 p (dU DC hr1 J (ak (pv 0) aB)))
   (ay (dW 6 p (d9 (ak (d7 cJ J mn cg (ak (pv 1) aB)) (ak (d7 cJ J mn cg (ak (pv 2) aB)) aB))))
   (ay (nz dE J (mv (pv 1)) (fM (i:=7) p J (gA J))
    (aV (fY (qy bX mP mO wj (pv 6) (ak (dU DS o J (ak (Q0 (uX o) (pv 5) (pv 7) qx (J,J,J,J)) (ak (pv 2) (ak (pv 3) (ak (pv 4) aB))))) aB)))))
   (aV (bP (pv 6))))))))),?_)
  room
  let⟨dx,hs⟩:=aaC.self;show(_,J,R .self,dx,_,J,hs,J,R .self,0,R,b,v,A,e,B,C,n,a,d,J,J,by decide,aaC,TB,hL0,hg0,n0,λH1 R1 U ps G1 C1 T1 l0n l0f l0e aa7=> ?_);let Y:=G1.self;let⟨dx1,hs1⟩:=C1.self;rw[Y] at hs1;show(_,J,R .self,dx1,_,J,hs1,J,R .self,1,R1,b,v,A,e,B,C,n,f,g,J,Y,by decide,C1,T1,hL1,hg1,Q,λH2 R2 l1 qs E C2 T2 l1n l1f l1e abe=> ?_);let p0:=TB.ne l0n;let p1:=T1.ne l1n;let s2:R2 .self=R .self:=by rw[E.self,Y]
  let⟨dx2,hs2⟩:=C2.self;rw[s2] at hs2;let abi:=E.oM l0e l0f p0;let abl:=E.free l0f (by rw[l0e];simp);show(_,J,R .self,dx2,_,J,hs2,J,R .self,0,R2,b,v,A,e,B,C,n,a,d,J,s2,by decide,C2,T2,hL0,hg0,n0,nd0,λH3 R3 d0 k C3 T3 d0n d0f d0e=> ?_);let s3:R3 .self=R .self:=by rw[k.self,s2]
  let⟨dx3,hs3⟩:=C3.self;rw[s3] at hs3;let ac5:=k.free abl (by rw[abi];simp);let ac6:=k.free l1f (by rw[l1e];simp);show(_,J,R .self,dx3,_,J,hs3,J,R .self,1,R3,b,v,A,e,B,C,n,f,g,J,s3,by decide,C3,T3,hL1,hg1,Q,nd1,λH4 R4 d1 q C4 T4 d1n d1f d1e=> ?_);let s4:R4 .self=R .self:=by rw[q.self,s3]
  let ac8:=q.oM (k.oM abi abl p0) ac5 p0;let abn:=q.oM (k.oM l1e l1f p1) ac6 p1;let ac9:=d0e.VG q d0f (T2.ne d0n);let G:=((G1.trans E).trans k).trans q;show(_,J,_,R4,b,v,A,e,B,C,n,J,s4,C4,hW,hn,λH5 d5 H d5n d5e=> ?_);let aav:=H _ _ ac8;show(_,J,U,_,J,.inl (eE.of aav),_,J,l1,_,J,.inl (eE.of (H _ _ abn)),lB,λl hl=> ?_);let S6:bB H5 (bD H5 l (.bZ [.int ((ps.map V.ref).length:Int),.int ((qs.map V.ref).length:Int)])):=bB.new hl;let e0:(ps.map V.ref).length=(a.filter λx=> !d x.2).length:=by rw[ao,bL.length aa7]
  let e1:(qs.map V.ref).length=(f.filter λx=> !g x.2).length:=by rw[ao,bL.length abe]
  let adP:(vx e a f d g).length=(oh e a f d g (a.filter λx=> !d x.2)).length+2:=rfl;show(_,J,U,J,(_,eE.of (S6 _ _ aav)),pj (λr L j=>∃v7:ae V,L=[ag (.ref (R .self)),ag (.ref U),ag (.ref l1),ag (.ref d0),ag (.ref d1),ag (.ref d5),ag (.ref l),v7]/\bB H5 j/\j l=ag (.bZ ((((a.filter λx=> !d x.2).length:Int)::((f.filter λx=> !g x.2).length:Int)::oh e a f d g ((a.filter λx=> !d x.2).take r)).map V.int))) ?_ (λr L j _ (_,_,S,_)=>eE.of (S _ _ aav)) ?_ ?_)
  ·show(au,J,S6,?_)
   rw[aw,e0,e1];rfl
  ·rintro r y L j hi ⟨v7,rfl,S,I⟩
   room
   rw[aF] at hi;let⟨abo,hpq,rfl⟩:=bv.mp hi;let⟨x,hx,hxq⟩:=bL.yz (sF (sF (sF aa7 E.grow) k.grow) q.grow) hpq;let D:=H.trans S;let efl:oh e a f d g ((a.filter λx=> !d x.2).take (r+1))=oh e a f d g ((a.filter λx=> !d x.2).take r)++(f.filter λy=> !g y.2).flatMap λy=>pR (fX a λz=> !d z.2) (fX f λz=> !g z.2) (nD e x.2 y.2):=by
    unfold oh;rw[cE,hx,jc];simp
   let hle:=FF (λx:Place×Id=>(f.filter λy=> !g y.2).flatMap λy=>pR (fX a λz=> !d z.2) (fX f λz=> !g z.2) (nD e x.2 y.2)) (a.filter λx=> !d x.2) (r+1);let hle:(oh e a f d g ((a.filter λx=> !d x.2).take (r+1))).length<=(oh e a f d g (a.filter λx=> !d x.2)).length:=hle;rw[efl,bt] at hle;let⟨rows,hrw,ade⟩:=OL (d5e.same S) x.2;show(_,J,.inl (J,_,eE.of I),_,J,d5,J,.inr (_,.inl hrw),_,J,λz hz0=> ?_);let s:bB j (bD j z (.dT [])):=bB.new hz0;show(_,oW.t (s _ _ hrw) (eW.key (s _ _ (D _ _ hxq))),_,J,_,J,_,J,?_);let⟨m,u,em,hm,hms⟩:∃m u,(dZ rows (iL x.2)).getD (.ref z)=.ref m/\bD j z (.dT []) m=ag (.dT u)/\∀c,(nD e x.2 c=[0]/\dZ u (iL c)=au)\/∃M,dZ u (iL c)=ag (.ref M)/\jh (bD j z (.dT [])) (nD e x.2 c) M:=by
    rcases ade with⟨w1,w2⟩|⟨m,u,w1,w2,w3⟩
    ·show(z,[],by rw[w1];rfl,aw,λc=>.inl (w2 c,J))
    ·show(m,u,by rw[w1];rfl,s _ _ w2,λc=> ?_)
     rcases w3 c with abo|⟨M,q1,q2⟩
     ·show .inl abo
     ·show .inr (M,q1,q2.bA (CA:=0) s.grows)
   rw[em];let O:=D.trans s;show(m,l1,d0,d1,u,_,qs,a,f,_,_,nD e x.2,J,hm,O _ _ abn,sE (sF (sF abe k.grow) q.grow) O,ac9.same O,d1e.same O,hms,qX (eY _ _) Q,(by change((f.filter λy=> !g y.2).flatMap λy=>pR (fX a λz=> !d z.2) (fX f λz=> !g z.2) (nD e x.2 y.2)).length<1000010;lk),λH8 l8 S8 l8n l8e=> ?_);show(l,l8,_,_,J,J,S8 _ _ (s _ _ I),l8e,xw (by simp![ao,aN];lk),_,J,((S.trans s).trans S8).put hl,?_);rw[aw,efl];simp![bi,bz,PM]
  ·rintro L j ⟨v7,rfl,S,I⟩
   room
   rw[e0,cu] at I;let D:=H.trans S;let hl4:=H.free hl;show(_,J,act j R4 l (G.then D) (C4.same D) (T4.same D) (G.none hl4) (C4.free hl4) I)
end
section
universe a
inductive Bl(K:aq)(a:aa V)(H:Hp)(Q:VK)(E:XK):Prop|mk:∀l b k n,a=[.ref l,.int k,.int n]->H l=ag (.bZ b)->Q (.bl (decide (0<=k)&&decide (k<=(b.length:Int)- n))) H->Bl K a H Q E
def NP:bM ["there","k","n"] ["there","k","n"] (bo (fI 59)):=cB
def aao(F:fQ K mg "is_run" (fI 59) ["there","k","n"])(b:mg "len"=au):-ig "is_run" ["there","k","n"] 1 (Bl K):=by
 show F.def NP (λd H Q E h=> ?_) (λf g A i s H d Q E j h=> ?_)
 ·let⟨l,e,k,n,rfl,_⟩:=h
  rfl
 ·let⟨l,e,k,n,rfl,hl,a⟩:=h
  show(_,aV (bP (CS jz jz aX (pv 1) (ij pK (d7 cJ J b cg (ak (pv 0) aB)) (pv 2)))),?_)
  room
  show(_,J,_,_,J,J,_,J,?_);by_cases c:0<=k
  ·show iu (decide_eq_true c) (_,J,l,_,J,.inl (eE.of hl),_,J,_,_,J,J,_,_,J,J,?_)
   rw[decide_eq_true c] at a;show a
  ·rw[decide_eq_false c] at a
   show jg (decide_eq_false c) a
inductive Mj(K:aq)(a:aa V)(H:Hp)(Q:VK)(E:XK):Prop|mk:∀(l:az) (b:aa V) (k:Nat),a=[.ref l,.int (k:Int)]->H l=ag (.bZ b)->Q ((b[k]?).getD .jn) H->Mj K a H Q E
def WC:bM ["there","k"] ["there","k"] (bo (fI 61)):=cB
def adJ(F:fQ K mg "nth" (fI 61) ["there","k"])(d:mg "len"=au):-ig "nth" ["there","k"] 1 (Mj K):=by
 show F.def WC (λg H Q E h=> ?_) (λf i A j s H g Q E m h=> ?_)
 ·let⟨l,b,k,rfl,_⟩:=h
  rfl
 ·let⟨l,b,k,rfl,hl,a⟩:=h
  show(_,aV (bP (mV (fL wV (pv 1) (d7 cJ J d cg (ak (pv 0) aB)) (fU _)) (jm cG (pv 0) (pv 1)) kP)),?_)
  room
  show(_,J,_,J,l,_,J,.inl (eE.of hl),_,_,J,J,_,J,?_);by_cases c:k<b.length
  ·let e:=aL c
   rw[e] at a;show iu (decide_eq_true (by lk)) (_,J,_,J,_,_,_,_,J,J,eE.of hl,b9 e,a)
  ·rw[b8 (by lk)] at a
   show jg (decide_eq_false (by lk)) a
end
structure Cs where
 CA:Addr
 CC:Addr
 CB:Addr
 PT:Addr
 P2:Addr
structure pq(Z:Cs):Prop where
 ca:Z.CC≠Z.CA
 cb:Z.CB≠Z.CA
 pt:Z.PT≠Z.P2
inductive AU
 |dX|copies|made|acts(h:Nat)|copy(h:Nat)(r:pN)
def qJ(n:Nat):AU->Prop
 | .acts h=>1<=h/\h<=n
 | .copy h _=>1<=h/\h<=n
 |_=>True
def fJ(A:AU->az)(n:Nat)(a:az):Prop:=∃t,qJ n t/\a=A t
abbrev iU:aa cX:=["copies","made"]
def Ed(A:AU->az):aa (cX×V):=[#["copies",.ref (A .copies)],#["made",.ref (A .made)]]
def refsOf(n:Nat)(f:Nat->az):aa V:=(fA n).map λi=>V.ref (f (i+1))
def xx(n:Nat)(f:Nat->az):(refsOf n f).length=n:=by unfold refsOf;simp
def Cz(a:1<=h)(b:h<=n):(refsOf n f)[h - 1]?=ag (.ref (f h)):=by
 unfold refsOf;rw[aF,gb (by lk)];change ag (V.ref (f (h - 1+1)))=_;rw[Nat.sub_add_cancel a]
def Fn(a:1<=h)(b:h<=n):Hs (refsOf n f) ((h:Int)- 1)=ag (.ref (f h)):=by
 let e:((h:Int)- 1)=((h - 1:Nat):Int):=by lk
 rw[e];show b9 (Cz a b)
def An(n:Nat)(f:Nat->az):refsOf (n+1) f=refsOf n f++[.ref (f (n+1))]:=by
 unfold refsOf;rw[uU,bz];rfl
def tQ(h:∀i,1<=i->i<=n->f i=g i):refsOf n f=refsOf n g:=by
 unfold refsOf;show jb λi a=> ?_;rw[h (i+1) (by lk) (by let:=iI.mp a;lk)]
structure fW(Z:Cs)(H:Hp)(A:AU->Addr)(w:Sw58.World)(M:SM.Made):Prop where
 inj:∀t t',qJ w.base.hands t->qJ w.base.hands t'->A t=A t'->t=t'
 self:∃dx,H (A .dX)=some (.lM Z.CB dx (Ed A))
 copies:H (A .copies)=some (.bZ (refsOf w.base.hands λh=>A (.copy h .self)))
 made:H (A .made)=some (.bZ (refsOf w.base.hands λh=>A (.acts h)))
 acts:∀h,1<=h->h<=w.base.hands->∃vs,H (A (.acts h))=some (.bZ vs)/\sM Z.CA H vs (M h)
 copy:∀h,1<=h->h<=w.base.hands->on Z.CA Z.CC H (λr=>A (.copy h r)) w.base (w.copy h)
structure i7(Z:Cs)(H U:Hp)(F F':Addr->Prop):Prop where
 keep:bQ (λc=>F c\/c=Z.PT\/c=Z.P2) H U
 foot:∀a,F' a->F a\/H a=none
 grow:Grows Z.CA H U
 trk:∀b,H b≠none->U b≠none
section
variable{Z:Cs}{H U O H2:Hp}{F F' af1:az->Prop}
def _root_.L2.bB.trk(S:bB H U):∀b,H b≠au->U b≠au:=λb a=>by
 cases e:H b with
 |none=>show absurd e a
 |some o=>rw[S b o e];simp
def i7.same(S:bB H U):i7 Z H U F F:=(bQ.rA S,λa h=>.inl h,S.grows,S.trk)
theorem i7.trans(a:i7 Z H O F F')(b:i7 Z O H2 F' af1):i7 Z H H2 F af1 where
 keep:=λc o e n=>b.keep c o (a.keep c o e n) λz=>n (by
  rcases z with z|z
  ·rcases a.foot c z with z|z
   ·show .inl z
   ·rw[e] at z;cases z
  ·show .inr z)
 foot:=λc h=>by
  rcases b.foot c h with z|z
  ·show a.foot c z
  ·show .inr ?_
   cases e:H c with
   |none=>rfl
   |some o=>show absurd z (a.trk c (by rw[e];simp))
 grow:=a.grow.trans b.grow
 trk:=λc h=>b.trk c (a.trk c h)
def i7.then(a:i7 Z H O F F')(S:bB O H2):i7 Z H H2 F F':=a.trans (i7.same S)
theorem i7.none(a:i7 Z H O F F')(h:O c=au):H c=au:=by
 cases e:H c with
 |none=>rfl
 |some o=>show absurd h (a.trk c (by rw[e];simp))
def i7.oM(a:i7 Z H O F F')(h:H c=ag o)(b:¬F c)(d:c≠Z.PT)(e:c≠Z.P2):O c=ag o:=a.keep c o h λz=>by
 rcases z with z|z|z
 ·show b z
 ·show d z
 ·show e z
def i7.free(a:i7 Z H O F F')(h:H c≠Ac)(b:¬F c):¬F' c:=λz=>by
 rcases a.foot c z with z|z
 ·show b z
 ·show h z
end
section
variable{Z:Cs}{H U:Hp}{A:AU->az}{w:fS}{M:SM.Made}
def fW.trk(B:fW Z H A w M)(ok:pq Z)(h:qJ w.base.hands t):∃o,H (A t)=ag o/\(∀a,o≠.oY a)/\¬VN Z.CA o:=by
 cases t with
 |dX=>let(d,e):=B.self;show(_,e,(λ_ z=>nomatch z),λz=>ok.cb z.1)
 |copies=>show(_,B.copies,(λ_ z=>nomatch z),λz=>z)
 |made=>show(_,B.made,(λ_ z=>nomatch z),λz=>z)
 |acts g=>let(f,e,_):=B.acts g h.1 h.2;show(_,e,(λ_ z=>nomatch z),λz=>z)
 |copy g r=>
  let⟨o,e,b,c⟩:=bT.has (B.copy g h.1 h.2) r;show(o,e,b,c ok.ca)
def fW.free(B:fW Z H A w M)(ok:pq Z)(h:H a=au):¬fJ A w.base.hands a:=λ(t,c,e)=>by
 let⟨o,b,_⟩:=B.trk ok c;rw[<-e,h] at b;cases b
def fW.IN(B:fW Z H A w M)(ok:pq Z)(h:H a=ag (.oY f)):¬fJ A w.base.hands a:=λ(t,c,e)=>by
 let⟨o,b,d,_⟩:=B.trk ok c;rw[<-e,h] at b;cases b;show d _ rfl
theorem fW.keep(B:fW Z H A w M)(S:bQ F H U)(g:Grows Z.CA H U)(a:∀t,qJ w.base.hands t->¬F (A t)):fW Z U A w M where
 inj:=B.inj
 self:=let(d,e):=B.self;(d,S _ _ e (a .dX trivial))
 copies:=S _ _ B.copies (a .copies trivial)
 made:=S _ _ B.made (a .made trivial)
 acts:=λh b c=>let(f,e,q):=B.acts h b c;(f,S _ _ e (a (.acts h) (b,c)),q.bA g)
 copy:=λh b c=>bT.keep (B.copy h b c) S g λr=>a (.copy h r) (b,c)
def fW.same(B:fW Z H A w M)(S:bB H U):fW Z U A w M:=B.keep (F:=λ_=>False) (bQ.rA S) S.grows λ_ _ z=>z
def fW.W0(B:fW Z H A w M)(h:¬fJ A w.base.hands a)(b:H a=ag u)(d:¬VN Z.CA u):fW Z (bD H a o) A w M:=
 B.keep (F:=λc=>c=a) (bQ.refl.put J) (Grows.put b d) λt f e=>h (t,f,e.symm)
def wF(A:AU->az)(h:Nat)(R:pN->az):AU->az
 | .copy g r=>if g=h then R r else A (.copy g r)
 |t=>A t
def sv:wF A h R (.copy g r)=if g=h then R r else A (.copy g r):=rfl
def wd:wF A h (λr=>A (.copy h r))=A:=by
 funext t;cases t with
 |copy g r=>
  rw[sv];by_cases e:g=h
  ·rw[aH e,e]
  ·rw[aD e]
 |_=>rfl
def Cp{PT:az}(G:vS Z.CA PT H U (λr=>A (.copy h r)) a)(t:AU):wF A h a t=A t\/(H (wF A h a t)=au/\∃r,t=.copy h r):=by
 cases t with
 |copy g r=>
  rw[sv];by_cases e:g=h
  ·rw[aH e]
   subst e;rcases G.Xc r with z|z
   ·show .inl z
   ·show .inr (z.2,r,J)
  ·rw[aD e];show .inl rfl
 |_=>show .inl rfl
def fW.VG(B:fW Z H A w M)(ok:pq Z)(k:1<=h)(l:h<=w.base.hands)(hl:w.copies.length=w.base.hands)(G:vS Z.CA Z.PT H U (λr=>A (.copy h r)) b)(u:on Z.CA Z.CC U b w.base C)(D:∃v,H Z.PT=ag (.oY v)):
  fW Z U (wF A h b) (w.with_ h C) M/\i7 Z H U (fJ A w.base.hands) (fJ (wF A h b) w.base.hands):=by
 let⟨v,E⟩:=D;let I:∀t,qJ w.base.hands t->A t≠Z.PT:=λt a e=>by
  let⟨o,i,L,_⟩:=B.trk ok a;rw[e,E] at i;cases i;show L _ rfl
 let x:∀t,qJ w.base.hands t->(∀r,t≠.copy h r)->¬(p9 (λr=>A (.copy h r)) (A t)\/A t=Z.PT):=λt a m z=>by
  rcases z with⟨r,e⟩|z
  ·show m r (B.inj t (.copy h r) a (k,l) e)
  ·show I t a z
 let j:∀t o,qJ w.base.hands t->(∀r,t≠.copy h r)->H (A t)=ag o->U (A t)=ag o:=λt o a m e=>G.keep _ _ e (x t a m);let trk:∀t,qJ w.base.hands t->H (A t)≠au:=λt a=>by
  let⟨o,i,_⟩:=B.trk ok a;rw[i];simp
 show((λt p a y e=> ?_,?_,?_,?_,λg c d=> ?_,λg c d=> ?_),?_,?_,G.grow,G.trk)
 ·rcases Cp G t with z|⟨z,r,q⟩<;>rcases Cp G p with f|⟨f,s,Q⟩
  ·rw[z,f] at e;show B.inj t p a y e
  ·rw[<-e,z] at f;show absurd f (trk t a)
  ·rw[e,f] at z;show absurd z (trk p y)
  ·subst q Q
   let T:b r=b s:=by simpa [wF] using e
   rw[u.inj r s T]
 ·let⟨Y,e⟩:=B.self
  show(Y,j .dX _ trivial (λ_ z=>nomatch z) e)
 ·let e:(refsOf w.base.hands λg=>wF A h b (.copy g .self))=refsOf w.base.hands λg=>A (.copy g .self):=tQ λg _ _=>by
   change(if g=h then b .self else A (.copy g .self))=_;by_cases e:g=h
   ·rw[aH e,e];show G.self
   ·rw[aD e]
  change U (A .copies)=ag (.bZ (refsOf w.base.hands λg=>wF A h b (.copy g .self)));rw[e];show j .copies _ trivial (λ_ z=>nomatch z) B.copies
 ·show j .made _ trivial (λ_ z=>nomatch z) B.made
 ·let⟨vs,e,q⟩:=B.acts g c d
  show(vs,j (.acts g) _ (c,d) (λ_ z=>nomatch z) e,q.bA G.grow)
 ·rw[qi k (by rw[hl];show l) c]
  change on Z.CA Z.CC U (λr=>if g=h then b r else A (.copy g r)) w.base _;by_cases e:g=h
  ·rw[aH e]
   simp![aH e];show u
  ·rw[aD e]
   simp![aD e];show bT.keep (B.copy g c d) G.keep G.grow λr=>x (.copy g r) (c,d) λs z=> ?_;injection z with z;show e z
 ·intro aav o e n
  show G.keep aav o e λz=>n ?_;rcases z with⟨r,z⟩|z
  ·show .inl (.copy h r,(k,l),z)
  ·show .inr (.inl z)
 ·rintro aax ⟨t,a,rfl⟩
  rcases Cp G t with z|⟨z,_⟩
  ·rw[z];show .inl (t,a,J)
  ·show .inr z
end
def Q4:pW:=(273,37,273,71)
def IL:cX:=("passed_of":cX)++".<locals>."++"<lambda>"
structure Wd(Z:Cs)(H:Hp)(A:AU->Addr)(n:Nat)(w:Sw58.World)(M:SM.Made):Prop where
 bk:fW Z H A w M
 gd:SM.Good n w M
 t1:fD H Z.PT uc n9
 t2:fD H Z.P2 Q4 IL
section
variable{Z:Cs}{H U:Hp}{A:AU->az}{n:Nat}{w:fS}{M:SM.Made}
def fD.tb(h:fD H P b c):∃a,H P=ag (.oY a):=let(a,e,_):=h.at_;(a,e)
theorem Wd.same(W:Wd Z H A n w M)(S:bB H U):Wd Z U A n w M:=(W.bk.same S,W.gd,W.t1.same S,W.t2.same S)
def Wd.more(W:Wd Z H A n w M)(h:n<=m):Wd Z H A m w M:=(W.bk,W.gd.bA h,W.t1,W.t2)
theorem Wd.W0(W:Wd Z H A n w M)(h:¬fJ A w.base.hands a)(d:H a=ag u)(f:¬VN Z.CA u)(k:∀g,u≠.oY g):Wd Z (bD H a o) A n w M:=by
 let i:∀{P:az} {l:pW} {b:cX},fD H P l b->a≠P:=λt e=>by
  let⟨g,q⟩:=t.tb;rw[<-e,d] at q;cases q;show k _ rfl
 let j:∀c b,H a≠ag (qK c b):=λc b e=>by
  rw[d] at e;cases e;show f trivial
 show(W.bk.W0 h d f,W.gd,W.t1.put (i W.t1) (λc=>j c _),W.t2.put (i W.t2) (λc=>j c _))
def Wd.hl(W:Wd Z H A n w M):w.copies.length=w.base.hands:=W.gd.ok.len
theorem Wd.VG(W:Wd Z H A n w M)(ok:pq Z)(d:1<=h)(e:h<=w.base.hands)(G:vS Z.CA Z.PT H U (λr=>A (.copy h r)) a)(g:on Z.CA Z.CC U a w.base f)(T:fD U Z.PT uc n9)(i:SM.Good n (w.with_ h f) M):
  Wd Z U (wF A h a) n (w.with_ h f) M/\i7 Z H U (fJ A w.base.hands) (fJ (wF A h a) w.base.hands):=by
 let⟨b,c⟩:=W.bk.VG ok d e W.hl G g W.t1.tb;show((b,i,T,W.t2.keep G.keep G.grow λz=> ?_),c);rcases z with⟨r,z⟩|z
 ·let⟨j,q⟩:=W.t2.tb
  show W.bk.IN ok q (.copy h r,(d,e),z)
 ·show ok.pt z.symm
def E9(a:1<=h)(b:h<=w.copies.length):w.with_ h (w.copy h)=w:=by
 unfold Hw JR;let e:w.copies.set (h - 1) (w.copies.getD (h - 1) l9)=w.copies:=by
  apply j9;intro i;rw[O8];by_cases c:h - 1=i
  ·rw[aH c,aH (by lk),<-c,bS,aL (by lk)]
   rfl
  ·rw[aD c]
 rw[e]
def Wd.EO(W:Wd Z H A n w M)(ok:pq Z)(b:1<=h)(c:h<=w.base.hands)(G:vS Z.CA Z.PT H U (λr=>A (.copy h r)) a)(d:on Z.CA Z.CC U a w.base (w.copy h))(T:fD U Z.PT uc n9):
  Wd Z U (wF A h a) n w M/\i7 Z H U (fJ A w.base.hands) (fJ (wF A h a) w.base.hands):=by
 let e:=E9 b (by rw[W.hl];show c);let:=W.VG ok b c G d T (by rw[e];show W.gd);rw[e] at this;show this
theorem Wd.line(W:Wd Z H A n w M)(k:1<=h)(l:h<=w.base.hands)(a:Nat):zU w.base (fu (w.copy h).acts) a (eB w.base (w.copy h).acts a):=by
 let⟨b,_⟩:=W.gd.ok.copy h k l;let c:=W.gd.ok.made;let d:=b.Gi c;let e:=b.apart c a;let hl:=b.low c a;show(λm o q=>(Uv d hl e o λx=> ?_).symm,λx=> ?_,λi j p f g=> ?_)
 ·rw[q x,vB]
 ·rw[vG d hl,vB]
 ·rw[vB] at f g
  show e i j p f g
def Wd.Vi(W:Wd Z H A n w M)(c:1<=h)(d:h<=w.base.hands):Sa (fu (w.copy h).acts):=λk x e=>by
 let⟨b,_⟩:=W.gd.ok.copy h c d;let a:=W.gd.ok.made;let z:=ve (b.Gi a) e;show(z.wr,λq f=>om.Yv ((a.wr _ x (b.made a z.mem)).Dy q f))
theorem Wd.gone(W:Wd Z H A n w M)(c:1<=h)(d:h<=w.base.hands)(a:Nat):zV (fu (w.copy h).acts) a (qO (w.copy h).acts a):=λi=>by
 let⟨f,_⟩:=W.gd.ok.copy h c d;let b:=W.gd.ok.made;let l:=f.Gi b;cases e:fu (w.copy h).acts [2*a+1,i.1,i.2] with
 |none=>
  show .inl (J,?_);unfold qO jr;rw[e];rfl
 |some y=>
  let⟨m,o⟩:=W.Vi c d _ y e;let⟨v,g⟩:=Option.isSome_iff_exists.mp m;let j:jr (w.copy h).acts [2*a+1,i.1,i.2]=ag v:=by unfold jr;rw[e];show g
  let⟨t,k⟩:=(xW b l (λx p=>f.made b p) j).go;show .inr (y,J,?_,o);let q:qO (w.copy h).acts a i=t:=by
   unfold qO;rw[j,k];cases t<;>rfl
  rw[q,g,k]
def Wd.Br(W:Wd Z H A n w M)(b:1<=h)(c:h<=w.base.hands)(i:n<=300)(j:ax<2):(eB w.base (w.copy h).acts ax).length<=160000:=by
 let⟨u,_,_,k⟩:=(W.bk.copy h b c).pl;let⟨l,_,g⟩:=k ax j;let⟨a,_⟩:=W.gd.ok.copy h b c;let d:=W.gd.ok.made;let sub:∀x∈eB w.base (w.copy h).acts ax,x∈l.map (·.1):=λx f=>(g.mem x).mpr (((W.line b c ax).2.1 x).mp f);let m:(eB w.base (w.copy h).acts ax).Nodup:=by
  let:=bN.mp (qC (a.Gi d) (a.low d ax) (a.apart d ax));show eT (λz e=>z (by rw[e])) this
 let o:=ab2 m (λx f=>sub x f);let p:=g.len;rw[ao] at o;let:(w.copy h).acts.length<=8*300:=bC (Eg W.gd.bd a W.gd.ok.hands.2) (Nm 8 i);lk
def Wd.nj(W:Wd Z H A n w M)(d:1<=h)(e:h<=w.base.hands)(a:Nat):((eB w.base (w.copy h).acts a).map (·.2)).Nodup:=by
 let⟨b,_⟩:=W.gd.ok.copy h d e;let c:=W.gd.ok.made;show qC (b.Gi c) (b.low c a) (b.apart c a)
def Wd.He(W:Wd Z H A n w M)(a:1<=h)(b:h<=w.base.hands)(c:n<=300):(w.copy h).acts.length<=2400:=by
 let⟨d,_⟩:=W.gd.ok.copy h a b;let:(w.copy h).acts.length<=8*300:=bC (Eg W.gd.bd d W.gd.ok.hands.2) (Nm 8 c);lk
end
section
variable(P:bq)(w:World)(K:aq)(mg:Sv)(base:cT)
structure FU(x:Str)(C:Addr)(ps:List Str)(k:Nat)(sp:Sp):Prop where
 ex:∃f fd,mg x=some (.ref C)/\Mk K C f/\Binds K fd ps []/\FnOk P w K mg base Pj k f fd ps sp
end
def eC.made{K:aq}(D:-eC C "__init__" ps k sp)(a:mg x=ag (.ref C))(c:zZ K C=aC)(d:eG K (.ref C)=aC):FU P w K mg base x C ps k sp:=by
 let⟨f,g,m,b,F⟩:=D.ex;show(f,g,a,(c,m.at_,m.fn,d),b,F)
section
variable{X:Cx}{x:cX}{ps:aa cX}{k:Nat}{sp:Sp}{e:fK}{es:aa fK}{t:TA}{p afG:pW}{C:az}
def Vs(D:FU X.prog X.w X.K X.mg X.base x C ps k sp)(a:fo (k+1) X.A)(b:Gl X x)(c:PA X (e::es) t)(d:(x==("__debug__":cX))=aA:=by decide)(g:bU (e::es) X.env= #[aA,eval e X.env]::bU es X.env:=by rfl)
  (h:(jq afG (bU es X.env)).any (·.1)=aA:=by rfl):PE X (.Call (.Name x p) (e::es) [] afG) (Me C sp [] E0 t):=by
 let⟨f,l,i,M,j,F⟩:=D.ex;show Ud M F a b i j .nil Ft c d g h
def WU(D:FU X.prog X.w X.K X.mg X.base x C ps k sp)(a:fo (k+1) X.A)(b:Gl X x)(c:(x==("__debug__":cX))=aA:=by decide):PE X (.Call (.Name x p) [] [] afG) (Me C sp [] E0 wE):=by
 let⟨f,h,d,M,g,F⟩:=D.ex;show QS M F a b d g .nil Ft c
end
def UE(w:fS)(h:Int):w.hand h=(decide (1<=h)&&decide (h<=(w.base.hands:Int))):=rfl
section
universe a
variable{Z:Cs}
def bF(A:AU->az):(Ed A).lookup ("copies":cX)=ag (.ref (A .copies))/\(Ed A).lookup ("made":cX)=ag (.ref (A .made)):=(J,J)
inductive lm(Z:Cs)(a:aa V)(H:Hp)(Q:VK)(E:XK):Prop|mk:∀A W M h,a=[.ref (A .dX),.int h]->fW Z H A W M->Q (.bl (W.hand h)) H->lm Z a H Q E
def Io:bM ["self","hand"] ["self","hand"] (bo (cQ (fI 23) 2)):=cB
def XB(F:ip K Z.CB "has_hand" "Book.has_hand" (cQ (fI 23) 2) ["self","hand"])(T:dY K Z.CB iU)(b:mg "len"=au):-eC Z.CB "has_hand" ["self","hand"] 1 (lm Z):=by
 show F.def Io (λd H Q E h=> ?_) (λf j l m s H d Q E n h=> ?_)
 ·let⟨A,W,M,h,rfl,_⟩:=h
  rfl
 ·let⟨A,W,M,h,rfl,B,a⟩:=h
  show(_,aV (bP (CS jz jz aX (pv 1) (d7 cJ J b cg (ak (cA (pv 0) J) aB)))),?_)
  room
  let⟨g,i⟩:=B.self;rw[UE] at a;show(_,J,_,_,J,J,_,J,?_);by_cases c:1<=h
  ·show iu (decide_eq_true c) (_,J,A .dX,Z.CB,g,_,_,J,i,T.cl,T.na _ (by simp),(bF A).1,A .copies,_,J,.inl (eE.of B.copies),_,_,J,J,?_)
   rw[decide_eq_true c] at a;rw[xx];show a
  ·rw[decide_eq_false c] at a
   show jg (decide_eq_false c) a
inductive jT(Z:Cs)(a:aa V)(H:Hp)(Q:VK)(E:XK):Prop|mk:∀(A:AU->az) (W:fS) (M:SM.Made) (h:Nat),a=[.ref (A .dX),.int (h:Int)]->fW Z H A W M->1<=h->h<=W.base.hands->Q (.ref (A (.copy h .self))) H->jT Z a H Q E
def KQ:bM ["self","hand"] ["self","hand"] (bo (cQ (fI 23) 3)):=cB
def YG(F:ip K Z.CB "copy_of" "Book.copy_of" (cQ (fI 23) 3) ["self","hand"])(T:dY K Z.CB iU):-eC Z.CB "copy_of" ["self","hand"] 1 (jT Z):=by
 show F.def KQ (λa H Q E h=> ?_) (λf j l m s H a Q E n h=> ?_)
 ·let⟨A,W,M,h,rfl,_⟩:=h
  rfl
 ·let⟨A,W,M,h,rfl,B,b,c,d⟩:=h
  show(_,aV (bP (jm cG (cA (pv 0) J) (ij pK (pv 1) aX))),?_)
  room
  let⟨g,i⟩:=B.self;show(_,J,A .dX,Z.CB,g,_,_,J,i,T.cl,T.na _ (by simp),(bF A).1,_,J,_,_,J,J,A .copies,_,_,_,J,J,eE.of B.copies,Fn b c,d)
inductive qt(Z:Cs)(a:aa V)(H:Hp)(Q:VK)(E:XK):Prop|mk:∀(A:AU->az) (W:fS) (M:SM.Made) (h:Nat),a=[.ref (A .dX),.int (h:Int)]->fW Z H A W M->1<=h->h<=W.base.hands->Q (.ref (A (.acts h))) H->qt Z a H Q E
def KW:bM ["self","hand"] ["self","hand"] (bo (cQ (fI 23) 4)):=cB
def YL(F:ip K Z.CB "acts_of" "Book.acts_of" (cQ (fI 23) 4) ["self","hand"])(T:dY K Z.CB iU):-eC Z.CB "acts_of" ["self","hand"] 1 (qt Z):=by
 show F.def KW (λa H Q E h=> ?_) (λf j l m s H a Q E n h=> ?_)
 ·let⟨A,W,M,h,rfl,_⟩:=h
  rfl
 ·let⟨A,W,M,h,rfl,B,b,c,d⟩:=h
  show(_,aV (bP (jm cG (cA (pv 0) J) (ij pK (pv 1) aX))),?_)
  room
  let⟨g,i⟩:=B.self;show(_,J,A .dX,Z.CB,g,_,_,J,i,T.cl,T.na _ (by simp),(bF A).2,_,J,_,_,J,J,A .made,_,_,_,J,J,eE.of B.made,Fn b c,d)
inductive xY(Z:Cs)(a:aa V)(H:Hp)(Q:VK)(E:XK):Prop|mk:∀(A:AU->az) (W:fS) (M:SM.Made) (h:Nat),a=[.ref (A .dX),.int (h:Int)]->fW Z H A W M->1<=h->h<=W.base.hands->(M h).length<4096->Q (.bl aA) H->xY Z a H Q E
def KJ:bM ["self","hand"] ["self","hand"] (bo (cQ (fI 23) 5)):=cB
def YD(F:ip K Z.CB "is_full" "Book.is_full" (cQ (fI 23) 5) ["self","hand"])(T:dY K Z.CB iU)(g:mg "len"=au)(a:qI mg "MOST_ACTS" 4096)(i:-eC Z.CB "acts_of" ["self","hand"] 1 (qt Z)):-eC Z.CB "is_full" ["self","hand"] 2 (xY Z):=by
 let⟨j,a⟩:=a;show F.def KJ (λl H Q E h=> ?_) (λf y z D s H l Q E m h=> ?_)
 ·let⟨A,W,M,h,rfl,_⟩:=h
  rfl
 ·let⟨A,W,M,h,rfl,B,b,c,I,n⟩:=h
  show(_,aV (bP (tY Vu (d7 cJ J g cg (ak (bY (pv 0) T.cl i m (ak (pv 1) aB)) aB)) (fB (v:=.int 4096) J a (j,J)) (fU _))),?_)
  room
  let⟨o,q⟩:=B.self;let⟨d,r,u⟩:=B.acts h b c;let hl:=bL.length u;show(_,J,A .dX,o,_,J,q,J,_,J,A,W,M,h,J,B,b,c,A (.acts h),_,J,.inl (eE.of r),_,_,J,J,?_);let e:decide ((4096:Int)<=(d.length:Int))=aA:=decide_eq_false (by lk);change Q (.bl (decide ((4096:Int)<=(d.length:Int)))) H;rw[e];show n
inductive xZ(Z:Cs)(a:aa V)(H:Hp)(Q:VK)(E:XK):Prop|mk:∀(A:AU->az) (W:fS) (M:SM.Made) (h:Nat),a=[.ref (A .dX),.int (h:Int)]->fW Z H A W M->1<=h->h<=W.base.hands->Q (.int (((M h).length+1:Nat):Int)) H->xZ Z a H Q E
def NR:bM ["self","hand"] ["self","hand"] (bo (cQ (fI 23) 6)):=cB
def aaq(F:ip K Z.CB "coming_number" "Book.coming_number" (cQ (fI 23) 6) ["self","hand"])(T:dY K Z.CB iU)(d:mg "len"=au)(g:-eC Z.CB "acts_of" ["self","hand"] 1 (qt Z)):-eC Z.CB "coming_number" ["self","hand"] 2 (xZ Z):=by
 show F.def NR (λi H Q E h=> ?_) (λf r u v s H i Q E j h=> ?_)
 ·let⟨A,W,M,h,rfl,_⟩:=h
  rfl
 ·let⟨A,W,M,h,rfl,B,a,b,l⟩:=h
  show(_,aV (bP (ij mK (d7 cJ J d cg (ak (bY (pv 0) T.cl g j (ak (pv 1) aB)) aB)) aX)),?_)
  room
  let⟨m,n⟩:=B.self;let⟨c,o,q⟩:=B.acts h a b;let hl:=bL.length q;show(_,J,A .dX,m,_,J,n,J,_,J,A,W,M,h,J,B,a,b,A (.acts h),_,J,.inl (eE.of o),_,_,J,J,?_);let e:((c.length:Int)+1)=(((M h).length+1:Nat):Int):=by lk
  change Q (.int ((c.length:Int)+1)) H;rw[e];show l
def bQ.grows(S:bQ (·=p) H a)(h:H p=ag o)(n:¬VN c o):Grows c H a:=λb u e i=>S b u e λz=>by
 subst z;rw[h] at e;cases e;show n i
def Ou(b:gq):ki b []=bR b.hands 0:=by
 unfold ki;apply j9;intro i;rw[aF,nX];by_cases h:i<b.hands
 ·rw[gb h,aH h];rfl
 ·rw[b8 (by simpa using h),aD h];rfl
def Jq(C:bT a c H R b [] [] (λ_=>au) 0 (bR b.hands 0) 0):on a c H R b l9:=by
 change bT a c H R b [] [] (fu []) 0 (ki b []) (64*0);rw[Ou];show C.congr λk _=>rfl
def LL(b:gq)(n h:Nat):JR (b,bR n l9) h=l9:=by
 change(bR n l9).getD (h - 1) l9=l9;rw[bS,nX];split<;>rfl
def Ys(p a b:az)(f:Nat->az)(c:Nat->pN->az):AU->az
 | .dX=>p
 | .copies=>a
 | .made=>b
 | .acts h=>f h
 | .copy h r=>c h r
inductive v0(Z:Cs)(d:aa V)(H:Hp)(Q:VK)(E:XK):Prop|mk:∀(p e:az) (a:aa (cX×V)) (r c n:Nat),d=[.ref p,.int (r:Int),.int (c:Int),.int (n:Int)]->H p=ag (.lM Z.CB e a)->(a=[]\/∃f,a=Ed f)->r<=64->c<=64->n<=8->(∀b A,A .dX=p->(∀t,qJ n t->t≠.dX->H (A t)=au)->bQ (·=p) H b->fW Z b A ((r,c,n),bR n l9) (λ_=>[])->Q .jn b)->v0 Z d H Q E
def Cq:bM ["self","rows","cols","hands","k"] ["self","rows","cols","hands"] (bo (cQ (fI 23) 1)):=cB
def Yy(F:ip K Z.CB "restart" "Book.restart" (cQ (fI 23) 1) ["self","rows","cols","hands"])(ok:pq Z)(aa0:dY K Z.CB iU)(mr:mg "range"=au)(DC:-FU "Copy" Z.CC ["self","rows","cols","hands"] 3 (xt Z.CA Z.CC)):
  -eC Z.CB "restart" ["self","rows","cols","hands"] 5 (v0 Z):=by
 show F.def Cq (λvs H abD abE h=> ?_) (λf cdv A0 acW aa1 H vs abD abE hr h=> ?_)
 ·let⟨p,u,E,r,c,n,rfl,_⟩:=h
  rfl
 ·let⟨p,u,E,r,c,n,rfl,hp,hfs,hr1,hc1,hn1,acm⟩:=h
  let aa5:=Cq.nd;show(_,ay (mJ (pv 0) (CQ (own:=[#["k",4]]) J aa5 (sy J mr (ak (pv 3) aB)) (mW J) (λaa1 H abh abi Q=>fM (i:=4) aa5 J (gA J)) (λ_ _ _ _ _=>rm)
    (λaa1 H abh abi Q=>Vs DC hr J (ak (pv 1) (ak (pv 2) (ak (pv 3) aB))))) J)
   (aV (mJ (pv 0) (CQ (own:=[#["k",4]]) J aa5 (sy J mr (ak (pv 3) aB)) (mW J) (λaa1 H abh abi Q=>fM (i:=4) aa5 J (gA J)) (λ_ _ _ _ _=>rm)
    (λaa1 H abh abi Q=>d9 aB)) J)),?_)
  room
  show(_,J,(n:Int),J,by lk,by lk,λD hD=> ?_);show yr (λd x=>∃k:Nat->pN->az,bB H x/\x D=ag (.bZ (refsOf d λh=>k h .self))/\(∀h,1<=h->h<=d->bT Z.CA Z.CC x (k h) (r,c,n) [] [] (λ_=>au) 0 (bR n 0) 0/\(∀r,H (k h r)=au/\k h r≠D)/\
   ∀g,1<=g->g<=d->∀r r',k g r=k h r'->g=h)) ?_ ?_ ?_
  ·show(λ_ _=>0,bB.new hD,aw,λh j m=>by lk)
  ·rintro d x hi ⟨k,S,hL,A⟩
   rw[bE] at hi;show(J,HE (_,J,_,J,_,J,λaaC dy hx hdy hne=> ?_));show(aaC,dy,r,c,n,J,aw,hr1,hc1,hn1,λB R hRs hRn hK C2=>(J,?_));let S2:bB x B:=λb o e=>hK b o (by rw[aZ (bI e hx),aZ (bI e hdy)];show e) (bI e hx);let rn:∀a,x (R a)=au:=λa=>by
    by_cases c:a=.self
    ·rw[c,hRs];show hx
    ·let:=hRn a c
     by_cases M:R a=aaC
     ·rw[M];show hx
     ·rw[aZ M] at this
      by_cases s:R a=dy
      ·rw[s];show hdy
      ·rw[aZ s] at this;show this
   let hL2:=S2 _ _ hL;show(_,hL2,jy (by rw[xx];lk),λh=>if h=d+1 then R else k h,(S.trans S2).put hD,?_,λh j m=> ?_)
   ·rw[aw,An]
    let e:(refsOf d λh=>(if h=d+1 then R else k h) .self)=refsOf d λh=>k h .self:=tQ λacw _ hj=>by rw[aD (by lk)]
    rw[e];change _=ag (HO.bZ (_++[V.ref ((if d+1=d+1 then R else k (d+1)) .self)]));rw[aH J,hRs]
   ·let abA:Grows Z.CA B (bD B D (.bZ (refsOf d (λh=>k h .self)++[.ref aaC]))):=Grows.put hL2 (λz=>z)
    let old:∀h,1<=h->h<=d->bT Z.CA Z.CC (bD B D (.bZ (refsOf d (λh=>k h .self)++[.ref aaC]))) (k h) (r,c,n) [] [] (λ_=>au) 0 (bR n 0) 0:=λh j m=>by
     let⟨O,T,_⟩:=A h j m;show bT.keep (F:=λc=>c=D) (O.same S2) (bQ.refl.put J) abA λa z=>(T a).2 z
    let nw:bT Z.CA Z.CC (bD B D (.bZ (refsOf d (λh=>k h .self)++[.ref aaC]))) R (r,c,n) [] [] (λ_=>au) 0 (bR n 0) 0:=
     bT.keep (F:=λc=>c=D) C2 (bQ.refl.put J) abA λa z=>by
      let:=rn a;rw[z,hL] at this;cases this
    let aav:∀h,1<=h->h<=d->∀a I,k h a≠R I:=λh j m a I e=>by
     let⟨O,_⟩:=A h j m;let⟨o,y,_⟩:=O.has a;rw[e,rn I] at y;cases y
    by_cases M:h=d+1
    ·subst M
     simp![aH];show(nw,λa=>(S.free (rn a),λz=> ?_),λg U g2 a I e=> ?_)
     ·let:=rn a
      rw[z,hL] at this;cases this
     ·by_cases s:g=d+1
      ·show s
      ·rw[aD s] at e
       show absurd e (aav g U (by lk) _ _)
    ·simp![aD M]
     let⟨O,T,q3⟩:=A h j (by lk);show(old h j (by lk),T,λg U g2 a I e=> ?_);by_cases s:g=d+1
     ·rw[aH s] at e
      show absurd e.symm (aav h j (by lk) _ _)
     ·rw[aD s] at e
      show q3 g U (by lk) a I e
  ·rintro Y ⟨k,S,hL,A⟩
   rw[bE] at hL A;show(_,J,p,Z.CB,u,_,J,S _ _ hp,aa0.cl,aa0.na _ (by simp),(hfs.elim (λe=>by rw[e];change 0<1000;decide) (λ(A0,e)=>by rw[e];change 2<1000;decide)),?_);let hp1:bD Y p (.lM Z.CB u (gM "copies" (.ref D) E)) p=ag (.lM Z.CB u (gM "copies" (.ref D) E)):=aw;let hpD:=bI hp hD;let K1:bQ (·=p) H (bD Y p (.lM Z.CB u (gM "copies" (.ref D) E))):=(bQ.rA S).put J;let G1:Grows Z.CA Y (bD Y p (.lM Z.CB u (gM "copies" (.ref D) E))):=Grows.put (S _ _ hp) (λz=>ok.cb z.1);let hL1:bD Y p (.lM Z.CB u (gM "copies" (.ref D) E)) D=ag (.bZ (refsOf n λh=>k h .self)):=by rw[aZ (ff hpD)];show hL
   let hC1:∀h,1<=h->h<=n->bT Z.CA Z.CC (bD Y p (.lM Z.CB u (gM "copies" (.ref D) E))) (k h) (r,c,n) [] [] (λ_=>au) 0 (bR n 0) 0:=λh j m=>by
    let⟨O,T,_⟩:=A h j m;show bT.keep (F:=λc=>c=p) O (bQ.refl.put J) G1 λa z=>by
     let:=(T a).1;rw[z,hp] at this;cases this
   let N1:∀b,bD Y p (.lM Z.CB u (gM "copies" (.ref D) E)) b=au->H b=au:=λb e=>by
    by_cases c:b=p
    ·rw[c,aw] at e;cases e
    ·rw[aZ c] at e;show S.free e
   generalize bD _ _ _=B at hp1 K1 hL1 hC1 N1⊢;show(_,J,(n:Int),J,by lk,by lk,λv hD2=> ?_);show yr (λd x=>∃f:Nat->az,bB B x/\x v=ag (.bZ (refsOf d f))/\∀h,1<=h->h<=d->x (f h)=ag (.bZ [])/\B (f h)=au/\f h≠v/\∀g,1<=g->g<=d->f g=f h->g=h) ?_ ?_ ?_
   ·show(λ_=>0,bB.new hD2,aw,λh j m=>by lk)
   ·rintro d x hi ⟨f,S',hL',C⟩
    rw[bE] at hi;show(J,HE (bW _,λaaV hl=> ?_));let hL2:bD x aaV (.bZ []) v=ag (.bZ (refsOf d f)):=bB.new hl _ _ hL';let lD:aaV≠v:=λz=>by rw[z,hL'] at hl;cases hl
    show(_,hL2,jy (by rw[xx];lk),λh=>if h=d+1 then aaV else f h,(S'.add hl).put hD2,?_,λh j m=> ?_)
    ·rw[aw,An]
     let e:(refsOf d λh=>if h=d+1 then aaV else f h)=refsOf d f:=tQ λacw _ hj=>by rw[aD (by lk)]
     rw[e];rw[aH J]
    ·let aav:∀h,1<=h->h<=d->f h≠aaV:=λh j m e=>by
      let:=(C h j m).1;rw[e,hl] at this;cases this
     by_cases M:h=d+1
     ·subst M
      simp![aH];show(by rw[aZ lD,aw],S'.free hl,lD,λg U g2 e=> ?_);by_cases s:g=d+1
      ·show s
      ·rw[aD s] at e
       show absurd e (aav g U (by lk))
     ·simp![aD M]
      let⟨O,T,q3,q4⟩:=C h j (by lk);show(by rw[aZ q3,aZ (aav h j (by lk))];show O,T,q3,λg U g2 e=> ?_);by_cases s:g=d+1
      ·rw[aH s] at e
       show absurd e.symm (aav h j (by lk))
      ·rw[aD s] at e
       show q4 g U (by lk) e
   ·rintro H3 ⟨f,S3,hL3,C⟩
    rw[bE] at hL3 C;show(_,J,p,Z.CB,u,_,J,S3 _ _ hp1,aa0.cl,aa0.na _ (by simp),(hfs.elim (λe=>by rw[e];change 1<1000;decide) (λ(A0,e)=>by rw[e];change 2<1000;decide)),?_);let pD2:=bI hp1 hD2;let eF:gM "made" (V.ref v) (gM "copies" (.ref D) E)=Ed (Ys p D v f k):=by rcases hfs with rfl|⟨A0,rfl⟩<;>rfl
    rw[eF];let G4:Grows Z.CA H3 (bD H3 p (.lM Z.CB u (Ed (Ys p D v f k)))):=Grows.put (S3 _ _ hp1) (λz=>ok.cb z.1);let at4:∀b o,b≠p->H3 b=ag o->bD H3 p (.lM Z.CB u (Ed (Ys p D v f k))) b=ag o:=λb o hb e=>by rw[aZ hb];show e
    let Q:∀h,1<=h->h<=n->f h≠p:=λh j m e=>by
     let:=(C h j m).2.1;rw[e,hp1] at this;cases this
    let rp:∀h,1<=h->h<=n->∀a,k h a≠p:=λh j m a e=>by
     let:=((A h j m).2.1 a).1;rw[e,hp] at this;cases this
    let rt:∀h,1<=h->h<=n->∀a,∃o,B (k h a)=ag o:=λh j m a=>by
     let⟨o,y,_⟩:=(hC1 h j m).has a;show(o,y)
    show acm _ (Ys p D v f k) J (λt l hb=> ?_) ((K1.same S3).put J) (?_,(u,aw),at4 D _ (ff hpD) (S3 _ _ hL1),at4 v _ (ff pD2) hL3,λh j m=>([],at4 _ _ (Q h j m) (C h j m).1,.nil),λh j m=> ?_)
    ·cases t with
     |dX=>show absurd rfl hb
     |copies=>show hD
     |made=>show N1 _ hD2
     |acts h=>show N1 _ (C h l.1 l.2).2.1
     |copy h a=>show((A h l.1 l.2).2.1 a).1
    ·let sep:∀t L,qJ n t->qJ n L->Ys p D v f k t=Ys p D v f k L->t=L:=by
      intro t L l q e;let nD2:∀{b:az} {o:HO},B b=ag o->b≠v:=λe=>bI e hD2;let nf:∀h,1<=h->h<=n->∀{b:az} {o:HO},B b=ag o->b≠f h:=λh j m _ _ e=>bI e (C h j m).2.1;cases t with
      |dX=>cases L with
       |dX=>rfl
       |copies=>show absurd e hpD
       |made=>show absurd e pD2
       |acts h=>show absurd e.symm (Q h q.1 q.2)
       |copy h a=>show absurd e.symm (rp h q.1 q.2 a)
      |copies=>cases L with
       |dX=>show absurd e.symm hpD
       |copies=>rfl
       |made=>show absurd e (nD2 hL1)
       |acts h=>show absurd e (nf h q.1 q.2 hL1)
       |copy h a=>show absurd e.symm ((A h q.1 q.2).2.1 a).2
      |made=>cases L with
       |dX=>show absurd e.symm pD2
       |copies=>show absurd e.symm (nD2 hL1)
       |made=>rfl
       |acts h=>show absurd e.symm (C h q.1 q.2).2.2.1
       |copy h a=>let(o,y):=rt h q.1 q.2 a;show absurd e.symm (nD2 y)
      |acts g=>cases L with
       |dX=>show absurd e (Q g l.1 l.2)
       |copies=>show absurd e.symm (nf g l.1 l.2 hL1)
       |made=>show absurd e (C g l.1 l.2).2.2.1
       |acts h=>rw[(C h q.1 q.2).2.2.2 g l.1 l.2 e]
       |copy h a=>let(o,y):=rt h q.1 q.2 a;show absurd e.symm (nf g l.1 l.2 y)
      |copy g a=>cases L with
       |dX=>show absurd e (rp g l.1 l.2 a)
       |copies=>show absurd e ((A g l.1 l.2).2.1 a).2
       |made=>let(o,y):=rt g l.1 l.2 a;show absurd e (nD2 y)
       |acts h=>let(o,y):=rt g l.1 l.2 a;show absurd e (nf h q.1 q.2 y)
       |copy h I=>
        let eg:=(A h q.1 q.2).2.2 g l.1 l.2 a I e;subst eg;rw[(hC1 g l.1 l.2).inj a I e]
     show sep
    ·rw[LL]
     show Jq (bT.keep (F:=λc=>c=p) ((hC1 h j m).same S3) (bQ.refl.put J) G4 λa z=>rp h j m a z)
inductive xu(Z:Cs)(b:aa V)(H:Hp)(Q:VK)(E:XK):Prop|mk:∀p c,b=[.ref p]->H p=ag (.lM Z.CB c [])->(∀a A,A .dX=p->(∀t,qJ 1 t->t≠.dX->H (A t)=au)->bQ (·=p) H a->fW Z a A nS (λ_=>[])->Q .jn a)->xu Z b H Q E
def GC:bM ["self"] ["self"] (bo (cQ (fI 23) 0)):=cB
def VE(F:ip K Z.CB "__init__" "Book.__init__" (cQ (fI 23) 0) ["self"])(T:dY K Z.CB iU)(c:-eC Z.CB "restart" ["self","rows","cols","hands"] 5 (v0 Z)):
  -eC Z.CB "__init__" ["self"] 6 (xu Z):=by
 show F.def GC (λd H Q E h=> ?_) (λf n o q s H d Q E e h=> ?_)
 ·let⟨p,a,rfl,_⟩:=h
  rfl
 ·let⟨p,a,rfl,b,k⟩:=h
  show(_,aV (fY (bY (pv 0) T.cl c e (ak aX (ak aX (ak aX aB))))),?_);show(_,J,p,a,_,J,b,J,p,a,[],1,1,1,J,b,.inl rfl,by decide,by decide,by decide,λg A i j l m=>k g A i j l m)
end
def i7.put(a:i7 Z H d F f)(hc:F c)(g:Grows Z.CA d (bD d c o)):i7 Z H (bD d c o) F f where
 keep:=λb u e n=>by
  let:b≠c:=λz=>n (.inl (by rw[z];show hc));rw[aZ this];show a.keep b u e n
 foot:=a.foot
 grow:=a.grow.trans g
 trk:=λb h=>by
  by_cases e:b=c
  ·rw[e,aw];simp
  ·rw[aZ e];show a.trk b h
def i7.acu(a:i7 Z H b F d)(h:∀c,e c->d c):i7 Z H b F e:=(a.keep,λc z=>a.foot c (h c z),a.grow,a.trk)
def i7.add(a:i7 Z H d F e)(h:H c=Ac):i7 Z H d F (λb=>e b\/b=c):=(a.keep,λb z=>by
 rcases z with z|z
 ·show a.foot b z
 ·show .inr (by rw[z];show h),a.grow,a.trk)
def fW.ZY(B:fW Z H A w M)(l:1<=h)(m:h<=w.base.hands)(i:H (A (.acts h))=ag (.bZ d))(o:gP Z.CA H v x):fW Z (bD H (A (.acts h)) (.bZ (d++[v]))) A w (M.ext h x):=by
 let g:Grows Z.CA H (bD H (A (.acts h)) (.bZ (d++[v]))):=Grows.put i (λz=>z);let S:bQ (λc=>c=A (.acts h)) H (bD H (A (.acts h)) (.bZ (d++[v]))):=bQ.refl.put J;let n:∀t,qJ w.base.hands t->t≠.acts h->¬A t=A (.acts h):=λt p q e=>q (B.inj t _ p (l,m) e);let⟨s,e⟩:=B.self;show(B.inj,(s,S _ _ e (n .dX trivial (λz=>nomatch z))),S _ _ B.copies (n .copies trivial (λz=>nomatch z)),S _ _ B.made (n .made trivial (λz=>nomatch z)),λj a b=> ?_,λj a b=>bT.keep (B.copy j a b) S g λr=>n (.copy j r) (a,b) (λz=>nomatch z));let⟨u,f,k⟩:=B.acts j a b;by_cases c:j=h
 ·subst c
  rw[i] at f;cases f;show(_,aw,by rw[kF];show bL.snoc (k.bA g) (o.bA g))
 ·show(u,S _ _ f (n (.acts j) (a,b) (λz=>c (by injection z))),by rw[qE _ _ c];show k.bA g)
section
universe a
variable{Z:Cs}
inductive Gv(Z:Cs)(i:aa V)(H:Hp)(Q:VK)(E:XK):Prop|mk:∀(A:AU->az) (W:fS) (M:SM.Made) (n h b e:Nat) (c:aa (k9×uO)) (d:az) (g:aa (aa NK×V)),i=[.ref (A .dX),.int (h:Int),.int (b:Int),.ref d]->Wd Z H A n W M->n<=300->1<=h->h<=W.base.hands->H d=ag (.dT g)->xF H c g->(¬fJ A W.base.hands d)->wG W.base (M.ext h (ed W.base (W.copy h) h b e c)) (ed W.base (W.copy h) h b e c)->SM.Short (W.copy h) c->(b<=2/\(b=1->(kJ (M h)).1≠[])/\(b=2->(kJ (M h)).2≠[]))->(∀f,i7 Z H f (λa=>fJ A W.base.hands a\/a=d) (fJ A W.base.hands)->Wd Z f A (n+1) (W.with_ h (o9 W.base (W.copy h) h b e c)) (M.ext h (ed W.base (W.copy h) h b e c))->(∃j,f d=ag (.lH j (.dT g)))->Q .jn f)->Gv Z i H Q E
def Mp:bM ["self","hand","kind","writes","copy","act"] ["self","hand","kind","writes"] (bo (cQ (fI 23) 7)):=cB
def acK(F:ip K Z.CB "make" "Book.make" (cQ (fI 23) 7) ["self","hand","kind","writes"])(ok:pq Z)(T:dY K Z.CB iU)(v:dY K Z.CC iS)(mt:mg "tuple"=au)(DC:-eC Z.CB "copy_of" ["self","hand"] 1 (jT Z))(DA:-eC Z.CB "acts_of" ["self","hand"] 1 (qt Z))
  (DN:-eC Z.CB "coming_number" ["self","hand"] 2 (xZ Z))(DM:-FU "Act" Z.CA ["self","kind","hand","number","time","knows","writes"] 1 (zq Z.CA))(DT:-eC Z.CC "take" ["self","act"] 3 (xX Z.CA Z.CC)):
  -eC Z.CB "make" ["self","hand","kind","writes"] 4 (Gv Z):=by
 show F.def Mp (λvs H abe abh h=> ?_) (λacm cdv A0 acw acy H vs abe abh U h=> ?_)
 ·let⟨A,W,M,n,h,f,l,m,b,g,rfl,_⟩:=h
  rfl
 ·let⟨A,W,M,n,h,f,l,m,b,g,rfl,j,hn,c,d,hwr,hws,hnf,E,sh,hk,abm⟩:=h
  let aaC:=Mp.nd;let hr1:fo 1 _:=U.bA (by decide);let hr2:fo 2 _:=U.bA (by decide);show(_,ay (dW 4 aaC (bY (pv 0) T.cl DC hr1 (ak (pv 1) aB)))
   (ay (dW 5 aaC (WV (Vs DM hr2 J (ak (pv 2) (ak (pv 1) (ak (bY (pv 0) T.cl DN hr2 (ak (pv 1) aB)) (ak (ij mK (cA (pv 4) J) aX) (ak (jQ rP J mt ql (ak (cA (pv 4) J) aB)) (ak (pv 3) aB)))))))))
   (ay (fY (qy bX d6 d4 lq (bY (pv 0) T.cl DA hr1 (ak (pv 1) aB)) (ak (pv 5) aB)))
   (aV (fY (bY (pv 4) v.cl DT U (ak (pv 5) aB)))))),?_)
  room
  let B:=j.bk;let⟨dx,hs⟩:=B.self;let aaV:=B.copy h c d;let⟨dc,hc⟩:=aaV.self;let⟨co,_⟩:=j.gd.ok.copy h c d;show(_,J,A .dX,dx,_,J,hs,J,_,J,A,W,M,h,J,B,c,d,?_);show(_,J,_,J,_,J,A .dX,dx,_,J,hs,J,_,J,A,W,M,h,J,B,c,d,_,J,A (.copy h .self),Z.CC,dc,_,_,J,hc,v.cl,v.na _ (by simp),(cF _ _).1,_,_,J,J,_,J,A (.copy h .self),Z.CC,dc,_,_,J,hc,v.cl,v.na _ (by simp),(cF _ _).2.1,A (.copy h .eV),_,J,.inl (eE.of aaV.eV,λt ht=>(_,J,λx e p I hne=> ?_)));show(x,e,_,_,_,_,_,_,J,aw,J,b,.dT g,?_,trivial,λk=> ?_)
  ·let i:bD H t (.dC ((ki W.base (W.copy h).acts).map λ(n:Nat)=>V.int (n:Int))) b=ag (.dT g):=bB.new ht _ _ hwr
   rw[aZ (bI i p),aZ (bI i p),aZ (bI i I)];show i
  let xT:t≠x:=λz=>by rw[<-z,aw] at p;cases p
  let abn:t≠e:=λz=>by rw[<-z,aw] at I;cases I
  let y:bB H (bD (bD (bD (bD H t (.dC ((ki W.base (W.copy h).acts).map λ(n:Nat)=>V.int (n:Int)))) e (.own x)) x (.lM Z.CA e [])) x
    (.lM Z.CA e [#["kind",.int (f:Int)],#["hand",.int (h:Int)],#["number",.int (((M h).length+1:Nat):Int)],#["time",.int ((p8 (W.copy h).acts:Int)+1)],#["knows",.ref t],#["writes",.ref b]])):=λabo abA abB=>by
   let i:bD H t (.dC ((ki W.base (W.copy h).acts).map λ(n:Nat)=>V.int (n:Int))) abo=ag abA:=bB.new ht _ _ abB;rw[aZ (bI i p),aZ (bI i p),aZ (bI i I)];show i
  let aa0:bD (bD (bD (bD H t (.dC ((ki W.base (W.copy h).acts).map λ(n:Nat)=>V.int (n:Int)))) e (.own x)) x (.lM Z.CA e [])) x
    (.lM Z.CA e [#["kind",.int (f:Int)],#["hand",.int (h:Int)],#["number",.int (((M h).length+1:Nat):Int)],#["time",.int ((p8 (W.copy h).acts:Int)+1)],#["knows",.ref t],#["writes",.ref b]]) t=ag (.dC ((ki W.base (W.copy h).acts).map λ(n:Nat)=>V.int (n:Int))):=by
   rw[aZ xT,aZ xT,aZ abn,aw]
  let aa1:bD (bD (bD (bD H t (.dC ((ki W.base (W.copy h).acts).map λ(n:Nat)=>V.int (n:Int)))) e (.own x)) x (.lM Z.CA e [])) x
    (.lM Z.CA e [#["kind",.int (f:Int)],#["hand",.int (h:Int)],#["number",.int (((M h).length+1:Nat):Int)],#["time",.int ((p8 (W.copy h).acts:Int)+1)],#["knows",.ref t],#["writes",.ref b]]) x=ag (.lM Z.CA e (JA (ed W.base (W.copy h) h f l m) t b)):=by
   rw[aw];let e1:((p8 (W.copy h).acts:Int)+1)=((ed W.base (W.copy h) h f l m).time:Int):=by
    change _=((1+p8 (W.copy h).acts:Nat):Int);lk
   let e2:(((M h).length+1:Nat):Int)=((ed W.base (W.copy h) h f l m).number:Int):=by
    change _=((de (W.copy h).acts h+1:Nat):Int);rw[(j.gd.ok.own h c d)]
   rw[e1,e2];rfl
  generalize bD (bD (bD (bD H t (.dC ((ki W.base (W.copy h).acts).map λ(n:Nat)=>V.int (n:Int)))) e (.own x)) x (.lM Z.CA e [])) x
    (.lM Z.CA e [#["kind",.int (f:Int)],#["hand",.int (h:Int)],#["number",.int (((M h).length+1:Nat):Int)],#["time",.int ((p8 (W.copy h).acts:Int)+1)],#["knows",.ref t],#["writes",.ref b]])=s at y aa0 aa1⊢
  let aa5:=y _ _ hwr;let o:Wd Z (bD s b (.lH k (.dT g))) A n W M:=(j.same y).W0 hnf aa5 (λz=>z) (λ_ z=>nomatch z);let L:Grows Z.CA s (bD s b (.lH k (.dT g))):=Grows.put aa5 (λz=>z);let Y:gP Z.CA (bD s b (.lH k (.dT g))) (.ref x) (ed W.base (W.copy h) h f l m):=(x,e,t,b,k,g,J,L x _ aa1 (J,J),L.dC aa0,aw,(hws.bA (CA:=Z.CA) y.grows).bA L);let c2:i7 Z H (bD s b (.lH k (.dT g))) (λa=>fJ A W.base.hands a\/a=b) (λa=>fJ A W.base.hands a\/a=b):=(i7.same y).put (.inr rfl) L;let aa7:bD s b (.lH k (.dT g)) b=ag (.lH k (.dT g)):=aw;generalize bD _ _ _=O at o Y c2 aa7⊢;let⟨dx2,hs2⟩:=o.bk.self;let⟨us,u,hua⟩:=o.bk.acts h c d;let hul:=bL.length hua;let hMl:=j.gd.bd.len h;show(_,J,A .dX,dx2,_,J,hs2,J,_,J,A,W,M,h,J,o.bk,c,d,.inl (J,_,eE.of u),_,J,A (.acts h),_,_,J,J,u,jy (by lk),?_);let G3:Grows Z.CA O (bD O (A (.acts h)) (.bZ (us++[.ref x]))):=Grows.put u (λz=>z);let Q:=o.bk.ZY c d u Y;let abb:=Y.bA G3;let c3:=c2.put (.inl (.acts h,(c,d),J)) G3;let abc:=G3.lH aa7;let tk:∀{P:az} {C:pW} {D:cX},fD O P C D->fD (bD O (A (.acts h)) (.bZ (us++[.ref x]))) P C D:=λt=>by
   let⟨ps,q⟩:=t.tb;show t.put (λz=> ?_) (λacX z=> ?_)
   ·rw[<-z,u] at q;cases q
   ·rw[u] at z;cases z
  let t13:=tk o.t1;let t23:=tk o.t2;generalize bD _ _ _=H3 at Q abb c3 abc t13 t23⊢;let C3:=Q.copy h c d;let⟨dc3,hc3⟩:=C3.self;let acg:=E.LB;let hal:(W.copy h).acts.length<=2400:=j.He c d hn;show(_,J,A (.copy h .self),dc3,_,J,hc3,J,_,J,A (.copy h .self),.ref x,ed W.base (W.copy h) h f l m,(λr=>A (.copy h r)),W.base,(W.copy h).acts,(W.copy h).waits,_,_,_,_,J,J,C3,abb,λq hq=>om.Yv (E.Dy q hq),E.nd,c,(by rw[mw];show d),by lk,(by change 64*(W.copy h).acts.length+_<500000;lk),λH4 K4 G4 C4=> ?_);let C5:on Z.CA Z.CC H4 (λr=>A (.copy h r)) W.base (o9 W.base (W.copy h) h f l m):=by
   rw[Rk];show HS c d acg C4
  let⟨B5,c5⟩:=Q.VG ok c d j.hl (vS.own K4 G4 C5) C5 t13.tb;rw[wd] at B5 c5;let nF:∀{P:az} {C:pW} {D:cX},fD H3 P C D->fD H4 P C D:=λt=>by
   let⟨ps,q⟩:=t.tb;show t.keep K4 G4 λ(r,z)=>Q.IN ok q (.copy h r,(c,d),z)
  show abm H4 ((c3.acu λa z=>.inl z).trans c5) (B5,j.gd.does c d E sh hk,nF t13,nF t23) (k,G4.lH abc)
end
def Ox{K:aq}{g:TG}{k:TS}{D:Ends}{b:L2.St}{H:Hp}(Pv:Nat->L2.St->Hp->Prop)(o:Pv 0 b H)(hl:∀i b H,i<=c.length->Pv i b H->gg K H a c)
  (r:∀i x T b H,c[i]?=ag x->H T=au->Pv i b H->g (.ref T) b (bD H T (.dC [.int (i:Nat),x])) λf h=>k {D with nx:=Pv (i+1),ct:=Pv (i+1),bk:=D.nx} f h)(s:∀b H,Pv c.length b H->D.nx b H):
  ∃W:Nat->Nat->L2.St->Hp->Prop,(∃m,W 0 m b H)/\∀i m b H,W i m b H->
   ((Si K a).stop i H/\D.nx b H)\/((Si K a).go i H/\∃N:L2.St->Hp->Prop,(∀j d,N j d->∃l,l<m/\W (i+1) l j d)/\∀x d,(Si K a).Pg i H x d->g x b d λf h=>k {D with nx:=N,ct:=N,bk:=D.nx} f h):=by
 show(λi m b H=>m=c.length - i/\i<=c.length/\Pv i b H,(c.length,by simp,bW _,o),?_);rintro i m b H ⟨rfl,t,p⟩;let q:=hl i b H t p;by_cases n:i<c.length
 ·show .inr ((c,c[i],q,by simp[n]),Pv (i+1),λj d u=>(c.length -(i+1),by lk,J,n,u),λx d y=> ?_)
  let⟨T,v,rfl,hT,rfl,y⟩:=y;show r i v T b H (y c q) hT p
 ·let e:i=c.length:=by lk
  subst e;show .inl ((c,q,aS _),s b H p)
def XG(a:aa V)(m:Nat):pM a au (ag (m:Int))=a.take m:=by
 unfold pM;rw[Cw,rj,wC,Nat.sub_zero];by_cases h:m<=a.length
 ·rw[j6 h]
 ·rw[Bd (by lk),cu,oy (by lk)]
theorem bL.take:∀{l:aa a} {m:aa b} (n:Nat),SM.bL R l m->SM.bL R (l.take n) (m.take n)
 |_,_,0,_=>by rw[ox,ox];show .nil
 |_,_,n+1,.nil=>.nil
 |_,_,n+1,.cons h t=>.cons h (bL.take n t)
def XY(a:az)(H:Hp)(k:k9)(o:ae Act)(v:V):Prop:=(o=au/\v=.jn)\/∃x,o=ag x/\gP a H v x/\(eM x k).isSome=aC/\∀w∈x.writes,yI w.1
theorem XY.bA(g:Grows CA H a)(h:XY CA H k o v):XY CA a k o v:=by
 rcases h with h|⟨x,b,c,d⟩
 ·show .inl h
 ·show .inr (x,b,c.bA g,d)
def Lq(M:SM.Made)(n:Nat)(a:Nat->Nat):iP M (n+1) a=iP M n a++(M (n+1)).take (a (n+1)):=by
 unfold iP;rw[uU,jc];simp
section
universe a
variable{Z:Cs}
inductive Gp(Z:Cs)(c:aa V)(H:Hp)(Q:VK)(E:XK):Prop|mk:∀(A:AU->az) (W:fS) (M:SM.Made) (t d:az) (k:k9) (a:aa Nat),c=[.ref (A .dX),.ref t,.ref d]->fW Z H A W M->yI k->uN H t k->H d=ag (.dC (a.map λ(n:Nat)=>V.int (n:Int)))->a.length=W.base.hands->(∀h,∀x∈M h,∀w∈x.writes,yI w.1)->(∀b v y,bB H b->v=(jr (iP M W.base.hands λg=>a.getD (g - 1) 0) k).getD (vL k)->mX b k v y->Q y b)->Gp Z c H Q E
def Ie:bM ["self","target","knows","counting","k","many","act"] ["self","target","knows"] (bo (cQ (fI 23) 8)):=cB
def abq(F:ip K Z.CB "stood" "Book.stood" (cQ (fI 23) 8) ["self","target","knows"])(aa0:dY K Z.CB iU)(TA:dY K Z.CA rK)(me:mg "enumerate"=au)(DL:-eC Z.CA "is_later" ["self","other"] 1 (Wz Z.CA wO))
  (DF:-ig "at_first" ["target"] 2 wb):-eC Z.CB "stood" ["self","target","knows"] 3 (Gp Z):=by
 show F.def Ie (λvs H abc abd aax=> ?_) (λabN cdv A0 acg acm H vs abc abd L aax=> ?_)
 ·let⟨A,W,M,t,N,k,d,rfl,_⟩:=aax
  rfl
 ·let⟨A,W,M,t,N,k,d,rfl,abe,hk,ht,hkn,hkl,hko,kq⟩:=aax
  let u:=Ie.nd;let hr1:fo 1 _:=L.bA (by decide);show(_,ay (dW 3 u kP)
   (ay (nz dE J (QQ J me (ak (pv 2) aB)) (K9 J (sA (fM (i:=4) u J (gA J)) (sA (fM (i:=5) u J (gA J)) GO)))
    (aV (nz dE J (mv (qw x6 (jm cG (cA (pv 0) J) (pv 4)) Bo (oZ (pv 5)))) (fM (i:=6) u J (gA J))
     (aV (fO (PW.pt (oS (xA (GP (uX L) (pv 1) (cA (pv 6) J)) J) (n8 (PW.pt (yj (fL rO (pv 3) kP (fU _)) (tT (io (bY (pv 6) TA.cl DL hr1 (ak (pv 3) aB)))))))))
      (aV (dW 3 u (pv 6))) dH)))))
   (aV (bP (mV (fL rO (pv 3) kP (fU _)) (dU DF L J (ak (pv 1) aB)) (kQ (uX L) (cA (pv 3) J) (pv 1) (λ_ _=>rfl)))))),?_)
  room
  let kng:∀a,d.getD (a+1 - 1) 0=d.getD a 0:=λa=>rfl;show(_,J,N,_,J,gg.of hkn,Ox (λa e b=>∃(c:V) (v4 v5 q:ae V),e=[ag (.ref (A .dX)),ag (.ref t),ag (.ref N),ag c,v4,v5,q]/\bB H b/\XY Z.CA b k (fu (iP M a λg=>d.getD (g - 1) 0) k) c) ?_ (λa e b _ (_,_,_,_,_,S,_)=>gg.of (S _ _ hkn)) ?_ ?_)
  ·show(.jn,au,au,au,J,λ_ _ z=>z,.inl (J,J))
  ·rintro a x O e b hi hT ⟨c,v4,v5,q,rfl,S,Q⟩
   rw[aF] at hi;let⟨m,y,rfl⟩:=bv.mp hi;let hil:a<d.length:=(List.getElem?_eq_some_iff.mp y).1;let emg:d.getD a 0=m:=by rw[bS,y];rfl
   let T:bB H (bD b O (.dC [.int (a:Nat),.int (m:Int)])):=S.add hT;let hC1:XY Z.CA (bD b O (.dC [.int (a:Nat),.int (m:Int)])) k (fu (iP M a λg=>d.getD (g - 1) 0) k) c:=Q.bA (bB.new hT).grows;let U:=abe.same T;show(O,_,J,gg.of aw,J,_,_,J,_,_,J,J,?_);generalize bD b O (.dC [.int (a:Nat),.int (m:Int)])=Y at T hC1 U⊢;let⟨dx,hs⟩:=U.self;let⟨f,hu,hua⟩:=U.acts (a+1) (by lk) (by lk);show(_,J,A .dX,Z.CB,dx,_,_,J,hs,aa0.cl,aa0.na _ (by simp),(bF A).2,_,J,A .made,_,_,_,J,J,eE.of U.made,b9 (Cz (h:=a+1) (by lk) (by lk)),_,J,_,J,A (.acts (a+1)),f,J,eE.of hu,λl hl=> ?_);rw[XG];let B:bB H (bD Y l (.bZ (f.take m))):=T.add hl;let hL2:bD Y l (.bZ (f.take m)) l=ag (.bZ (f.take m)):=aw;let hA2:sM Z.CA (bD Y l (.bZ (f.take m))) (f.take m) ((M (a+1)).take m):=bL.take m (hua.bA (bB.new hl).grows);let hC2:=hC1.bA (bB.new (o:=.bZ (f.take m)) hl).grows;let hln:H l=au:=T.free hl;generalize bD Y l (.bZ (f.take m))=H2 at B hL2 hA2 hC2⊢;show(l,J,(_,eE.of hL2),pj (λj e b=>∃(c:V) (q:ae V),e=[ag (.ref (A .dX)),ag (.ref t),ag (.ref N),ag c,ag (.int (a:Nat)),ag (.int (m:Int)),q]/\bB H2 b/\
    XY Z.CA b k (fu ((iP M a λg=>d.getD (g - 1) 0)++((M (a+1)).take m).take j) k) c) ?_ (λj e b _ (_,_,_,S,_)=>eE.of (S _ _ hL2)) ?_ ?_)
   ·show(c,_,J,λ_ _ z=>z,by rw[ox,dz];show hC2)
   ·rintro j aaG e b hj ⟨c,q,rfl,n,C⟩
    let⟨x,hx,hxa⟩:=bL.get hA2 hj;let hxM:x∈M (a+1):=J9 (bg hx);let okx:=hko _ x hxM;let hx3:gP Z.CA b aaG x:=hxa.bA n.grows;let⟨abb,dp,kx,wr,od,kvs,rfl,g1,g2,g3,g4⟩:=id hx3.at_;let htg:uN b t k:=(B.trans n).pI ht;let etk:((M (a+1)).take m).take (j+1)=((M (a+1)).take m).take j++[x]:=by rw[cE,hx];rfl
    rw[etk,<-dO];rw[vf];show(_,J,_,J,abb,Z.CA,dp,_,_,J,g1,TA.cl,TA.na _ (by simp),kM ..,wr,_,J,.inr (kvs,kk k,t,.inr (od,g3),J,htg,J),_,J,?_);rcases g4.pQ okx hk with⟨s,p⟩|⟨v,z,s,p,e3⟩
    ·rw[s]
     show jg J (jg J (c,_,J,n,?_));rw[BK p];show C
    ·rw[s]
     let D:(eM x k).isSome=aC:=by rw[p];rfl
     show iu J (_,J,J,_,J,?_);rcases C with⟨r,rfl⟩|⟨E,r,I,c3,c4⟩
     ·show iu J (iu J (_,J,_,_,J,n,?_))
      rw[r,Af D];show .inr (x,J,hx3,D,okx)
     ·let⟨p3,d3,k3,w3,o3,q3,rfl,y1,_⟩:=id I.at_
      show jg (decide_eq_false (λz=>nomatch z)) (_,J,abb,dp,_,J,g1,J,_,J,_,_,x,E,J,hx3,I,λH4 S4=>(_,J,?_));rw[r];cases y:wO x E with
      |true=>
       show iu J (_,J,_,_,J,n.trans S4,?_);rw[BL D y];show .inr (x,J,hx3.bA S4.grows,D,okx)
      |false=>
       show jg J (_,_,J,n.trans S4,?_);rw[BM D y];show .inr (E,J,I.bA S4.grows,c3,c4)
   ·rintro e b ⟨c,q,rfl,n,C⟩
    show(c,_,_,_,J,B.trans n,?_);let abE:((M (a+1)).take m).take (f.take m).length=(M (a+1)).take m:=by rw[bL.length hA2,cu]
    rw[abE] at C;rw[Lq];change XY Z.CA b k (fu ((iP M a λg=>d.getD (g - 1) 0)++(M (a+1)).take (d.getD a 0)) k) c;rw[emg];show C
  ·rintro e b ⟨c,v4,v5,q,rfl,S,Q⟩
   rw[ao,hkl] at Q;show(_,J,J,_,J,?_);rcases Q with⟨r,rfl⟩|⟨E,r,I,c3,c4⟩
   ·show iu J (_,J,t,k,J,hk,S.pI ht,λH2 aaG B hy=>kq H2 _ aaG (S.trans B) ?_ hy)
    unfold jr;rw[r];rfl
   ·let⟨p3,d3,k3,w3,o3,q3,rfl,y1,y2,y3,y4⟩:=id I.at_
    let⟨v,hv⟩:=Option.isSome_iff_exists.mp c3;show jg (decide_eq_false (λz=>nomatch z)) ?_;rcases y4.pQ c4 hk with⟨s,p⟩|⟨v',z,s,p,e3⟩
    ·rw[hv] at p;cases p
    ·show(_,J,p3,Z.CA,d3,_,_,J,y1,TA.cl,TA.na _ (by simp),kM ..,_,J,w3,_,J,.inr (_,_,_,.inr (_,y3),J,S.pI ht,s.symm),kq b v' z S ?_ e3)
     unfold jr;rw[r];change _=(eM E k).getD _;rw[p];rfl
end
inductive IFC(K:aq)(mg:Sv)(x:cX)(st:qc)(a:aa cX)(c:az):Prop|mk:∀(f:az) (h:aE) (i:ae az) (kV b d:aE) (e:ae az) (g:aE) (j:af (ae aE)),mg x=ag (.ref f)->K.lookup f=ag (h,i,.func (eU x x (ku st) (iB st) (bo st) .none kV b d e (.ref c) g),j)->ju K (.ref c) x=aC->eG K (.ref f)=aC->Binds K (eU x x (ku st) (iB st) (bo st) .none kV b d e (.ref c) g) a []->IFC K mg x st a c
structure UY(K:PySem.W.Frag)(mg:Sv)(x:Str)(st:Stmt)(ps:List Str)(c:Addr):Prop where
 ex:IFC K mg x st ps c
section
universe a
def UY.def{x:cX}{st:qc}{N b:aa cX}{k:Nat}{d:Sp}{c:az}(F:UY K mg x st b c)(S:bM N b (bo st))(len:∀a H Q E,d a H Q E->a.length=b.length)
  (g:∀(f:az) (A:dG) (e:aa L8) (s:br) (H:Hp) (a:aa V) (Q:VK) (E:XK),fo k (A.deeper (sQ x (bo st) s.heap.objs.size f (.ref c)))->d a H Q E->
   ∃t,JE (DY Pj P w K mg base N x (bo st) f (.ref c) A e s H E).IM (iB st) t/\t {nx:=λ_ i=>Q .jn i,rt:=Q} (start N a) H):ig P w K mg base x b (k+1) d:=by
 let⟨f,r,u,kV,v,y,z,B,C,j,lk,l,m,n⟩:=F.ex;show(f,_,j,m,n,RJ lk l S len λA e s H a Q E o p=> ?_);let⟨t,h,q⟩:=g f A e s H a Q E o p;show(t,h.IM,q)
end
def RC(H:Hp)(a:az):Int×Int:=match H a with
 |some (.lM _ _ b)=> #[(match b.lookup ("hand":cX) with|some (.int i)=>i|_=>0),(match b.lookup ("number":cX) with|some (.int i)=>i|_=>0)]
 |_=> #[0,0]
def Dn(h:gP f H (.ref a) x):RC H a=yx x/\∃b c,H a=ag (.lM f b c)/\c.lookup ("hand":cX)=ag (.int (yx x).1)/\c.lookup ("number":cX)=ag (.int (yx x).2):=by
 let⟨p,b,g,i,j,k,e,d,_⟩:=h.at_;cases e;show(?_,b,_,d,kI ..,kN ..);unfold RC;rw[d];rfl
def OQ:∀{c:aa V} {l:aa Act},sM d H c l->∃b:aa az,c=b.map V.ref/\SM.bL (λa x=>gP d H (.ref a) x) b l:=by
 intro _ _ z;induction z with
 |nil=>
  show([],J,.nil)
 |cons h t f=>
  let⟨b,rfl,q⟩:=f;let⟨p,g,i,j,k,m,e,_⟩:=id h.at_;subst e;show(p::b,J,.cons h q)
def R9:∀{l:aa e} {m:aa f},SM.bL R l m->∃c:aa (e×f),l=c.map (·.1)/\m=c.map (·.2)/\∀z∈c,R z.1 z.2:=by
 intro _ _ z;induction z with
 |nil=>
  show([],J,J,λz d=>nomatch d)
 | @cons a b _ _ h t g=>
  let⟨c,i,j,k⟩:=g;show(#[a,b]::c,by rw[i];rfl,by rw[j];rfl,λz d=> ?_);rcases aT.mp d with q|q
  ·rw[q];show h
  ·show k z q
theorem HD:∀{a:aa (c×d)},(∀z∈a,R z.1 z.2)->SM.bL R (a.map (·.1)) (a.map (·.2))
 |[],_=>.nil
 |z::a,h=>.cons (h z (aQ ..)) (HD λy b=>h y (aM _ b))
def HY(h:SM.bL (λa x=>gP g H (.ref a) x) p l)(i:Sk l)(r:j.Perm p)(s:j.Pairwise λy z=>¬sC (RC H z) (RC H y)):SM.bL (λa x=>gP g H (.ref a) x) j (iT l):=by
 let⟨t,rfl,rfl,u⟩:=R9 h;let⟨k,m,rfl⟩:=sB r;let d:∀y∈k,gP g H (.ref y.1) y.2:=λy q=>u y (m.mem_iff.mp q);let e:k.map (·.2)=iT (t.map (·.2)):=by
  let n:=m.map (·.2);show Jz ?_ (LK i) λx=> ?_
  ·let v:=(n.pairwise_iff (λ{a b} h=>by rw[Fz];show h)).mpr i
   show bN.mpr (jD (λ{x y} A B q=> ?_) (List.pairwise_and_iff.mpr ((bN.mp s),(bN.mp v))));let⟨f,o⟩:=q;rw[(Dn (d x A)).1,(Dn (d y B)).1] at f;rw[lT];let C:¬(x.2.hand=y.2.hand/\x.2.number=y.2.number):=λc=>by
    rw[lS.mpr c] at o;cases o
   unfold sC yx at f;simp only at f;lk
  ·rw[Ec];show n.mem_iff
 rw[<-e];show HD d
def CF(l:aa Act)(a:Act)(w:k9×uO):ae (aa Int):=match fu l w.1 with
 |some x=>if e8 x a=aC\/a.number<=iY x a.hand then au else ag [(a.hand:Int),(a.number:Int),((w.1.headD 0:Nat):Int),(x.hand:Int),(x.number:Int)]
 |none=>au
def tZ(l b:aa Act):aa (aa Int):=b.flatMap λa=>a.writes.filterMap (CF l a)
def zz(l:aa Act):dw l=tZ l (iT l):=rfl
section
universe a
variable{Z:Cs}
inductive Cc(Z:Cs)(e:aa V)(H:Hp)(Q:VK)(E:XK):Prop|mk:∀a R b M c,e=[.ref a]->R .self=a->on Z.CA Z.CC H R b c->dv b M->cK b M c->fD H Z.P2 Q4 IL->c.acts.length<1000000->(dw c.acts).length<1000000->(dw c.acts).flatten.length<1000010->(∀d l,bQ (·=Z.P2) H d->Grows Z.CA H d->(∀b,H b≠au->d b≠au)->fD d Z.P2 Q4 IL->H l=au->d l=ag (.bZ ((((dw c.acts).length:Nat):Int)::(dw c.acts).flatten|>.map V.int))->Q (.ref l) d)->Cc Z e H Q E
def ye:bM ["copy","many","told","act","target","other"] ["copy"] (bo (fI 39)):=cB
def VC{c0:az}(F:UY K mg "passed_of" (fI 39) ["copy"] c0)(ok:pq Z)(aaC:dY K Z.CC iS)(TA:dY K Z.CA rK)(ms:mg "sorted"=au)(CH:qf base c0 Z.P2)(ac1:base.BuiltinsAt mg Z.P2)(hgP:fj≠Z.P2)
  (DS:-eC Z.CA "is_same" ["self","other"] 1 (Wz Z.CA e8))(DK:-eC Z.CA "knew" ["self","other"] 1 (Kx Z.CA)):-ig "passed_of" ["copy"] 3 (Cc Z):=by
 show F.def ye (λvs H aaE ac6 aaG=> ?_) (λadY adZ ad0 ad1 H vs aaE ac6 U aaG=> ?_)
 ·let⟨a,R,aa5,ac7,c,rfl,_⟩:=aaG
  rfl
 ·let⟨a,R,aa5,ac7,c,rfl,rfl,C,L,co,TB,hal,hpl,hpf,ac8⟩:=aaG
  let O:=ye.nd;let hr1:fo 1 _:=U.bA (by decide);show(_,ay (dW 1 O aX) (ay (dW 2 O (d9 aB))
   (ay (nz dE J (mv (Fs (LJ J (dp2 U)) J ms pU (ak (cA (pv 0) J) aB) (Mz (QT J J J CH ac1 hgP) QN))) (fM (i:=3) O J (gA J))
    (aV (nz dE J (GN (cA (pv 3) J)) (fM (i:=4) O J (gA J))
     (ay (dW 5 O (kQ (uX U) (cA (pv 0) J) (pv 4) (λ_ _=>rfl)))
     (aV (fO (je (PW.pt (yj (io (bY (pv 5) TA.cl DS hr1 (ak (pv 3) aB))) (tT (io (bY (pv 5) TA.cl DK hr1 (ak (pv 3) aB)))))))
      (ay (GK (i:=1) O J (gA J) aX Dk)
      (aV (fY (qy bX mP mO wj (pv 2) (ak (d9 (ak (cA (pv 3) J) (ak (cA (pv 3) J) (ak (jm ef (pv 4) aX) (ak (cA (pv 5) J) (ak (cA (pv 5) J) aB)))))) aB)))))
      dH))))))
   (aV (bP (ij Lg (d9 (ak (pv 1) aB)) (pv 2)))))),?_)
  room
  let⟨dx,hs⟩:=C.self;let⟨vs,hcm,hca⟩:=C.kH;let⟨as,rfl,adb⟩:=OQ hca;show(bW _,λt ht=> ?_);let Y:bB H (bD H t (.bZ [])):=bB.new ht;let ht0:bD H t (.bZ []) t=ag (.bZ []):=aw;generalize bD H t (.bZ [])=H0 at Y ht0⊢;show(_,J,R .self,Z.CC,dx,_,_,J,Y _ _ hs,aaC.cl,aaC.na _ (by simp),(cF R _).2.2.1,?_);dsimp only[wE,BX];show Rr (CA:=Z.CA) (TB.same Y) λk f' c' ctv KL GL TL hf hc'=> ?_;let tP:t≠Z.P2:=TB.ne ht;let KH:bQ (λx=>x=Z.P2) H k:=(bQ.rA Y).trans KL;let GH:Grows Z.CA H k:=Y.grows.trans GL;let nP:∀r,R r≠Z.P2:=λr z=>by
   let⟨o,ho,hn,_⟩:=bT.has C r;let⟨ps0,hp0⟩:=TB.tb;rw[z,hp0] at ho;cases ho;show hn _ rfl
  let hcL:k (R .kH)=ag (.bZ (as.map V.ref)):=KH _ _ hcm (nP _);let abo:SM.bL (λa x=>gP Z.CA k (.ref a) x) as c.acts:=bL.imp (λ_ _ z=>z.bA GH) adb;let htL:k t=ag (.bZ []):=KL _ _ ht0 tP;let abB:∀x,H x≠au->k x≠au:=λx I=>by
   by_cases e:x=Z.P2
   ·let⟨ps0,hp0⟩:=TL.tb
    rw[e,hp0];simp
   ·cases q:H x with
    |none=>show absurd q I
    |some o=>rw[KH _ _ q e];simp
  let CL:on Z.CA Z.CC k R aa5 c:=bT.keep C KH GH λr=>nP r;show(R .kH,f',c',Z.CA,as,RC k,_,_,_,_,_,_,_,_,_,_,_,_,_,_,_,J,J,eE.of hcL,hf,hc',(λ_ _=>rfl,J,J,J,J,J,by lia),TA.cl,TA.na _ (by simp),TA.na _ (by simp),λa ha=> ?_,λM aaV hD ady adz=> ?_)
  ·let⟨d,hi⟩:=List.mem_iff_getElem?.mp ha
   let⟨x,_,I⟩:=bL.get abo hi;let⟨e1,Q,fs,e2,e3,e4⟩:=Dn I;show(Q,fs,e2,by rw[e1];show e3,by rw[e1];show e4)
  let hbA:=HY abo (co.acC L) ady adz;let A:bB k (bD k M (.bZ (aaV.map V.ref))):=bB.new hD;let hD1:bD k M (.bZ (aaV.map V.ref)) M=ag (.bZ (aaV.map V.ref)):=aw;let tD:t≠M:=λz=>by rw[<-z,htL] at hD;cases hD
  let hu:=co.Gi L;generalize bD k M (.bZ (aaV.map V.ref))=B at A hD1⊢;let hDn:k M=au:=hD;let' told:aa (aa Int)->aa V:=λls=>ls.flatten.map V.int;let nF:∀r,R r≠t:=λr z=>by
   let⟨o,ho,_⟩:=bT.has C r;rw[z,ht] at ho;cases ho
  let nI:∀{g:Hp} {ls:aa V},g t=ag (.bZ ls)->∀ls',Grows Z.CA g (bD g t (.bZ ls')):=λe ls'=>Grows.put e (λz=>z);show(M,J,(_,eE.of hD1),pj (D:={nx:=λl h=>Wl (Mc WL (Zw (BX (vm 1) wE)) (vm 2)) {nx:=λ_ h=>aaE .jn h,rt:=aaE} l h,rt:=aaE}) (λd l h=>∃v3 m n:ae V,l=[ag (.ref (R .self)),ag (.int (((tZ c.acts ((iT c.acts).take d)).length:Nat):Int)),ag (.ref t),v3,m,n]/\bQ (·=t) B h/\Grows Z.CA B h/\h t=ag (.bZ (told (tZ c.acts ((iT c.acts).take d))))) ?_
   (λd l h _ (_,_,_,_,KB,_)=>eE.of (KB _ _ hD1 (ff tD))) ?_ ?_)
  ·show(au,au,au,J,bQ.refl,Grows.refl,(A _ _ htL))
  ·rintro d y l h hi ⟨v3,m,n,rfl,KB,G',hT⟩
   rw[aF] at hi;let⟨p,hp,rfl⟩:=bv.mp hi;let⟨x,I,hxa⟩:=bL.get hbA hp;let hxm:x∈c.acts:=(Ec _ _).mp (bg I);let hxM:=co.made L hxm;let wok:=L.wr _ x hxM;let okx:∀w∈x.writes,yI w.1:=λw hw=>om.Yv (wok.Dy w hw);let hx1:gP Z.CA B (.ref p) x:=hxa.bA A.grows;let etk:(iT c.acts).take (d+1)=(iT c.acts).take d++[x]:=by rw[cE,I];rfl
   let abc:tZ c.acts ((iT c.acts).take (d+1))=tZ c.acts ((iT c.acts).take d)++x.writes.filterMap (CF c.acts x):=by
    unfold tZ;rw[etk,jc];simp
   let hle:∀j,tZ c.acts ((iT c.acts).take d)++(x.writes.take j).filterMap (CF c.acts x)<+:dw c.acts:=λj=>by
    let e1:dw c.acts=tZ c.acts ((iT c.acts).take (d+1))++tZ c.acts ((iT c.acts).drop (d+1)):=by
     rw[zz]
     conv=>lhs;rw[<-gu (d+1) (iT c.acts)]
     unfold tZ;rw[jc]
    rw[e1,abc];let e2:x.writes.filterMap (CF c.acts x)=(x.writes.take j).filterMap (CF c.acts x)++(x.writes.drop j).filterMap (CF c.acts x):=by
     rw[<-jK,gu]
    rw[e2,dO,dO];show(_,by rw[dO])
   let⟨p',dp,ad7,adE,od,kws,ep,g1,g2,g3,g4⟩:=hx1.at_;cases ep;show(_,J,p,Z.CA,dp,_,_,J,(G' p _ g1 (J,J)),TA.cl,TA.na _ (by simp),kM ..,adE,od,J,.inr (kws,G'.lH g3,zL (λj l h=>∃m n:ae V,l=[ag (.ref (R .self)),ag (.int (((tZ c.acts ((iT c.acts).take d)++(x.writes.take j).filterMap (CF c.acts x)).length:Nat):Int)),ag (.ref t),ag (.ref p),m,n]/\bQ (·=t) B h/\Grows Z.CA B h/\
    h t=ag (.bZ (told (tZ c.acts ((iT c.acts).take d)++(x.writes.take j).filterMap (CF c.acts x))))) ?_ (λj l h _ (_,_,_,_,G,_)=>G.lH g3) ?_ ?_))
   ·show(m,n,?_,KB,G',?_)
    ·rw[ox,Np,dz];rfl
    ·rw[ox,Np,dz];show hT
   ·rintro j nk ad8 q l g hj hq ⟨m,n,rfl,KB2,u,hT2⟩
    let⟨b,hw0,ek,ad9⟩:=bL.yz g4 hj;let ek':nk=kk b.1:=ek;subst ek';let okk:=okx b (bg hw0);let hwo:eM x b.1=ag b.2:=xk wok.nd (bg hw0);let C2:on Z.CA Z.CC g R aa5 c:=bT.keep (bT.same CL A) KB2 u λr=>nF r;let⟨dx2,hs2⟩:=C2.self;let⟨cs,hcs,hcv⟩:=C2.cnt;let hx2:gP Z.CA g (.ref p) x:=hx1.bA u;let⟨y,hy⟩:∃y,fu c.acts b.1=ag y:=by
     rcases nM c.acts b.1 hu with⟨_,z⟩|⟨y,z,_⟩
     ·let:=z x hxm
      rw[hwo] at this;cases this
     ·show(y,z)
    let hym:y∈c.acts:=(ve hu hy).mem;let⟨vy,hvy,hya⟩:∃v,dZ cs (kk b.1)=ag v/\gP Z.CA g v y:=by
     rcases hcv.val b.1 okk with⟨z,_⟩|⟨y',v,z1,z2,z3⟩
     ·rw[hy] at z;cases z
     ·rw[hy] at z1
      cases z1;show(v,z2,z3)
    let⟨T,Q,kny,wry,ody,kwy,rfl,y1,y2,_⟩:=id hya.at_;let etj:x.writes.take (j+1)=x.writes.take j++[b]:=by rw[cE,hw0];rfl
    rw[etj,jK,<-dO];let xh:=(L.hand _ x hxM).2;show(_,J,R .self,Z.CC,dx2,_,_,J,hs2,aaC.cl,aaC.na _ (by simp),(cF R _).2.2.2.2.1,_,J,R .cnt,_,J,.inr (_,_,_,.inl hcs,J,hq,hvy.symm),?_);let no:(e8 y x=aC\/x.number<=iY y x.hand)->[b].filterMap (CF c.acts x)=[]:=λz=>by
     rw[fw];let:CF c.acts x b=au:=by unfold CF;rw[hy];show aH z
     rw[this];rfl
    let acy:(e8 y x=aC\/x.number<=iY y x.hand)->∀s,bB g s->∃m n:ae V,[ag (V.ref (R .self)),ag (V.int (((tZ c.acts ((iT c.acts).take d)++(x.writes.take j).filterMap (CF c.acts x)).length:Nat):Int)),ag (V.ref t),ag (V.ref p),ag (V.ref q),ag (V.ref T)]=
      [ag (.ref (R .self)),ag (.int (((tZ c.acts ((iT c.acts).take d)++(x.writes.take j).filterMap (CF c.acts x)++[b].filterMap (CF c.acts x)).length:Nat):Int)),ag (.ref t),ag (.ref p),m,n]/\bQ (·=t) B s/\Grows Z.CA B s/\
      s t=ag (.bZ (told (tZ c.acts ((iT c.acts).take d)++(x.writes.take j).filterMap (CF c.acts x)++[b].filterMap (CF c.acts x)))):=λz s f=>by
     rw[no z,dz];show(_,_,J,KB2.same f,u.trans f.grows,f _ _ hT2)
    show(_,J,T,Q,_,J,y1,J,_,J,_,_,y,x,J,hya,hx2,λs f=>(_,J,?_));cases hi1:e8 y x with
    |true=>show iu J (jg J (acy (.inl hi1) s f))
    |false=>
     let y13:=f _ _ y1;show jg J (_,J,T,Q,_,J,y13,J,_,J,_,_,y,x,J,hya.bA f.grows,hx2.bA f.grows,xh.1,(by rw[(L.kn _ y (co.made L hym)).1];show xh.2),_,J,?_);by_cases hk:x.number<=iY y x.hand
     ·rw[decide_eq_true hk]
      show jg J (acy (.inr hk) s f)
     ·rw[decide_eq_false hk]
      let yes:[b].filterMap (CF c.acts x)=[[(x.hand:Int),(x.number:Int),((b.1.headD 0:Nat):Int),(y.hand:Int),(y.number:Int)]]:=by
       rw[fw];let:CF c.acts x b=ag [(x.hand:Int),(x.number:Int),((b.1.headD 0:Nat):Int),(y.hand:Int),(y.number:Int)]:=by
        unfold CF;rw[hy];show aD (λz=>by
         rcases z with z|z
         ·rw[hi1] at z;cases z
         ·show hk z)
       rw[this];rfl
      let gp3:=f _ _ (u p _ g1 (J,J));let hT3:=f _ _ hT2;let hq3:uN s q b.1:=f.pI hq;let⟨aee,adV⟩:=Mb okk hq3;let ekd:(kd b.1:Int)=((b.1.headD 0:Nat):Int):=by
       rcases okk with⟨a,aaG,acX,_,e⟩|⟨r,aef,e⟩<;>rw[e]<;>rfl
      show iu J (_,J,_,_,J,J,_,J,.inl (J,_,eE.of hT3),_,J,p,Z.CA,dp,_,_,J,gp3,TA.cl,TA.na _ (by simp),kI ..,_,J,p,Z.CA,dp,_,_,J,gp3,TA.cl,TA.na _ (by simp),kN ..,_,J,q,_,_,_,J,J,gg.of adV,wy,_,J,T,Z.CA,Q,_,_,J,y13,TA.cl,TA.na _ (by simp),kI ..,_,J,T,Z.CA,Q,_,_,J,y13,TA.cl,TA.na _ (by simp),kN ..,GY,λl5 hl5=> ?_);let tl:t≠l5:=λz=>by rw[<-z,hT3] at hl5;cases hl5
      let acY:=hle (j+1);rw[etj,jK,<-dO,yes] at acY;let aeg:(tZ c.acts ((iT c.acts).take d)++(x.writes.take j).filterMap (CF c.acts x)).flatten.length+5<=(dw c.acts).flatten.length:=by
       let⟨r,U⟩:=acY;let e5:([[(x.hand:Int),(x.number:Int),((b.1.headD 0:Nat):Int),(y.hand:Int),(y.number:Int)]]:aa (aa Int)).flatten.length=5:=rfl;rw[<-U];simp![L6,bt];rw[e5];lk
      show(t,l5,_,_,J,J,by rw[aZ tl];show hT3,aw,xw (by change(told _).length+5<10000000;change(Kc V.int _).length+5<10000000;rw[ao];lk),?_);let S5:bB s (bD s l5 (.bZ [.int (x.hand:Int),.int (x.number:Int),.int (kd b.1:Int),.int (y.hand:Int),.int (y.number:Int)])):=bB.new hl5;rw[yes];show(ag (.ref q),ag (.ref T),?_,((KB2.same f).same S5).put J,((u.trans f.grows).trans S5.grows).trans (nI (S5 _ _ hT3) _),?_)
      ·let en:((((tZ c.acts ((iT c.acts).take d)++(x.writes.take j).filterMap (CF c.acts x)).length:Nat):Int)+1)=(((tZ c.acts ((iT c.acts).take d)++(x.writes.take j).filterMap (CF c.acts x)++[[(x.hand:Int),(x.number:Int),((b.1.headD 0:Nat):Int),(y.hand:Int),(y.number:Int)]]).length:Nat):Int):=by
        rw[bt (bs:=[[(x.hand:Int),(x.number:Int),((b.1.headD 0:Nat):Int),(y.hand:Int),(y.number:Int)]])];rfl
       rw[<-en];rfl
      ·rw[aw]
       change ag (HO.bZ (told _++_))=ag (HO.bZ (told _))
       congr 2
       change Kc V.int _++[V.int (x.hand:Int),V.int (x.number:Int),V.int (kd b.1:Int),V.int (y.hand:Int),V.int (y.number:Int)]=Kc V.int _;rw[ekd];simp![L6,bz];rfl
   ·rintro l g ⟨m,n,rfl,KB2,u,hT2⟩
    let el:kws.length=x.writes.length:=(bL.length g4).symm;rw[el,cu] at hT2⊢;show(_,m,n,by rw[abc],KB2,u,by rw[abc];show hT2)
  ·rintro l g ⟨v3,m,n,rfl,KB,u,hT⟩
   rw[ao,(bL.length hbA),cu] at hT⊢;rw[<-zz] at hT⊢;show(_,J,eR,λl1 hl1=>(_,J,l1,t,_,told (dw c.acts),J,J,aw,?_,?_,λE hl2=> ?_))
   ·let:t≠l1:=λz=>by rw[<-z,hT] at hl1;cases hl1
    rw[aZ this];show hT
   ·change 1+(Kc V.int _).length<=_
    rw[ao];show xw (by lk)
   ·let f:bB g (bD (bD g l1 (.bZ [.int (((dw c.acts).length:Nat):Int)])) E (.bZ ([V.int (((dw c.acts).length:Nat):Int)]++told (dw c.acts)))):=(bB.new hl1).add hl2
    let SA:bQ (·=Z.P2) H g:=λa o e acX=>by
     let h1:=A _ _ (KH a o e acX);show KB a o h1 λz=> ?_;rw[z,ht] at e;cases e
    let trk:∀x,H x≠au->bD (bD g l1 (.bZ [.int (((dw c.acts).length:Nat):Int)])) E (.bZ ([V.int (((dw c.acts).length:Nat):Int)]++told (dw c.acts))) x≠au:=λx I=>by
     show f.trk x ?_;let h1:=A.trk x (abB x I);cases q:B x with
     |none=>show absurd q h1
     |some o=>
      by_cases e:x=t
      ·rw[e,hT];simp
      ·rw[KB _ _ q e];simp
    let TL2:fD g Z.P2 Q4 IL:=(TL.same A).keep KB u (λz=>tP z.symm);show ac8 _ E (SA.same f) (((GH.trans A.grows).trans u).trans f.grows) trk (TL2.same f) ?_ ?_
    ·let n1:g E=au:=(bB.new hl1).free hl2
     cases e:H E with
     |none=>rfl
     |some o=>
      let h1:=A.trk E (abB E (by rw[e];simp));cases q:B E with
      |none=>show absurd q h1
      |some o'=>
       by_cases c1:E=t
       ·rw[c1,hT] at n1;cases n1
       ·rw[KB _ _ q c1] at n1;cases n1
    ·rw[aw];rfl
end
def Wd.made_le(W:Wd Z H A n w M)(h:Nat):(M h).length<=n:=W.gd.bd.len h
def yA(W:Wd Z H A n w M)(f:n<=300)(d:1<=h)(e:h<=w.base.hands)(a b:Nat)(c:aa (k9×uO))(v:Int):
  w.does h a b c v= #[w.with_ h (o9 w.base (w.copy h) h a b c),gm v]:=by
 unfold abO;let:=W.made_le h;rw[<-W.gd.ok.own h d e] at this;show aD (by unfold Sw58.ACTS;lk)
section
universe a
variable{Z:Cs}
inductive vq(Z:Cs)(a:aa V)(H:Hp)(Q:VK)(E:XK):Prop|mk:∀A W M h b,a=[.ref (A .dX),.int h,.int b]->fW Z H A W M->Q (.bl (W.hand h&&bV b 0 1)) H->vq Z a H Q E
def KG:bM ["book","hand","axis"] ["book","hand","axis"] (bo (fI 58)):=cB
def YB(F:fQ K mg "is_on_axis" (fI 58) ["book","hand","axis"])(T:dY K Z.CB iU)(g:-eC Z.CB "has_hand" ["self","hand"] 1 (lm Z)):-ig "is_on_axis" ["book","hand","axis"] 2 (vq Z):=by
 show F.def KG (λi H Q E h=> ?_) (λf m n o s H i Q E j h=> ?_)
 ·let⟨A,W,M,h,b,rfl,_⟩:=h
  rfl
 ·let⟨A,W,M,h,b,rfl,B,a⟩:=h
  show(_,aV (bP (WW (bY (pv 0) T.cl g j (ak (pv 1) aB)) (WT (CS jz jz aX (pv 2) aX)))),?_);let⟨k,l⟩:=B.self;show(_,J,A .dX,k,_,J,l,J,_,J,A,W,M,h,J,B,_,J,?_);cases d:W.hand h with
  |false=>
   rw[d] at a;show jg J a
  |true=>
   rw[d] at a;show iu J (_,J,_,_,J,J,_,J,?_);by_cases c:0<=b
   ·show iu (decide_eq_true c) (_,_,J,J,?_)
    let e:bV b 0 1=decide (b<=1):=by unfold bV;rw[decide_eq_true c];rfl
    rw[e] at a;show a
   ·let e:bV b 0 1=aA:=by unfold bV;rw[decide_eq_false c];rfl
    rw[e] at a;show jg (decide_eq_false c) a
inductive tO(Z:Cs)(a:aa V)(H:Hp)(Q:VK)(E:XK):Prop|mk:∀(A:AU->az) (W:fS) (M:SM.Made) (h:Nat),a=[.ref (A .dX),.int (h:Int)]->fW Z H A W M->1<=h->h<=W.base.hands->Q (.int ((64*((M h).length+1):Nat):Int)) H->tO Z a H Q E
def AO:bM ["book","hand"] ["book","hand"] (bo (fI 60)):=cB
def RX(F:fQ K mg "first_number" (fI 60) ["book","hand"])(T:dY K Z.CB iU)(a:qI mg "NUMBERS_AN_ACT" 64)(b:-eC Z.CB "coming_number" ["self","hand"] 2 (xZ Z)):-ig "first_number" ["book","hand"] 3 (tO Z):=by
 let⟨c,a⟩:=a;show F.def AO (λd H Q E h=> ?_) (λf n o p s H d Q E g h=> ?_)
 ·let⟨A,W,M,h,rfl,_⟩:=h
  rfl
 ·let⟨A,W,M,h,rfl,B,i,j,k⟩:=h
  show(_,aV (bP (ij Lf (fB (v:=.int 64) J a (c,J)) (bY (pv 0) T.cl b g (ak (pv 1) aB)))),?_);let⟨l,m⟩:=B.self;show(_,J,A .dX,l,_,J,m,J,_,J,A,W,M,h,J,B,i,j,_,_,J,J,.inl (by decide,by decide),?_);let e:(64*(((M h).length+1:Nat):Int))=((64*((M h).length+1):Nat):Int):=by lk
  change Q (.int (64*(((M h).length+1:Nat):Int))) H;rw[e];show k
inductive Qo(Z:Cs)(e:aa V)(H:Hp)(Q:VK)(E:XK):Prop|mk:∀(A:AU->az) (W:fS) (M:SM.Made) (n h:Nat) (b:aa (k9×uO)) (c:az) (f:aa (aa NK×V)) (a:Int),e=[.ref (A .dX),.int (h:Int),.ref c,.int a]->Wd Z H A n W M->n<=299->1<=h->h<=W.base.hands->H c=ag (.dT f)->xF H b f->(¬fJ A W.base.hands c)->wG W.base (M.ext h (ed W.base (W.copy h) h 0 0 b)) (ed W.base (W.copy h) h 0 0 b)->SM.Short (W.copy h) b->(∀d l,i7 Z H d (λa=>fJ A W.base.hands a\/a=c) (fJ A W.base.hands)->Wd Z d A (n+1) (W.with_ h (o9 W.base (W.copy h) h 0 0 b)) (M.ext h (ed W.base (W.copy h) h 0 0 b))->H l=au->d l=ag (.bZ [.int a])->Q (.ref l) d)->Qo Z e H Q E
def ZE:bM ["book","hand","writes","answer"] ["book","hand","writes","answer"] (bo (fI 63)):=cB
def aeu(F:fQ K mg "do" (fI 63) ["book","hand","writes","answer"])(T:dY K Z.CB iU)(c:qI mg "DONE" 0)(t:-eC Z.CB "is_full" ["self","hand"] 2 (xY Z))(u:-eC Z.CB "make" ["self","hand","kind","writes"] 4 (Gv Z)):
  -ig "do" ["book","hand","writes","answer"] 5 (Qo Z):=by
 let⟨x,c⟩:=c;show F.def ZE (λy H Q E h=> ?_) (λf U Y aav aax H y Q E d h=> ?_)
 ·let⟨A,W,M,n,h,e,g,i,a,rfl,_⟩:=h
  rfl
 ·let⟨A,W,M,n,h,e,g,i,a,rfl,b,hn,j,m,B,C,D,I,L,k⟩:=h
  let N:fo 2 _:=d.bA (by decide);show(_,ay (fO (io (bY (pv 0) T.cl t N (ak (pv 1) aB))) (aV (bP (d9 (ak (mU kb aX) aB)))) dH)
   (ay (fY (bY (pv 0) T.cl u d (ak (pv 1) (ak (fB (v:=.int 0) J c (x,J)) (ak (pv 2) aB)))))
   (aV (bP (d9 (ak (pv 3) aB))))),?_)
  let⟨o,p⟩:=b.bk.self;let hl:=b.made_le h;show(_,J,A .dX,o,_,J,p,J,_,J,A,W,M,h,J,b.bk,j,m,by lk,_,J,jg J ?_);show(_,J,A .dX,o,_,J,p,J,_,J,_,J,A,W,M,n,h,0,0,e,g,i,J,b,by lk,j,m,B,C,D,I,L,(by decide,(λz=>nomatch z),λz=>nomatch z),λq r O _=> ?_);show(_,J,eR,λl s=> ?_);let S:bB q (bD q l (.bZ [.int a])):=bB.new s;show k _ l (r.then S) (O.same S) (r.none s) aw
end
def yi{lo hi x:Int}(d:∀a:VK,a (.int x) H->e b H a)(hc:∀a:VK,a (.int hi) H->f b H a)(q:Q (bV x lo hi) H):
  xV (vn (GJ λi j=>.bl (decide (i<=j))) (GJ λi j=>.bl (decide (i<=j))) (tC (.int lo)) e f) b H Q:=by
 unfold xV vn tC;show d _ (lo,x,J,J,_,J,?_);unfold bV at q;by_cases c:lo<=x
 ·rw[decide_eq_true c,F9] at q
  show iu (decide_eq_true c) (hc _ (x,hi,J,J,_,J,q))
 ·rw[decide_eq_false c,qS] at q
  show jg (decide_eq_false c) (_,J,q)
def QE{lo hi x:Int}(d:∀a:VK,a (.int x) H->e b H a)(hc:∀a:VK,a (.int hi) H->f b H a)(q:Q (decide (lo<=x)&&decide (x<hi)) H):
  xV (vn (GJ λi j=>.bl (decide (i<=j))) (GJ λi j=>.bl (decide (i<j))) (tC (.int lo)) e f) b H Q:=by
 unfold xV vn tC;show d _ (lo,x,J,J,_,J,?_);by_cases c:lo<=x
 ·rw[decide_eq_true c,F9] at q
  show iu (decide_eq_true c) (hc _ (x,hi,J,J,_,J,q))
 ·rw[decide_eq_false c,qS] at q
  show jg (decide_eq_false c) (_,J,q)
def oR(h:b[i]?=ag (ag v)):∀a:VK,a v H->vm i b H a:=λ_ q=>(v,h,q)
def NT:∀a:VK,a v H->tC v b H a:=λ_ q=>q
def CD{K:aq}(h:e[i]?=ag (ag (.ref a)))(f:H a=ag (.bZ b)):∀d:VK,d (.int (b.length:Int)) H->tCB (WK K) (BX (vm i) wE) e H d:=
 λ_ q=>(_,h,a,b,J,.inl (eE.of f),q)
def wH(Z:Cs)(H:Hp)(A:AU->az)(n:Nat)(W:fS)(c:Pt)(Q:VK):Prop:=∀U A' M' l,i7 Z H U (fJ A W.base.hands) (fJ A' (eA W c).1.base.hands)->Wd Z U A' (n+1) (eA W c).1 M'->A' .dX=A .dX->H l=au->U l=ag (.bZ ((lV W c).map V.int))->Q (.ref l) U
section
variable{Z:Cs}{H O U:Hp}{A A1 A':AU->az}{n:Nat}{W W':fS}{M M':SM.Made}{c:Pt}{Q:VK}{v:Int}{ls:aa Int}{l:az}
theorem wH.trans(k:wH Z H A n W c Q)(d:i7 Z H O (fJ A W.base.hands) (fJ A1 W.base.hands))(e:A1 .dX=A .dX):wH Z O A1 n W c Q:=λU A' M' l a b f hl g=>k U A' M' l (d.trans a) b (f.trans e) (d.none hl) g
theorem wH.same(k:wH Z H A n W c Q)(S:bB H O):wH Z O A n W c Q:=k.trans (i7.same S) J
def wH.is(k:wH Z H A n W c Q)(e:eA W c= #[W',(v,ls)])(a:i7 Z H U (fJ A W.base.hands) (fJ A' W'.base.hands))(b:Wd Z U A' (n+1) W' M')(d:A' .dX=A .dX)(hl:H l=au)(f:U l=ag (.bZ ((v::ls).map V.int))):Q (.ref l) U:=by
 unfold wH lV at k;rw[e] at k;show k U A' M' l a b d hl f
def wH.no(k:wH Z H A n W c Q)(a:Wd Z H A n W M)(e:eA W c= #[W,(v,ls)])(S:bB H U)(hl:H l=au)(b:U l=ag (.bZ ((v::ls).map V.int))):Q (.ref l) U:=
 k.is e (i7.same S) ((a.same S).more (kX n)) J hl b
def wH.Ho(k:wH Z H A n W c Q)(a:Wd Z H A n W M)(e:eA W c= #[W,(v,[])])(hl:H l=au):Q (.ref l) (bD H l (.bZ [.int v])):=k.no a e (bB.new hl) hl aw
end
inductive ic(Z:Cs)(i:Int)(b:aa V)(H:Hp)(Q:VK)(E:XK):Prop|mk:∀A W M n a d c,b=[.ref (A .dX),.ref a]->H a=ag (.bZ (d.map V.int))->(¬fJ A W.base.hands a)->SM.CR (i::d) c->Wd Z H A n W M->n<=299->(lV W c).length<=1000000->wH Z H A n W c Q->ic Z i b H Q E
def iR:∀a H Q E,ic Z i a H Q E->a.length=2:=λa H Q E h=>by let⟨_,_,_,_,_,_,_,e,_⟩:=h;rw[e];rfl
section
universe a
variable{Z:Cs}
def Ir:bM ["book","numbers","rows","cols","hands"] ["book","numbers"] (bo (fI 46)):=cB
def aby(F:fQ K mg "begin" (fI 46) ["book","numbers"])(ok:pq Z)(aaC:dY K Z.CB iU)(h:qI mg "MOST_LINES" 64)(x:qI mg "MOST_HANDS" 8)(DR:-eC Z.CB "restart" ["self","rows","cols","hands"] 5 (v0 Z)):
  -ig "begin" ["book","numbers"] 6 (ic Z 1):=by
 let⟨L,h⟩:=h;let⟨tH,x⟩:=x;show F.def Ir iR (λabc cdv A0 abe abh H vs Q abi hr aaE=> ?_);let⟨A,W,M,n,y,ns,c,rfl,B,hnf,hcr,i,hn,abm,k⟩:=aaE;let C:=Ir.nd;show(_,ay (dW 2 C (jm cG (pv 1) aX)) (ay (dW 3 C (jm cG (pv 1) aX)) (ay (dW 4 C (jm cG (pv 1) aX))
  (ay (fO (je (PW.pt (oS (jU jz jz aX (pv 2) (fB (v:=.int 64) J h (L,J))) (oS (jU jz jz aX (pv 3) (fB (v:=.int 64) J h (L,J))) (n8 (jU jz jz aX (pv 4) (fB (v:=.int 8) J x (tH,J))))))))
   (aV (bP (d9 (ak (mU kb aX) aB)))) dH)
  (ay (fY (bY (pv 0) aaC.cl DR hr (ak (pv 2) (ak (pv 3) (ak (pv 4) aB)))))
  (aV (bP (d9 (ak aX aB)))))))),?_)
 room
 cases hcr with
 |begin_ r j m=>
  show(_,J,y,_,_,_,J,J,eE.of B,b9 J,_,J,y,_,_,_,J,J,eE.of B,b9 J,_,J,y,_,_,_,J,J,eE.of B,b9 J,?_);let D:(bV r 1 64&&(bV j 1 64&&bV m 1 8))=aA->∀l,H l=au->Q (.ref l) (bD H l (.bZ [.int (-1)])):=λe l hl=>k.Ho i (aH e) hl;show yi (oR J) NT ?_;cases g:bV r 1 64 with
  |false=>show jg J (iu J (_,J,eR,λl hl=>D (by rw[g];rfl) l hl))
  |true=>
   show iu J (yi (oR J) NT ?_);cases p:bV j 1 64 with
   |false=>show jg J (iu J (_,J,eR,λl hl=>D (by rw[g,p];rfl) l hl))
   |true=>
    show iu J (yi (oR J) NT ?_);cases E:bV m 1 8 with
    |false=>show iu J (_,J,eR,λl hl=>D (by rw[g,p,E];rfl) l hl)
    |true=>
     show jg J ?_;let b1:=iQ.mp g;let b2:=iQ.mp p;let b3:=iQ.mp E;let⟨d,hr'⟩:∃d:Nat,r=d:=(r.toNat,by lk);let⟨f,hc'⟩:∃f:Nat,j=f:=(j.toNat,by lk);let⟨b,hm'⟩:∃b:Nat,m=b:=(m.toNat,by lk);subst hr' hc' hm';let est:eA W (.begin_ (d:Int) (f:Int) (b:Int))= #[((d,f,b),bR b l9),gm 0]:=by
      change(if(bV (d:Int) 1 64&&(bV (f:Int) 1 64&&bV (b:Int) 1 8))=aA then _ else _)=_;rw[g,p,E,aD (by decide)];rfl
     let⟨N,s⟩:=i.bk.self;show(_,J,A .dX,N,_,J,s,J,_,J,_,J,_,J,A .dX,N,_,d,f,b,J,s,.inr (A,J),by lk,by lk,by lk,λO A1 I hfr u T=> ?_);show(eR,λl hl=> ?_);let Y:=u.grows s (λz=>ok.cb z.1);let bn:∀{P:az} {pos:pW} {aax:cX},fD H P pos aax->fD O P pos aax:=λt=>t.keep u Y λz=>by
      let⟨ps,q⟩:=t.tb;rw[z,s] at q;cases q
     let c1:i7 Z H O (fJ A W.base.hands) (fJ A1 b):=by
      show(λa o e ne=>u a o e λz=>ne (.inl (.dX,trivial,z)),λa (t,ht,e)=> ?_,Y,λa ha=> ?_)
      ·by_cases ct:t=.dX
       ·rw[e,ct,I];show .inl (.dX,trivial,J)
       ·rw[e];show .inr (hfr t ht ct)
      ·by_cases ca:a=A .dX
       ·let⟨dx1,hs1⟩:=T.self
        rw[ca,<-I,hs1];simp
       ·cases q:H a with
        |none=>show absurd q ha
        |some o=>rw[u a o q ca];simp
     let W1:Wd Z O A1 (n+1) ((d,f,b),bR b l9) (λ_=>[]):=(T,SM.Good.begin_ (by lk) (by lk) (by lk),bn i.t1,bn i.t2);let S:bB O (bD O l (.bZ [.int 0])):=bB.new hl;show k.is est (c1.then S) (W1.same S) I (c1.none hl) aw
def Iq:bM ["book","numbers","hand","g","k","made"] ["book","numbers"] (bo (fI 53)):=cB
def abx(F:fQ K mg "bring" (fI 53) ["book","numbers"])(ok:pq Z)(T:dY K Z.CB iU)(TC:dY K Z.CC iS)(mn:mg "len"=au)(DH:-eC Z.CB "has_hand" ["self","hand"] 1 (lm Z))(DC:-eC Z.CB "copy_of" ["self","hand"] 1 (jT Z))(DA:-eC Z.CB "acts_of" ["self","hand"] 1 (qt Z))
  (DR:-eC Z.CC "receive" ["self","act"] 4 (v8 Z.CA Z.CC)):-ig "bring" ["book","numbers"] 5 (ic Z 8):=by
 show F.def Iq iR (λabm cdv A0 abo abA H vs Q abB hr h=> ?_);let⟨A,W,M,n,D,ns,c,rfl,E,hnf,hcr,e,hn,abD,k⟩:=h;let p:=Iq.nd;let q:fo 1 _:=hr.bA (by decide);show(_,ay (dW 2 p (jm cG (pv 1) aX)) (ay (dW 3 p (jm cG (pv 1) aX)) (ay (dW 4 p (jm cG (pv 1) aX))
  (ay (fO (je (PW.pt (oS (io (bY (pv 0) T.cl DH q (ak (pv 2) aB))) (n8 (io (bY (pv 0) T.cl DH q (ak (pv 3) aB))))))) (aV (bP (d9 (ak (mU kb aX) aB)))) dH)
  (ay (dW 5 p (bY (pv 0) T.cl DA q (ak (pv 3) aB)))
  (ay (fO (je (jU jz jz aX (pv 4) (d7 cJ J mn cg (ak (pv 5) aB)))) (aV (bP (d9 (ak (mU kb aX) aB)))) dH)
  (aV (bP (d9 (ak (bY (bY (pv 0) T.cl DC q (ak (pv 2) aB)) TC.cl DR hr (ak (jm cG (pv 5) (ij pK (pv 4) aX)) aB)) aB))))))))),?_)
 room
 cases hcr with
 |bring h g j=>
  show(_,J,D,_,_,_,J,J,eE.of E,b9 J,_,J,D,_,_,_,J,J,eE.of E,b9 J,_,J,D,_,_,_,J,J,eE.of E,b9 J,?_);let no:(W.hand h&&W.hand g)=aA->∀l,H l=au->Q (.ref l) (bD H l (.bZ [.int (-1)])):=λaa1 l hl=>k.Ho e (aH aa1) hl;let B:=e.bk;let⟨r,s⟩:=B.self;show(_,J,A .dX,r,_,J,s,J,_,J,A,W,M,h,J,B,_,J,?_);cases t:W.hand h with
  |false=>show jg J (iu J (_,J,eR,λl hl=>no (by rw[t];rfl) l hl))
  |true=>
   show iu J (_,J,A .dX,r,_,J,s,J,_,J,A,W,M,g,J,B,_,J,?_);cases I:W.hand g with
   |false=>show iu J (_,J,eR,λl hl=>no (by rw[t,I];rfl) l hl)
   |true=>
    show jg J ?_;let⟨b,rfl,f,m⟩:=k8 t;let⟨d,rfl,u,y⟩:=k8 I;let⟨us,hu,hua⟩:=B.acts d u y;let hul:=bL.length hua;let o:=e.gd.ok.made;let⟨cog,_⟩:=e.gd.ok.copy d u y;let est:eA W (.bring (b:Int) (d:Int) j)=(match Nj (W.copy d).acts d j.toNat with
      |none=> #[W,gm (-2)]
      |some a=>if j<0 then #[W,gm (-2)] else #[W.with_ b (iz W.base (W.copy b) a),gm (((iz W.base (W.copy b) a).acts.length -(W.copy b).acts.length:Nat))]):=by
     change(if(W.hand (b:Int)&&W.hand (d:Int))=aA then _ else _)=_;rw[t,I,aD (by decide)];rfl
    show(_,J,A .dX,r,_,J,s,J,_,J,A,W,M,d,J,B,u,y,?_);show yi (oR J) (CD J hu) ?_;cases L:bV j 1 (us.length:Int) with
    |false=>
     let hno:¬(1<=j/\j<=(us.length:Int)):=λz=>by rw[iQ.mpr z] at L;cases L
     let Y:eA W (.bring (b:Int) (d:Int) j)= #[W,gm (-2)]:=by
      rw[est];cases ea:Nj (W.copy d).acts d j.toNat with
      |none=>rfl
      |some a=>
       let hp:=pZ ea;simp![cW,iF] at hp;let hM:=o.at_ (cog.made o (jS ea));rw[hp.1,hp.2] at hM;change(if j<0 then _ else _)=_;by_cases cj:j<0
       ·rw[aH cj]
       ·exfalso
        apply hno;lk
     show iu J (_,J,eR,λl hl=>k.Ho e Y hl)
    |true=>
     show jg J ?_;let b3:=iQ.mp L;let⟨i,hi⟩:∃i:Nat,j=((i+1:Nat):Int):=((j - 1).toNat,by lk);subst hi;let hil:i<(M d).length:=by lk
     let⟨x,hx⟩:∃x,(M d)[i]?=ag x:=(_,aL hil);let⟨v,hv,hva⟩:=bL.yz hua hx;let C:=bg hx;let hxh:=(o.hand _ x C).1;let abc:Nj (W.copy d).acts d (i+1)=ag x:=by
      rw[<-(o.num d i x hx)];show Eh o cog (e.gd.ok.own d u y) C
     let Y:eA W (.bring (b:Int) (d:Int) ((i+1:Nat):Int))= #[W.with_ b (iz W.base (W.copy b) x),gm (((iz W.base (W.copy b) x).acts.length -(W.copy b).acts.length:Nat))]:=by
      rw[est,bE,abc];show aD (by lk)
     let⟨co,idl⟩:=e.gd.ok.copy b f m;let aaV:=B.copy b f m;let⟨dc,hc⟩:=aaV.self;let ei:(((i+1:Nat):Int)- 1)=((i:Nat):Int):=by lk
     show(_,J,A .dX,r,_,J,s,J,_,J,A,W,M,b,J,B,f,m,A (.copy b .self),dc,_,J,hc,J,_,J,_,J,_,_,J,J,A (.acts d),_,_,_,J,J,eE.of hu,by rw[ei];show b9 hv,?_);show(A (.copy b .self),v,x,(λaav=>A (.copy b aav)),W.base,M,W.copy b,n,J,J,aaV,hva,o,co,by rw[hxh];show C,e.gd.ok.hands.2,e.gd.bd,by lk,λO K1 G1 C1=> ?_);let⟨co1,id1,abi⟩:=D0 o co idl (by rw[hxh];show C);let nT:fD O Z.PT uc n9:=by
      let⟨ps,abl⟩:=e.t1.tb;show e.t1.keep K1 G1 λ(aav,z)=>B.IN ok abl (.copy b aav,(f,m),z)
     let⟨W1,c1⟩:=e.VG ok f m (vS.own K1 G1 C1) C1 nT (e.gd.with_ f m co1 id1 (abi b (e.gd.ok.own b f m)));rw[wd] at W1 c1;show(eR,λl hl=> ?_);let S:bB O (bD O l (.bZ [.int (((iz W.base (W.copy b) x).acts.length:Int)-((W.copy b).acts.length:Int))])):=bB.new hl;let hle:=FJ W.base (W.copy b) x;show k.is Y (c1.then S) ((W1.same S).more (kX n)) J (c1.none hl) ?_;rw[aw]
     congr 4
     lk
end
def Nt{w:fS}:(w.with_ h c).with_ h d=w.with_ h d:=by
 unfold Hw;simp[List.set_set]
def Ai(c:((eB b l a).map (·.2)).Nodup):uM b l a=fX (eB b l a) (λx=> !qO l a x.2):=by
 funext i j;rw[Kp c];rfl
def Qs(a:((eB b l 0).map (·.2)).Nodup)(c:((eB b l 1).map (·.2)).Nodup):
  vx (fu l) (eB b l 0) (eB b l 1) (qO l 0) (qO l 1)=xM b l:=by
 unfold vx oh xM;rw[<-Ai a,<-Ai c];let e:∀x y:Id,aa4 b l ((jr l (bK x y)).getD [0])=pR (uM b l 0) (uM b l 1) (nD (fu l) x y):=λx y=>Tz b l _;simp![e];rfl
def RK{a:aa (aa Int)}(h:∀x∈a,1<=x.length):a.length<=a.flatten.length:=by
 induction a with
 |nil=>show aS _
 |cons x a b=>
  rw[iX,bt,aN];let:=h x (aQ ..);let:=b λy c=>h y (aM _ c);lk
def IJ(l:aa Act):∀x∈dw l,1<=x.length:=by
 intro x b;rw[zz] at b;unfold tZ at b;let⟨a,_,b⟩:=AH.mp b;let⟨w,_,hw⟩:=iA.mp b;unfold CF at hw;split at hw
 ·split at hw
  ·cases hw
  ·cases hw;change 1<=5;decide
 ·cases hw
section
universe a
variable{Z:Cs}
def Mm:bM ["book","numbers","hand","g","copy","many","act"] ["book","numbers"] (bo (fI 54)):=cB
def acG(F:fQ K mg "sync" (fI 54) ["book","numbers"])(ok:pq Z)(T:dY K Z.CB iU)(I:dY K Z.CC iS)(ml:mg "list"=au)(DH:-eC Z.CB "has_hand" ["self","hand"] 1 (lm Z))(DC:-eC Z.CB "copy_of" ["self","hand"] 1 (jT Z))
  (DR:-eC Z.CC "receive" ["self","act"] 4 (v8 Z.CA Z.CC)):-ig "sync" ["book","numbers"] 5 (ic Z 9):=by
 show F.def Mm iR (λab6 cdv A0 acm act H vs abe acw hr h=> ?_);let⟨A,W,M,n,L,ns,acy,rfl,hnl,hnf,hcr,d,hn,acV,aaE⟩:=h;let q:=Mm.nd;let u:fo 1 _:=hr.bA (by decide);show(_,ay (dW 2 q (jm cG (pv 1) aX)) (ay (dW 3 q (jm cG (pv 1) aX))
  (ay (fO (je (PW.pt (oS (io (bY (pv 0) T.cl DH u (ak (pv 2) aB))) (n8 (io (bY (pv 0) T.cl DH u (ak (pv 3) aB))))))) (aV (bP (d9 (ak (mU kb aX) aB)))) dH)
  (ay (dW 4 q (bY (pv 0) T.cl DC u (ak (pv 2) aB))) (ay (dW 5 q aX)
  (ay (nz dE J (mv (jQ ul J ml kj (ak (cA (bY (pv 0) T.cl DC u (ak (pv 3) aB)) J) aB))) (fM (i:=6) q J (gA J))
   (aV (GK (i:=5) q J (gA J) (bY (pv 4) I.cl DR hr (ak (pv 6) aB)) Dk)))
  (aV (bP (d9 (ak (pv 5) aB))))))))),?_)
 room
 cases hcr with
 |sync h g=>
  show(_,J,L,_,_,_,J,J,eE.of hnl,b9 J,_,J,L,_,_,_,J,J,eE.of hnl,b9 J,?_);let no:(W.hand h&&W.hand g)=aA->∀l,H l=au->abe (.ref l) (bD H l (.bZ [.int (-1)])):=λe l hl=>aaE.Ho d (aH e) hl;let B:=d.bk;let⟨v,y⟩:=B.self;show(_,J,A .dX,v,_,J,y,J,_,J,A,W,M,h,J,B,_,J,?_);cases z:W.hand h with
  |false=>show jg J (iu J (_,J,eR,λl hl=>no (by rw[z];rfl) l hl))
  |true=>
   show iu J (_,J,A .dX,v,_,J,y,J,_,J,A,W,M,g,J,B,_,J,?_);cases O:W.hand g with
   |false=>show iu J (_,J,eR,λl hl=>no (by rw[z,O];rfl) l hl)
   |true=>
    show jg J ?_;let⟨b,rfl,j,m⟩:=k8 z;let⟨c,rfl,Q,U⟩:=k8 O;let t:=d.gd.ok.made;let hlW:=d.hl;let⟨co,idl⟩:=d.gd.ok.copy b j m;let⟨cog,_⟩:=d.gd.ok.copy c Q U;let est:eA W (.sync (b:Int) (c:Int))= #[W.with_ b (np W.base (W.copy b) (W.copy c).acts),gm (((np W.base (W.copy b) (W.copy c).acts).acts.length -(W.copy b).acts.length:Nat))]:=by
     change(if(W.hand (b:Int)&&W.hand (c:Int))=aA then _ else _)=_;rw[z,O,aD (by decide)];rfl
    let Cg:=B.copy c Q U;let⟨dg,hg⟩:=Cg.self;let⟨C,hu,hua⟩:=Cg.kH;show(_,J,A .dX,v,_,J,y,J,_,J,A,W,M,b,J,B,j,m,?_);show(_,J,A .dX,v,_,J,y,J,_,J,A,W,M,c,J,B,Q,U,A (.copy c .self),Z.CC,dg,_,_,J,hg,I.cl,I.na _ (by simp),(cF _ _).2.2.1,A (.copy c .kH),C,J,.inl (eE.of hu),λl hl=> ?_);let D:bB H (bD H l (.bZ C)):=bB.new hl;let Y:bD H l (.bZ C) l=ag (.bZ C):=aw;let aa1:=hua.bA D.grows;let WD0:=d.same D;generalize bD _ _ _=H0 at D Y aa1 WD0⊢;let abm:∀f,∀a∈(W.copy c).acts.take f,a∈M a.hand:=λf a ha=>cog.made t (J9 ha);show(l,J,(_,eE.of Y),pj (λf E o=>∃v6:ae V,E=[ag (.ref (A .dX)),ag (.ref L),ag (.int (b:Int)),ag (.int (c:Int)),ag (.ref (A (.copy b .self))),ag (.int (((np W.base (W.copy b) ((W.copy c).acts.take f)).acts.length:Int)-((W.copy b).acts.length:Int))),v6]/\
     i7 Z H0 o (fJ A W.base.hands) (fJ A W.base.hands)/\Wd Z o A n (W.with_ b (np W.base (W.copy b) ((W.copy c).acts.take f))) M) ?_ (λf E o _ (_,_,p,_)=>eE.of (p.oM Y (B.free ok hl) (d.t1.ne hl) (d.t2.ne hl))) ?_ ?_)
    ·show(au,?_,i7.same λ_ _ aav=>aav,?_)
     ·change _=[_,_,_,_,_,ag (V.int (((W.copy b).acts.length:Int)-((W.copy b).acts.length:Int))),_]
      rw[Yl];rfl
     ·let e:W.with_ b (np W.base (W.copy b) ((W.copy c).acts.take 0))=W:=E9 j (by rw[hlW];show m)
      rw[e];show WD0
    ·rintro f aa7 E o hi ⟨v6,rfl,p,k⟩
     let⟨x,hx,hxa⟩:=bL.get aa1 hi;let hxM:=cog.made t (bg hx);let etk:(W.copy c).acts.take (f+1)=(W.copy c).acts.take f++[x]:=by rw[cE,hx];rfl
     rw[etk,w8];let⟨coi,idi,owi⟩:=Az t ((W.copy c).acts.take f) (W.copy b) co idl (abm f);generalize np W.base (W.copy b) ((W.copy c).acts.take f)=s at k coi idi owi⊢;let Ci:on Z.CA Z.CC o (λr=>A (.copy b r)) W.base s:=by
      let:=k.bk.copy b j m;rw[qi j (by rw[hlW];show m) j,aH J] at this;show this
     let⟨dc,hc⟩:=Ci.self;show(_,J,_,J,A (.copy b .self),dc,_,J,hc,J,_,J,A (.copy b .self),aa7,x,(λr=>A (.copy b r)),W.base,M,s,n,J,J,Ci,hxa.bA p.grow,t,coi,hxM,d.gd.ok.hands.2,d.gd.bd,by lk,λH1 K1 G1 C1=> ?_);let⟨co1,id1,abC⟩:=D0 t coi idi hxM;let gd1:=k.gd.with_ j m co1 id1 (abC b (owi b (d.gd.ok.own b j m)));let nT:fD H1 Z.PT uc n9:=by
      let⟨ps,abE⟩:=k.t1.tb;show k.t1.keep K1 G1 λ(r,aav)=>k.bk.IN ok abE (.copy b r,(j,m),aav)
     let⟨W1,c1⟩:=k.VG ok j m (vS.own K1 G1 C1) C1 nT gd1;rw[wd,Nt] at W1;rw[wd] at c1;let en:(((s.acts.length:Int)-((W.copy b).acts.length:Int))+(((iz W.base s x).acts.length:Int)-(s.acts.length:Int)))=((iz W.base s x).acts.length:Int)-((W.copy b).acts.length:Int):=by lk
     show(_,_,J,J,ag aa7,?_,p.trans c1,W1);rw[<-en];rfl
    ·rintro E o ⟨v6,rfl,p,k⟩
     rw[(bL.length hua),cu] at k⊢;let hle:=G8 W.base (W.copy b) (W.copy c).acts;show(_,J,eR,λabN hp=> ?_);let S:bB o (bD o abN (.bZ [.int (((np W.base (W.copy b) (W.copy c).acts).acts.length:Int)-((W.copy b).acts.length:Int))])):=bB.new hp;show(aaE.same D).is est (p.then S) ((k.same S).more (kX n)) J (p.none hp) ?_;rw[aw]
     congr 4
     lk
def Fk:bM ["book","numbers","hand"] ["book","numbers"] (bo (fI 55)):=cB
def aal(F:fQ K mg "sheet" (fI 55) ["book","numbers"])(ok:pq Z)(T:dY K Z.CB iU)(D:-eC Z.CB "has_hand" ["self","hand"] 1 (lm Z))(E:-eC Z.CB "copy_of" ["self","hand"] 1 (jT Z))
  (I:-ig "sheet_of" ["copy"] 5 (Gr Z.CA Z.CC Z.PT)):-ig "sheet" ["book","numbers"] 6 (ic Z 10):=by
 show F.def Fk iR (λaaV cdv A0 aa1 aa5 H vs aa7 abb m h=> ?_);let⟨A,W,M,n,L,ns,abc,rfl,O,hnf,Q,e,hn,U,k⟩:=h;let o:fo 1 _:=m.bA (by decide);show(_,ay (dW 2 Fk.nd (jm cG (pv 1) aX))
  (ay (fO (je (io (bY (pv 0) T.cl D o (ak (pv 2) aB)))) (aV (bP (d9 (ak (mU kb aX) aB)))) dH)
  (aV (bP (ij Lg (d9 (ak aX aB)) (dU I m J (ak (bY (pv 0) T.cl E o (ak (pv 2) aB)) aB)))))),?_)
 room
 cases Q with
 |sheet h=>
  show(_,J,L,_,_,_,J,J,eE.of O,b9 J,?_);let B:=e.bk;let⟨Y,hs⟩:=B.self;show(_,J,A .dX,Y,_,J,hs,J,_,J,A,W,M,h,J,B,_,J,?_);cases g:W.hand h with
  |false=>show iu J (_,J,eR,λabe hl=>k.Ho e (aH g) hl)
  |true=>
   show jg J ?_;let⟨c,rfl,a,b⟩:=k8 g;let p:eA W (.sheet (c:Int))= #[W,(0,xM W.base (W.copy c).acts)]:=aD (by rw[g];decide);show(eR,λf i=> ?_);let j:bB H (bD H f (.bZ [.int 0])):=bB.new i;let q:bD H f (.bZ [.int 0]) f=ag (.bZ [.int 0]):=aw;let d:=e.same j;let lF:¬p9 (λr=>A (.copy c r)) f:=λ(r,aav)=>B.free ok i (.copy c r,(a,b),aav);generalize bD _ _ _=H0 at j q d⊢;let l:=d.bk;let⟨dx0,hs0⟩:=l.self;let s:=d.nj a b 0;let t:=d.nj a b 1;let u:=Qs s t;let hla:(W.copy c).acts.length<=2400:=e.He a b (by lk);let hlS:(xM W.base (W.copy c).acts).length+1<=1000000:=by
    let:=U;unfold lV at this;rw[p] at this;show this
   let ll0:=d.Br a b (by lk) (ax:=0) (by decide);let ll1:=d.Br a b (by lk) (ax:=1) (by decide);show(_,J,A .dX,dx0,_,J,hs0,J,_,J,A,W,M,c,J,l,a,b,?_);show(A (.copy c .self),(λr=>A (.copy c r)),W.base,(W.copy c).acts,(W.copy c).waits,_,_,_,_,_,_,_,_,J,J,(l.copy c a b),d.t1,d.line a b 0,d.line a b 1,d.gone a b 0,d.gone a b 1,by lk,by lk,s,t,d.Vi a b,(by change 64*_<_;lk),(by rw[u];lk),λv R1 l1' x C1 T1 hln hlf y=> ?_);rw[u] at y;let⟨W1,z⟩:=d.EO ok a b x C1 T1;show(f,l1',_,_,J,J,x.oM q lF (e.t1.ne i),y,?_,λaaG C=> ?_)
   ·rw[ao]
    show xw (by change 1+_<_;lk)
   ·let S:bB v (bD v aaG (.bZ ([.int 0]++(xM W.base (W.copy c).acts).map V.int))):=bB.new C
    show(k.same j).is p (z.then S) ((W1.same S).more (kX n)) J (z.none C) aw
def Ct:bM ["book","numbers","hand"] ["book","numbers"] (bo (fI 56)):=cB
def YA(F:fQ K mg "passed" (fI 56) ["book","numbers"])(ok:pq Z)(T:dY K Z.CB iU)(x:-eC Z.CB "has_hand" ["self","hand"] 1 (lm Z))(y:-eC Z.CB "copy_of" ["self","hand"] 1 (jT Z))
  (z:-ig "passed_of" ["copy"] 3 (Cc Z)):-ig "passed" ["book","numbers"] 4 (ic Z 11):=by
 show F.def Ct iR (λaaC cdv A0 aaG aaV H vs aa0 aa1 m h=> ?_);let⟨A,W,M,n,C,ns,aa5,rfl,D,hnf,E,c,hn,I,k⟩:=h;let o:fo 1 _:=m.bA (by decide);show(_,ay (dW 2 Ct.nd (jm cG (pv 1) aX))
  (ay (fO (je (io (bY (pv 0) T.cl x o (ak (pv 2) aB)))) (aV (bP (d9 (ak (mU kb aX) aB)))) dH)
  (aV (bP (dU z m J (ak (bY (pv 0) T.cl y o (ak (pv 2) aB)) aB))))),?_)
 room
 cases E with
 |passed h=>
  show(_,J,C,_,_,_,J,J,eE.of D,b9 J,?_);let B:=c.bk;let⟨p,s⟩:=B.self;show(_,J,A .dX,p,_,J,s,J,_,J,A,W,M,h,J,B,_,J,?_);cases g:W.hand h with
  |false=>show iu J (_,J,eR,λl hl=>k.Ho c (aH g) hl)
  |true=>
   show jg J ?_;let⟨b,rfl,d,f⟩:=k8 g;let u:eA W (.passed (b:Int))= #[W,(((dw (W.copy b).acts).length:Nat),(dw (W.copy b).acts).flatten)]:=aD (by rw[g];decide);let hla:(W.copy b).acts.length<=2400:=c.He d f (by lk);let hlS:(dw (W.copy b).acts).flatten.length+1<=1000000:=by
    let:=I;unfold lV at this;rw[u] at this;show this
   let hfl:=RK (IJ (W.copy b).acts);let⟨L,_⟩:=c.gd.ok.copy b d f;show(_,J,A .dX,p,_,J,s,J,_,J,A,W,M,b,J,B,d,f,?_);show(A (.copy b .self),(λr=>A (.copy b r)),W.base,M,W.copy b,J,J,B.copy b d f,c.gd.ok.made,L,c.t2,by lk,by lk,by lk,λv l i j trk N hl O=> ?_);let Q:∀t,qJ W.base.hands t->¬A t=Z.P2:=λt U e=>by
    let⟨ps,q⟩:=c.t2.tb;show B.IN ok q (t,U,e.symm)
   let Y:Wd Z v A n W M:=(B.keep i j Q,c.gd,c.t1.keep i j ok.pt,N);let c1:i7 Z H v (fJ A W.base.hands) (fJ A W.base.hands):=(λa aav e ne=>i a aav e λaax=>ne (.inr (.inr aax)),λa h=>.inl h,j,trk);show k.is u c1 (Y.more (kX n)) J hl O
def Iu:bM ["book","numbers","hand","copy"] ["book","numbers"] (bo (fI 57)):=cB
def abz(F:fQ K mg "acts" (fI 57) ["book","numbers"])(ok:pq Z)(T:dY K Z.CB iU)(b:dY K Z.CC iS)(j:mg "len"=au)(x:-eC Z.CB "has_hand" ["self","hand"] 1 (lm Z))(y:-eC Z.CB "copy_of" ["self","hand"] 1 (jT Z)):
  -ig "acts" ["book","numbers"] 2 (ic Z 12):=by
 show F.def Iu iR (λf Y A0 aav aax H vs aaC aaE m h=> ?_);let⟨A,W,M,n,z,ns,aaG,rfl,D,hnf,E,c,hn,aa0,k⟩:=h;let o:=Iu.nd;show(_,ay (dW 2 o (jm cG (pv 1) aX))
  (ay (fO (je (io (bY (pv 0) T.cl x m (ak (pv 2) aB)))) (aV (bP (d9 (ak (mU kb aX) aB)))) dH)
  (ay (dW 3 o (bY (pv 0) T.cl y m (ak (pv 2) aB)))
  (aV (bP (ij Lg (d9 (ak (d7 cJ J j cg (ak (cA (pv 3) J) aB)) (ak (d7 FL J j cg (ak (cA (pv 3) J) aB)) aB))) (cA (pv 3) J)))))),?_)
 room
 cases E with
 |acts h=>
  show(_,J,z,_,_,_,J,J,eE.of D,b9 J,?_);let B:=c.bk;let⟨p,q⟩:=B.self;show(_,J,A .dX,p,_,J,q,J,_,J,A,W,M,h,J,B,_,J,?_);cases e:W.hand h with
  |false=>show iu J (_,J,eR,λl hl=>k.Ho c (aH e) hl)
  |true=>
   show jg J ?_;let⟨a,rfl,r,s⟩:=k8 e;let I:eA W (.acts (a:Int))= #[W,(((W.copy a).acts.length:Nat),((W.copy a).waits.length:Int)::(fA W.base.hands).map λi=>((de (W.copy a).acts (i+1):Nat):Int))]:=aD (by rw[e];decide);let C:=B.copy a r s;let⟨g,hc⟩:=C.self;let⟨t,L,O⟩:=C.kH;let⟨u,hw,ws,Q,U⟩:=C.kz;let h8:=c.gd.ok.hands.2;show(_,J,A .dX,p,_,J,q,J,_,J,A,W,M,a,J,B,r,s,?_);show(_,J,A (.copy a .self),Z.CC,g,_,_,J,hc,b.cl,b.na _ (by simp),(cF _ _).2.2.1,A (.copy a .kH),t,J,.inl (eE.of L),_,J,A (.copy a .self),Z.CC,g,_,_,J,hc,b.cl,b.na _ (by simp),(cF _ _).2.2.2.1,A (.copy a .kz),u,J,.inl hw,lB,λl hl=> ?_);let d:bB H (bD H l (.bZ [.int (t.length:Int),.int (u.length:Int)])):=bB.new hl;show(_,J,A (.copy a .self),Z.CC,g,_,_,J,d _ _ hc,b.cl,b.na _ (by simp),(cF _ _).2.1,l,A (.copy a .eV),_,_,J,J,aw,d _ _ C.eV,?_,λaa1 v=> ?_)
   ·rw[ao,mw]
    show xw (by change 2+_<_;lk)
   ·show k.no c I (d.add v) (d.free v) ?_
    rw[aw,(bL.length O),((bL.length U).trans Q.length_eq)];change ag (HO.bZ ([V.int ((W.copy a).acts.length:Int),V.int ((W.copy a).waits.length:Int)]++(ki W.base (W.copy a).acts).map λ(n:Nat)=>V.int (n:Int)))=ag (HO.bZ (((((W.copy a).acts.length:Nat):Int)::((W.copy a).waits.length:Int)::(fA W.base.hands).map λi=>((de (W.copy a).acts (i+1):Nat):Int)).map V.int))
    congr 2
    unfold ki;rw[df,bi,bi,df];rfl
end
def ON{b:gq}{M:SM.Made}{l:aa Act}{k:k9}{v:uO}(h:jr l k=au)(g:SM.om b M k v):jG b l k=vL k:=by
 cases g with
 |place a i v j f _=>
  let:a=0\/a=1:=by lk
  let⟨d,e⟩:=i;unfold jG;rw[h];rcases this with rfl|rfl
  ·cases d with
   |zero=>
    let:=f J;change(if e<b.rows then _ else _)=_;rw[aH (show e<b.rows from this)];rfl
   |succ d=>rfl
  ·cases d with
   |zero=>
    let:=f J;change(if e<b.cols then _ else _)=_;rw[aH (show e<b.cols from this)];rfl
   |succ d=>rfl
 |gone a i t j=>
  let:a=0\/a=1:=by lk
  unfold jG;rw[h];rcases this with rfl|rfl<;>rfl
 |cell r c v _=>
  unfold jG;rw[h];rfl
def Gj(b:gq)(l:aa Act)(a:Act)(w:k9×uO):ae (k9×uO):=match fu l w.1 with
 |some x=>if e8 x a=aC then ag #[w.1,jG b (AD l a) w.1] else au
 |none=>au
def P9{b:gq}{l:aa Act}{a:Act}{w q:k9×uO}(h:Gj b l a w=ag q):q.1=w.1:=by
 unfold Gj at h;split at h
 ·split at h
  ·cases h;rfl
  ·cases h
 ·cases h
section
universe a
variable{Z:Cs}
inductive vp(Z:Cs)(b:aa V)(H:Hp)(Q:VK)(E:XK):Prop|mk:∀(A:AU->az) (W:fS) (M:SM.Made) (n h:Nat) (v:V) (x:Act),b=[.ref (A .dX),.int (h:Int),v]->Wd Z H A n W M->1<=h->h<=W.base.hands->gP Z.CA H v x->x∈(W.copy h).acts->(∀a d c,bB H a->H d=au->a d=ag (.dT c)->xF a (uL W.base (W.copy h).acts x) c->Q (.ref d) a)->vp Z b H Q E
def wS:bM ["book","hand","act","counting","writes","target"] ["book","hand","act"] (bo (fI 65)):=cB
def UJ(F:fQ K mg "taken_back" (fI 65) ["book","hand","act"])(aaG:dY K Z.CB iU)(TC:dY K Z.CC iS)(TA:dY K Z.CA rK)(DC:-eC Z.CB "copy_of" ["self","hand"] 1 (jT Z))(DS:-eC Z.CA "is_same" ["self","other"] 1 (Wz Z.CA e8))
  (DW:-eC Z.CB "stood" ["self","target","knows"] 3 (Gp Z)):-ig "taken_back" ["book","hand","act"] 4 (vp Z):=by
 show F.def wS (λvs H abh abi h=> ?_) (λac6 cdv A0 ac8 ac9 H vs abh abi o h=> ?_)
 ·let⟨A,W,M,abl,h,v,x,rfl,_⟩:=h
  rfl
 ·let⟨A,W,M,abl,h,v,x,rfl,D,E,I,hx,L,abm⟩:=h
  let O:=wS.nd;let hr1:fo 1 _:=o.bA (by decide);show(_,ay (dW 3 O (cA (bY (pv 0) aaG.cl DC hr1 (ak (pv 1) aB)) J)) (ay (dW 4 O qx)
   (ay (nz dE J (GN (cA (pv 2) J)) (fM (i:=5) O J (gA J))
    (aV (fO (io (bY (kQ (uX o) (pv 3) (pv 5) (λ_ _=>rfl)) TA.cl DS hr1 (ak (pv 2) aB)))
     (aV (tV (uX o) (pv 4) (pv 5) (bY (pv 0) aaG.cl DW o (ak (pv 5) (ak (cA (pv 2) J) aB))) J)) dH)))
   (aV (bP (pv 4))))),?_)
  room
  let B:=D.bk;let⟨dx,hs⟩:=B.self;let aa0:=B.copy h E I;let⟨dc,hc⟩:=aa0.self;let⟨Q,_⟩:=D.gd.ok.copy h E I;let k:=D.gd.ok.made;let hxM:=Q.made k L;let m:=k.wr _ x hxM;let okx:∀w∈x.writes,yI w.1:=λw hw=>om.Yv (m.Dy w hw);let okM:∀g,∀y∈M g,∀w∈y.writes,yI w.1:=λg y l w hw=>om.Yv ((k.wr g y l).Dy w hw);let⟨cs,hcs,hcv⟩:=aa0.cnt;let⟨p,dp,abB,abC,od,kws,rfl,g1,g2,g3,g4⟩:=id hx.at_;show(_,J,A .dX,dx,_,J,hs,J,_,J,A,W,M,h,J,B,E,I,A (.copy h .self),Z.CC,dc,_,_,J,hc,TC.cl,TC.na _ (by simp),(cF _ _).2.2.2.2.1,λd T=> ?_);let U:bB H (bD H d (.dT [])):=bB.new T;show(_,J,p,Z.CA,dp,_,_,J,U _ _ g1,TA.cl,TA.na _ (by simp),kM ..,abC,od,J,.inr (kws,U _ _ g3,zL (λj q c=>∃(Y:ae V) (b:aa (aa NK×V)),q=[ag (.ref (A .dX)),ag (.int (h:Int)),ag (.ref p),ag (.ref (A (.copy h .cnt))),ag (.ref d),Y]/\bB H c/\c d=ag (.dT b)/\xF c ((x.writes.take j).filterMap (Gj W.base (W.copy h).acts x)) b) ?_ (λj q c _ (_,_,_,S,_)=>S _ _ g3) ?_ ?_))
  ·show(au,[],J,U,aw,.nil)
  ·rintro j nk ada abD q c hj hq ⟨Y,b,rfl,S,r,e⟩
   let⟨a,hw0,ek,adb⟩:=bL.yz g4 hj;let ek':nk=kk a.1:=ek;subst ek';let hwm:=bg hw0;let okk:=okx a hwm;let hwo:eM x a.1=ag a.2:=xk m.nd hwm;let⟨y,l⟩:∃y,fu (W.copy h).acts a.1=ag y:=by
    rcases nM (W.copy h).acts a.1 (Q.Gi k) with⟨_,z⟩|⟨y,z,_⟩
    ·let:=z x L
     rw[hwo] at this;cases this
    ·show(y,z)
   let⟨vy,hvy,hya⟩:∃v,dZ cs (kk a.1)=ag v/\gP Z.CA H v y:=by
    rcases hcv.val a.1 okk with⟨z,_⟩|⟨y',v,z1,z2,z3⟩
    ·rw[l] at z;cases z
    ·rw[l] at z1
     cases z1;show(v,z2,z3)
   let abb:gP Z.CA c vy y:=hya.bA S.grows;let⟨py,dy,kny,wry,ody,kwy,rfl,y1,_⟩:=id abb.at_;let etj:x.writes.take (j+1)=x.writes.take j++[a]:=by rw[cE,hw0];rfl
   rw[etj,jK];show(_,J,_,J,A (.copy h .cnt),_,J,.inr (_,_,_,.inl (S _ _ hcs),J,hq,hvy.symm),py,dy,_,J,y1,J,_,J,_,_,y,x,J,abb,hx.bA S.grows,λH2 f=>(_,J,?_));let n:=S.trans f;cases hi:e8 y x with
   |false=>
    show jg J (_,b,J,n,f _ _ r,?_);let aaE:[a].filterMap (Gj W.base (W.copy h).acts x)=[]:=by
     rw[fw];let:Gj W.base (W.copy h).acts x a=au:=by unfold Gj;rw[l];show aD (by rw[hi];decide)
     rw[this];rfl
    rw[aaE,dz];show e.bA (CA:=Z.CA) f.grows
   |true=>
    let aaE:[a].filterMap (Gj W.base (W.copy h).acts x)=[#[a.1,jG W.base (AD (W.copy h).acts x) a.1]]:=by
     rw[fw];let:Gj W.base (W.copy h).acts x a=ag #[a.1,jG W.base (AD (W.copy h).acts x) a.1]:=by unfold Gj;rw[l];show aH hi
     rw[this];rfl
    rw[aaE];let B2:=B.same n;let⟨dx2,hs2⟩:=B2.self;show iu J (_,J,A .dX,dx2,_,J,hs2,J,_,J,_,J,p,Z.CA,dp,_,_,J,n _ _ g1,TA.cl,TA.na _ (by simp),xE ..,A,W,M,abD,abB,a.1,x.knows,J,B2,okk,f.pI hq,n _ _ g2,(k.kn _ x hxM).1,okM,λH3 v3 y3 s ev hv3=> ?_);let ev':v3=jG W.base (AD (W.copy h).acts x) a.1:=by
     let e1:=EN k Q L a.1;rw[ev];change(jr (iP M W.base.hands (iY x)) a.1).getD (vL a.1)=_;rw[<-e1];cases u:jr (AD (W.copy h).acts x) a.1 with
     |none=>show(ON u (m.Dy a hwm)).symm
     |some z=>unfold jG;rw[u];rfl
    subst ev';let hd3:=s _ _ (f _ _ r);let hlk:b.length<=64:=by
     rw[<-bL.length e];show bC (List.length_filterMap_le _ _) (bC ?_ m.LB);rw[dq];show Bc _ _
    let acV:kk a.1∉b.map (·.1):=λz=>by
     let⟨q',hq',eq'⟩:=aY.mp z;let⟨adA,hi'⟩:=List.mem_iff_getElem?.mp hq';let⟨w1,hw1,e1,_⟩:=bL.yz e hi';let⟨w2,hw2,u⟩:=iA.mp (bg hw1);let⟨abd,C⟩:=List.mem_iff_getElem?.mp hw2;let hml:abd<j:=by
      let:=(List.getElem?_eq_some_iff.mp C).1;rw[dq] at this;lk
     rw[F6 hml] at C;let e3:w2.1=a.1:=zF (okx w2 (bg C)) okk (by rw[<-(P9 u),<-e1,eq']);let n1:(x.writes.map (·.1))[abd]?=ag a.1:=by rw[aF,C];show eI ag e3
     let n2:(x.writes.map (·.1))[j]?=ag a.1:=by rw[aF,hw0];rfl
     let:=(rY (List.getElem?_eq_some_iff.mp n1).1 m.nd).mp (n1.trans n2.symm);lk
    show(_,J,_,J,d,_,J,xG.t hd3 (s.pI (f.pI hq)) (jy (by lk)),?_);rw[sx acV];let g4':Grows Z.CA H3 (bD H3 d (.dT (b++[#[kk a.1,y3]]))):=Grows.put hd3 (λz=>z);show(_,_,J,(n.trans s).put T,aw,bL.snoc ((e.bA (CA:=Z.CA) (f.trans s).grows).bA g4') (J,hv3.bA g4'))
  ·rintro q c ⟨Y,b,rfl,S,r,e⟩
   let el:kws.length=x.writes.length:=(bL.length g4).symm;rw[el,cu] at e;show(_,J,abm c d b S T r e)
inductive tJ(Z:Cs)(a:aa V)(H:Hp)(Q:VK)(E:XK):Prop|mk:∀(A:AU->az) (W:fS) (M:SM.Made) (n:Nat) (h:Int) (kd:Nat) (c:Pt),a=[.ref (A .dX),.int h,.int (kd:Int)]->((c=.undo h/\kd=1)\/(c=.redo h/\kd=2))->Wd Z H A n W M->n<=299->wH Z H A n W c Q->tJ Z a H Q E
def wT:bM ["book","hand","kind","able","writes"] ["book","hand","kind"] (bo (fI 64)):=cB
def Uy{a:aa V}{v:V}(h:a.getLast?=ag v):Hs a (-1)=ag v:=by
 let b:a≠[]:=λz=>by rw[z] at h;cases h
 let hl:0<a.length:=List.length_pos_iff.mpr b;unfold Hs Oj;rw[aD (by lk),aH (by lk)];change a[((-1:Int)+(a.length:Int)).toNat]?=_;let e:((-1:Int)+(a.length:Int)).toNat=a.length - 1:=by lk
 rw[e,<-rM];show h
def OP{d c:Type}{R:d->c->Prop}{l:aa d}{m:aa c}(h:SM.bL R l m){b:c}(e:m.getLast?=ag b):∃a,l.getLast?=ag a/\R a b:=by
 rw[rM] at e;let⟨a,f,r⟩:=bL.yz h e;show(a,?_,r);rw[rM,bL.length h];show f
def Vz(F:fQ K mg "take_back" (fI 64) ["book","hand","kind"])(ok:pq Z)(T:dY K Z.CB iU)(mn:mg "len"=au)(DH:-eC Z.CB "has_hand" ["self","hand"] 1 (lm Z))(DA:-eC Z.CB "acts_of" ["self","hand"] 1 (qt Z))(DL:-eC Z.CB "is_full" ["self","hand"] 2 (xY Z))
  (DM:-eC Z.CB "make" ["self","hand","kind","writes"] 4 (Gv Z))(DT:-ig "to_take_back" ["acts"] 1 (Kw Z.CA K))(DB:-ig "taken_back" ["book","hand","act"] 4 (vp Z)):-ig "take_back" ["book","hand","kind"] 5 (tJ Z):=by
 show F.def wT (λvs abb abc abd h=> ?_) (λacD cdv A0 acW acX abb vs abc abd p h=> ?_)
 ·let⟨A,W,M,n,h,kd,c,rfl,_⟩:=h
  rfl
 ·let⟨A,W,M,n,h,kd,c,rfl,hc,d,hn,Q⟩:=h
  let U:=wT.nd;let y:fo 1 _:=p.bA (by decide);let hr2:fo 2 _:=p.bA (by decide);show(_,ay (fO (je (io (bY (pv 0) T.cl DH y (ak (pv 1) aB)))) (aV (bP (d9 (ak (mU kb aX) aB)))) dH)
   (ay (dW 3 U (kQ (uX p) (dU DT y J (ak (bY (pv 0) T.cl DA y (ak (pv 1) aB)) aB)) (pv 2) (λ_ _=>rfl)))
   (ay (fO (je (qv (pv 3) (λ_=>rfl))) (aV (bP (d9 (ak (mU kb aX) aB)))) dH)
   (ay (fO (io (bY (pv 0) T.cl DL hr2 (ak (pv 1) aB))) (aV (bP (d9 (ak (mU kb aX) aB)))) dH)
   (ay (dW 4 U (dU DB p J (ak (pv 0) (ak (pv 1) (ak (jm cG (pv 3) (mU kb aX)) aB)))))
   (ay (fY (bY (pv 0) T.cl DM p (ak (pv 1) (ak (pv 2) (ak (pv 4) aB)))))
   (aV (bP (d9 (ak (d7 FL J mn cg (ak (pv 4) aB)) aB))))))))),?_)
  room
  let B:=d.bk;let⟨Y,hs⟩:=B.self;show(_,J,A .dX,Y,_,J,hs,J,_,J,A,W,M,h,J,B,_,J,?_);cases C:W.hand h with
  |false=>
   let e:eA W c= #[W,gm (-1)]:=by
    rcases hc with⟨rfl,_⟩|⟨rfl,_⟩<;>show aH C
   show iu J (_,J,eR,λl hl=>Q.Ho d e hl)
  |true=>
   show jg J ?_;let⟨b,rfl,f,g⟩:=k8 C;let⟨us,hu,hua⟩:=B.acts b f g;let hMl:=d.made_le b;let m:=d.gd.ok.made;let⟨r,_⟩:=d.gd.ok.copy b f g;let aav:=d.gd.ok.own b f g;let' o:aa Act:=if kd=1 then(kJ (M b)).1 else(kJ (M b)).2
   let e:eA W c=(match o.getLast? with
     |none=> #[W,gm (-2)]
     |some a=>W.does b kd a.number (uL W.base (W.copy b).acts a) ((uL W.base (W.copy b).acts a).length:Nat)):=by
    let⟨u1,u2⟩:=Tq m r aav;let e1':¬W.hand (b:Int)=aA:=by rw[C];decide
    rcases hc with⟨rfl,rfl⟩|⟨rfl,rfl⟩
    ·change(if W.hand (b:Int)=aA then _ else _)=_
     rw[aD e1',bE,u1];rfl
    ·change(if W.hand (b:Int)=aA then _ else _)=_
     rw[aD e1',bE,u2];rfl
   show(_,J,A .dX,Y,_,J,hs,J,_,J,A,W,M,b,J,B,f,g,A (.acts b),us,M b,J,eE.of hu,hua,(d.gd.kd b),by lk,λD abi aaC aaE us1 us2 S1 hd hU hR aU aR=> ?_);let⟨q,i,abn,hq,s⟩:∃(q:az) (i:aa V),dZ [((cy 1:L2.Key),V.ref aaC),(cy 2,.ref aaE)] (cy (kd:Int))=ag (.ref q)/\D q=ag (.bZ i)/\sM Z.CA D i o:=by
    rcases hc with⟨_,rfl⟩|⟨_,rfl⟩
    ·show(aaC,us1,J,hU,aU)
    ·show(aaE,us2,J,hR,aR)
   let hql:=bL.length s;show(_,J,abi,_,J,(by rw[<-abn];show oW.k (k:=cy (kd:Int)) hd),?_);let t:=d.same S1;let k1:=Q.same S1;show(_,J,_,.inl (i,eE.of hq,J),?_);cases j:o.getLast? with
   |none=>
    let hab:o=[]:=by simpa using j
    let hqs:i=[]:=by
     rw[hab] at s;cases s;rfl
    rw[j] at e;rw[hqs];show iu J (_,J,eR,λl hl=>k1.Ho t e hl)
   |some x=>
    rw[j] at e;let⟨v,E,hva⟩:=OP s j;let hne:i≠[]:=λz=>by rw[z] at E;cases E
    let abD:(!i.isEmpty)=aC:=by cases i with|nil=>show absurd rfl hne|cons _ _=>rfl
    rw[abD];let aaG:x∈o:=Ka j;let H:x∈M b:=by
     let⟨m1,m2⟩:=JC (M b);rcases hc with⟨_,rfl⟩|⟨_,rfl⟩
     ·show m1 x aaG
     ·show m2 x aaG
    let hxh:=(m.hand _ x H).1;let I:x∈(W.copy b).acts:=by
     let:=m.at_ H;show(r.mem m).mpr (by rw[hxh];show H,?_);rw[hxh,aav];show this.2.1
    let L:=t.bk;let⟨dx1,hs1⟩:=L.self;show jg J (_,J,A .dX,dx1,_,J,hs1,J,_,J,A,W,M,b,J,L,f,g,by lk,_,J,jg J ?_);show(_,J,_,J,_,J,_,J,q,_,_,_,J,J,eE.of hq,Uy E,A,W,M,n,b,v,x,J,t,f,g,hva,I,λH2 N u S2 hwn hwr hws=> ?_);let WD2:=t.same S2;let⟨dx2,hs2⟩:=WD2.bk.self;let kk2:kd<=2/\(kd=1->(kJ (M b)).1≠[])/\(kd=2->(kJ (M b)).2≠[]):=by
     let:o≠[]:=λz=>by rw[z] at j;cases j
     rcases hc with⟨_,rfl⟩|⟨_,rfl⟩
     ·show(by decide,λ_=>this,λz=>nomatch z)
     ·show(by decide,(λz=>nomatch z),λ_=>this)
    let hwF:¬fJ A W.base.hands N:=L.free ok hwn;show(_,J,A .dX,dx2,_,J,hs2,J,_,J,_,J,_,J,A,W,M,n,b,kd,x.number,_,N,u,J,WD2,by lk,f,g,hwr,hws,hwF,Tp m r I,Ki m d.gd.bd r I,kk2,λO c3 W3 (od,hod)=> ?_);show(_,J,N,u,J,.inr (od,hod),eR,λl hl=> ?_);let e:=e.trans (yA d (by lk) f g kd x.number (uL W.base (W.copy b).acts x) _);let S:bB O (bD O l (.bZ [.int (u.length:Int)])):=bB.new hl;let c13:i7 Z D O (fJ A W.base.hands) (fJ A W.base.hands):=((i7.same S2).add hwn).trans c3;let el:u.length=(uL W.base (W.copy b).acts x).length:=(bL.length hws).symm;show k1.is e (c13.then S) (W3.same S) J (c13.none hl) ?_;rw[aw,el];rfl
def TN:bM ["book","numbers"] ["book","numbers"] (bo (fI 51)):=cB
def acE(F:fQ K mg "undo" (fI 51) ["book","numbers"])(a:qI mg "UNDO" 1)(b:-ig "take_back" ["book","hand","kind"] 5 (tJ Z)):-ig "undo" ["book","numbers"] 6 (ic Z 6):=by
 let⟨d,a⟩:=a;show F.def TN iR (λf o p q s H r Q E e h=> ?_);let⟨A,W,M,n,g,t,c,rfl,i,u,j,l,m,x,k⟩:=h;show(_,aV (bP (dU b e J (ak (pv 0) (ak (jm cG (pv 1) aX) (ak (fB (v:=.int 1) J a (d,J)) aB))))),?_)
 room
 cases j with
 |undo h=>show(_,J,_,J,g,_,_,_,J,J,eE.of i,b9 J,A,W,M,n,h,1,_,J,.inl (J,J),l,m,k)
def TQ:bM ["book","numbers"] ["book","numbers"] (bo (fI 52)):=cB
def acI(F:fQ K mg "redo" (fI 52) ["book","numbers"])(a:qI mg "REDO" 2)(b:-ig "take_back" ["book","hand","kind"] 5 (tJ Z)):-ig "redo" ["book","numbers"] 6 (ic Z 7):=by
 let⟨d,a⟩:=a;show F.def TQ iR (λf o p q s H r Q E e h=> ?_);let⟨A,W,M,n,g,t,c,rfl,i,u,j,l,m,x,k⟩:=h;show(_,aV (bP (dU b e J (ak (pv 0) (ak (jm cG (pv 1) aX) (ak (fB (v:=.int 2) J a (d,J)) aB))))),?_)
 room
 cases j with
 |redo h=>show(_,J,_,J,g,_,_,_,J,J,eE.of i,b9 J,A,W,M,n,h,2,_,J,.inr (J,J),l,m,k)
def CM(h b:Nat)(c:Nat)(a:aa Id)(p q:Place):aa (k9×uO):=((jt h a.length c p q).zip a).map λx=> #[[2*b,x.2.1,x.2.2],gw x.1]
def Rz:∀{L:aa (Place×Id)} {a:aa az},SM.bL (λx p=>eW H p x.2) L a->fG (λp (b:aa Int)=>H p=ag (.dC (b.map V.int))) a (L.map λx=>[(x.2.1:Int),(x.2.2:Int)]):=by
 intro _ _ z;induction z with
 |nil=>
  show .nil
 |cons h t c=>
  show .cons h (c)
def Lz(h:jZ L i=ag q)(d:(L.map (·.2)).Nodup):(L.map λx=>[(x.2.1:Int),(x.2.2:Int)])[q]?=ag [(i.1:Int),(i.2:Int)]/\∀m,m<q->(L.map λx=>[(x.2.1:Int),(x.2.2:Int)])[m]?≠ag [(i.1:Int),(i.2:Int)]:=by
 let⟨x,b,e⟩:=GZ h;show(by rw[aF,b,<-e];rfl,λm k z=> ?_);rw[aF] at z;let⟨y,f,a⟩:=bv.mp z;let g:y.2=i:=by
  simp![dL,and_true] at a;show gX (by let:=a.1;lk) (by let:=a.2;lk)
 let c:(L.map (·.2))[m]?=ag i:=by rw[aF,f];show eI ag g
 let j:(L.map (·.2))[q]?=ag i:=by rw[aF,b];show eI ag e
 let:=(rY (List.getElem?_eq_some_iff.mp c).1 d).mp (c.trans j.symm);lk
def NX(C:on r s H R b c)(k:d<2){x:Place×Id}(l:vC (fu c.acts) d (gx b d) x.2=ag x.1):∃g a,H (R (oK d))=ag (.dT g)/\dZ g (iL x.2)=ag (.ref a)/\iD H a x.1:=by
 let⟨u,_,_,m⟩:=C.pl;let⟨n,o,f⟩:=m d k;let⟨e,h,j⟩:=aY.mp ((f.mem x).mpr l);show(_,e.2,o,?_,by rw[<-j];show f.at_ e h);let⟨i,p⟩:=List.mem_iff_getElem?.mp h;let q:(gW n)[i]?=ag #[iL x.2,.ref e.2]:=by
  unfold gW;rw[aF,p,<-j];rfl
 show(Gf (CN f.nd) q).1
def NL:∀{a:aa Id} {b:aa az},SM.bL (λi t=>uN H t [2*c,i.1,i.2]) a b->fG (λk (p:az)=>jo H k p) (a.map λi=>kk [2*c,i.1,i.2]) b:=by
 intro _ _ z;induction z with
 |nil=>
  show .nil
 |cons z t d=>
  show .cons z (d)
def Wc(f:d<2):∀{b:aa Place} {a:aa Id} {c:aa az},SM.bL (λx t=>iD H t x) b c->b.length=a.length->xF H ((b.zip a).map λx=> #[[2*d,x.2.1,x.2.2],gw x.1]) ((a.map λi=>kk [2*d,i.1,i.2]).zip (c.map V.ref)):=by
 intro b a c z;induction z generalizing a with
 |nil=>
  intro e;cases a with
  |nil=>show .nil
  |cons _ _=>simp at e
 |cons h t g=>
  intro e;cases a with
  |nil=>simp at e
  |cons i a=>show .cons (J,.place f h) (g (by simpa using e))
inductive tK(Z:Cs)(e:aa V)(H:Hp)(Q:VK)(E:XK):Prop|mk:∀(A:AU->az) (W:fS) (M:SM.Made) (n h b q:Nat) (f g:az) (a:aa Id) (j:aa az) (L:aa (Place×Id)) (k:aa az) (d:V),e=[.ref (A .dX),.int (h:Int),.int (b:Int),.ref f,.ref g,d]->Wd Z H A n W M->n<=299->1<=h->h<=W.base.hands->b<2->H f=ag (.bZ (j.map V.ref))->SM.bL (λi p=>eW H p i) a j->a.length<=64->a.Nodup->H g=ag (.bZ (k.map V.ref))->SM.bL (λx p=>eW H p x.2) L k->(∀x∈L,x∈eB W.base (W.copy h).acts b)->(L.map (·.2)).Nodup->((d=.jn/\q=L.length)\/∃t i,d=.ref t/\eW H t i/\jZ L i=ag q)->(wG W.base (M.ext h (ed W.base (W.copy h) h 0 0 (CM h b (64*(de (W.copy h).acts h+1)) a (iy L q) (lu L q)))) (ed W.base (W.copy h) h 0 0 (CM h b (64*(de (W.copy h).acts h+1)) a (iy L q) (lu L q)))/\SM.Short (W.copy h) (CM h b (64*(de (W.copy h).acts h+1)) a (iy L q) (lu L q))/\∀c l,i7 Z H c (fJ A W.base.hands) (fJ A W.base.hands)->Wd Z c A (n+1) (W.with_ h (o9 W.base (W.copy h) h 0 0 (CM h b (64*(de (W.copy h).acts h+1)) a (iy L q) (lu L q)))) (M.ext h (ed W.base (W.copy h) h 0 0 (CM h b (64*(de (W.copy h).acts h+1)) a (iy L q) (lu L q))))->H l=au->c l=ag (.bZ [.int (a.length:Int)])->Q (.ref l) c)->tK Z e H Q E
def yd:bM ["book","hand","axis","placed","line","behind","places","at","lower","upper","targets","fresh","number"] ["book","hand","axis","placed","line","behind"] (bo (fI 62)):=cB
def VB(F:fQ K mg "place_all" (fI 62) ["book","hand","axis","placed","line","behind"])(ok:pq Z)(ab6:dY K Z.CB iU)(TC:dY K Z.CC iS)(mn:mg "len"=au)(md:mg "dict"=au)(mz:mg "zip"=au)(DC:-eC Z.CB "copy_of" ["self","hand"] 1 (jT Z))
  (DP:-ig "place_of" ["axis","number"] 1 (oQ 0))(DB:-ig "places_between" ["first","second","hand","number","n"] 3 zn)(DN:-ig "first_number" ["book","hand"] 3 (tO Z))(DD:-ig "do" ["book","hand","writes","answer"] 5 (Qo Z)):
  -ig "place_all" ["book","hand","axis","placed","line","behind"] 6 (tK Z):=by
 show F.def yd (λvs H acg acm h=> ?_) (λady cdv A0 adA abe H vs acg acm s h=> ?_)
 ·let⟨A,W,M,aa0,h,c,q,u,g,d,ips,L,Y,bh,rfl,_⟩:=h
  rfl
 ·let⟨A,W,M,aa0,h,c,q,u,g,d,ips,L,Y,bh,rfl,l,hn,v,y,hax,hpl,aa5,hil,act,O,hL,abi,hnd,hbh,wok,sh,acD⟩:=h
  let D:=yd.nd;let hr1:fo 1 _:=s.bA (by decide);let hr3:fo 3 _:=s.bA (by decide);show(_,ay (dW 6 D (jm cG (cA (bY (pv 0) ab6.cl DC hr1 (ak (pv 1) aB)) J) (pv 2)))
   (ay (dW 7 D (mV (fL rO (pv 5) kP (fU _)) (d7 cJ J mn cg (ak (pv 4) aB)) (qy bX EA PySem.F.type_list_index (Oa (u8 s)) (pv 4) (ak (pv 5) aB))))
   (ay (dW 8 D (mV (fL ZU (pv 7) aX (fU _)) (kQ (uX s) (pv 6) (jm cG (pv 4) (ij pK (pv 7) aX)) (λ_ _=>rfl)) (jf aB)))
   (ay (dW 9 D (mV (fL wV (pv 7) (d7 cJ J mn cg (ak (pv 4) aB)) (fU _)) (kQ (uX s) (pv 6) (jm cG (pv 4) (pv 7)) (λ_ _=>rfl)) (jf aB)))
   (ay (CI (i:=10) (own:=[#["number",12]]) J D J J J (mv (pv 3)) (mW J) (λabe H C acV fp=>fM (i:=12) D J (gA J)) (λ_ _ _ _ _=>rm) (λabe H C acV fp=>dU DP hr1 J (ak (pv 2) (ak (pv 12) aB))))
   (ay (dW 11 D (dU DB hr3 J (ak (pv 8) (ak (pv 9) (ak (pv 1) (ak (dU DN hr3 J (ak (pv 0) (ak (pv 1) aB))) (ak (d7 cJ J mn cg (ak (pv 3) aB)) aB)))))))
   (aV (bP (dU DD s J (ak (pv 0) (ak (pv 1) (ak (Le (Zp s) J J md J mz (ak (pv 10) (ak (pv 11) aB))) (ak (d7 cJ J mn cg (ak (pv 3) aB)) aB)))))))))))),?_)
  room
  let B:=l.bk;let⟨dx,hs⟩:=B.self;let C:=B.copy h v y;let⟨dc,hc⟩:=C.self;let⟨co,_⟩:=l.gd.ok.copy h v y;let mo:=l.gd.ok.made;let acW:=l.gd.ok.own h v y;let hlp:=bL.length hL;let edo:DU (A (.copy h .zx)) (A (.copy h .zw)) c=A (.copy h (oK c)):=by unfold DU oK;split<;>rfl
  let hqL:q<=L.length:=by
   rcases hbh with⟨_,e⟩|⟨t,b,_,_,e⟩
   ·lk
   ·let⟨x,f,_⟩:=GZ e
    let:=(List.getElem?_eq_some_iff.mp f).1;lk
  let get:∀j (x:Place×Id),L[j]?=ag x->∃Q a p,H (A (.copy h (oK c)))=ag (.dT Q)/\Y[j]?=ag p/\eW H p x.2/\dZ Q (iL x.2)=ag (.ref a)/\iD H a x.1:=λj x f=>by
   let⟨Q,a,e1,e2,e3⟩:=NX C hax (((l.line v y c).2.1 x).mp (abi x (bg f)));let⟨p,e4,e5⟩:=bL.get hL f;show(Q,a,p,e1,e4,e5,e2,e3)
  show(_,J,A .dX,dx,_,J,hs,J,_,J,A,W,M,h,J,B,v,y,A (.copy h .self),Z.CC,dc,_,_,J,hc,TC.cl,TC.na _ (by simp),(cF _ _).2.2.2.2.2.1,_,J,A (.copy h .rq),_,_,_,J,J,eE.of C.rq,BR hax,?_);rw[edo];dsimp only[rE];show ya (λm T=>m=[ag (.ref (A .dX)),ag (.int (h:Int)),ag (.int (c:Int)),ag (.ref u),ag (.ref g),ag bh,ag (.ref (A (.copy h (oK c)))),ag (.int (q:Int)),au,au,au,au,au]/\H=T) ?_ λn=> ?_
  ·rintro m T ⟨rfl,rfl⟩
   room
   show ya (λm T=>∃a,m=[ag (.ref (A .dX)),ag (.int (h:Int)),ag (.int (c:Int)),ag (.ref u),ag (.ref g),ag bh,ag (.ref (A (.copy h (oK c)))),ag (.int (q:Int)),ag (.ref a),au,au,au,au]/\bB H T/\iD T a (iy L q)) ?_ λn=> ?_
   ·rintro m T ⟨a,rfl,E,ha⟩
    room
    show ya (λm H2=>∃aaG,m=[ag (.ref (A .dX)),ag (.int (h:Int)),ag (.int (c:Int)),ag (.ref u),ag (.ref g),ag bh,ag (.ref (A (.copy h (oK c)))),ag (.int (q:Int)),ag (.ref a),ag (.ref aaG),au,au,au]/\bB H H2/\iD H2 a (iy L q)/\iD H2 aaG (lu L q)) ?_ λn=> ?_
    ·rintro m H2 ⟨aaG,rfl,S2,ha2,hb2⟩
     room
     show(_,J,u,J,(_,eE.of (S2 _ _ hpl)),λaa7 hD=> ?_);show yt (λb k=>bB H2 k/\∃o:aa az,k aa7=ag (.bZ (o.map V.ref))/\SM.bL (λb t=>uN k t [2*c,b.1,b.2]) (d.take b) o) ?_ (λb k _ (S,_)=>eE.of (S _ _ (S2 _ _ hpl))) ?_ ?_
     ·show(bB.new hD,[],aw,.nil)
     ·rintro b adD k hi ⟨S,o,hT,hta⟩
      room
      rw[aF] at hi;let⟨p,hp,rfl⟩:=bv.mp hi;let⟨x,f,hxp⟩:=bL.yz aa5 hp;let etk:d.take (b+1)=d.take b++[x]:=by rw[cE,f];rfl
      show(J,HE (_,J,_,J,(c:Int),_,J,λt U=> ?_));let r:bB k (bD k t (.dC [.int (2*(c:Int)+0),.ref p])):=bB.new U;let hT3:=r _ _ hT;let tg:=GG (by rw[aw];congr 4) (r _ _ (S _ _ (S2 _ _ hxp)));let g4:Grows 0 (bD k t (.dC [.int (2*(c:Int)+0),.ref p])) (bD (bD k t (.dC [.int (2*(c:Int)+0),.ref p])) aa7 (.bZ (o.map V.ref++[.ref t]))):=Grows.put hT3 (λz=>z);show(_,hT3,jy (by rw[ao,<-(bL.length hta),dq];lk),(S.trans r).put hD,o++[t],by rw[aw,bz];rfl,?_);rw[etk];show bL.snoc (bL.imp (λ_ _ z=>g4.pI (r.pI z)) hta) (g4.pI tg)
     ·rintro H3 ⟨r,o,hT,hta⟩
      room
      rw[ao,<-bL.length aa5,cu] at hta;let S03:=S2.trans r;let hp1:3*(iy L q).length<=16+200*p8 (W.copy h).acts:=zt mo l.gd.bd co abi q;let hmx:p8 (W.copy h).acts<=aa0:=GS _ λa ha=>l.gd.bd.time _ a (co.made mo ha);show(_,J,_,J,_,J,_,J,_,J,A,W,M,h,J,(B.same S03),v,y,_,J,u,_,J,.inl (eE.of (S03 _ _ hpl)),?_);let eil:(ips.map V.ref).length=d.length:=by rw[ao,bL.length aa5]
      rw[eil];show(a,aaG,_,_,h,64*((M h).length+1),d.length,J,ha2.bA (CA:=0) r.grows,hb2.bA (CA:=0) r.grows,by lk,by lk,λH4 l4 ts4 S4 adN hl4 abc=> ?_);rw[<-acW] at abc;let S04:=S03.trans S4;let abD:SM.bL (λb t=>uN H4 t [2*c,b.1,b.2]) d o:=bL.imp (λ_ _ z=>S4.pI z) hta;let hlt:=bL.length abD;let ac7:=bL.length abc;rw[jk] at ac7;let ndk:((d.map λb=>kk [2*c,b.1,b.2]).zip (ts4.map V.ref)|>.map (·.1)).Nodup:=by
       rw[PD (by rw[ao,ao];lk)];show bN.mpr (eT (λ{b j} hne e=>hne ?_) act);let e':=zF (.inl (2*c,b.1,b.2,by lk,J)) (.inl (2*c,j.1,j.2,by lk,J)) e;simp![dL,and_true,true_and] at e';show gX e'.1 e'.2
      show(_,J,_,J,_,J,_,J,aa7,l4,o,_,_,J,eE.of (S4 _ _ hT),eE.of hl4,by rw[ao];lk,(NL abD),λaaC hd=> ?_);rw[qA ndk];let S5:bB H4 (bD H4 aaC (.dT ((d.map λb=>kk [2*c,b.1,b.2]).zip (ts4.map V.ref)))):=bB.new hd;let S05:=S04.trans S5;let hdn:=S04.free hd;let hws:xF (bD H4 aaC (.dT ((d.map λb=>kk [2*c,b.1,b.2]).zip (ts4.map V.ref)))) (CM h c (64*(de (W.copy h).acts h+1)) d (iy L q) (lu L q)) ((d.map λb=>kk [2*c,b.1,b.2]).zip (ts4.map V.ref)):=
       Wc hax (bL.imp (λ_ _ z=>z.bA (CA:=0) S5.grows) abc) (by rw[jk])
      show(_,J,u,_,J,.inl (eE.of (S05 _ _ hpl)),?_);rw[eil];show(A,W,M,aa0,h,_,aaC,_,_,J,l.same S05,hn,v,y,aw,hws,B.free ok hdn,wok,sh,λH6 l6 c6 W6 hl6 adc=> ?_);let c05:i7 Z H (bD H4 aaC (.dT ((d.map λb=>kk [2*c,b.1,b.2]).zip (ts4.map V.ref)))) (fJ A W.base.hands) (λa=>fJ A W.base.hands a\/a=aaC):=(i7.same S05).add hdn;show acD H6 l6 (c05.trans c6) W6 (S05.free hl6) adc
    ·
     show(_,J,_,J,g,_,J,.inl (eE.of (E _ _ O)),_,_,J,J,_,J,?_);let ell:(Y.map V.ref).length=L.length:=by rw[ao,hlp]
     rw[ell];by_cases abN:q<L.length
     ·let⟨x,f⟩:∃x,L[q]?=ag x:=(_,aL abN)
      let⟨Q,a',p,e1,e2,e3,e4,e5⟩:=get q x f;let I:lu L q=x.1:=by unfold lu;rw[f];rfl
      show iu (decide_eq_true (by lk)) (_,J,_,J,_,J,g,_,_,_,J,J,eE.of (E _ _ O),b9 (by rw[aF,e2];rfl),A (.copy h (oK c)),_,J,.inr (_,_,_,.inl (E _ _ e1),J,eW.key (E _ _ e3),e4.symm),n _ _ (a',J,E,ha,?_));rw[I];show e5.bA (CA:=0) E.grows
     ·let I:lu L q=[]:=by unfold lu;rw[b8 (by lk)];rfl
      show jg (decide_eq_false (by lk)) (bW _,λt U=>n _ _ (t,J,E.add U,ha.bA (CA:=0) (Grows.new U),?_));rw[I];show([],aw,.nil)
   ·
    show(_,J,_,_,J,J,_,J,?_);by_cases abN:0<q
    ·let⟨x,f⟩:∃x,L[q - 1]?=ag x:=(_,aL (by lk))
     let⟨Q,a',p,e1,e2,e3,e4,e5⟩:=get (q - 1) x f;let I:iy L q=x.1:=by unfold iy lu;rw[aD (by lk),f];rfl
     let ei:((q:Int)- 1)=((q - 1:Nat):Int):=by lk
     show iu (decide_eq_true (by lk)) (_,J,_,J,_,J,_,_,J,J,g,_,_,_,J,J,eE.of O,by rw[ei];show b9 (by rw[aF,e2];rfl),A (.copy h (oK c)),_,J,.inr (_,_,_,.inl e1,J,eW.key e3,e4.symm),n _ _ (a',J,λ_ _ z=>z,?_));rw[I];show e5
    ·let I:iy L q=[]:=by unfold iy;rw[aH (by lk)]
     show jg (decide_eq_false (by lk)) (bW _,λt U=>n _ _ (t,J,bB.new U,?_));rw[I];show([],aw,.nil)
  ·
   show(_,J,J,_,J,?_);rcases hbh with⟨rfl,e⟩|⟨t,b,rfl,hti,e⟩
   ·show iu J (_,J,g,_,J,.inl (eE.of O),n _ _ (?_,J))
    let ell:(Y.map V.ref).length=q:=by rw[ao,<-hlp,e]
    rw[ell];rfl
   ·let⟨f1,f2⟩:=Lz e hnd
    show jg (decide_eq_false (λz=>nomatch z)) (_,J,.inl (J,_,eE.of O),_,J,g,Y,_,t,[(b.1:Int),(b.2:Int)],q,J,J,eE.of O,Rz hL,hti,f1,f2,n _ _ (J,J))
end
def FE(B:fW Z H A W M)(ok:pq Z)(hl:H l=au)(b:¬p9 R l):¬fJ (wF A h R) W.base.hands l:=by
 rintro⟨t,a,e⟩;cases t with
 |copy g r=>
  rw[sv] at e;by_cases c:g=h
  ·rw[aH c] at e
   show b (r,e)
  ·rw[aD c] at e
   show B.free ok hl (.copy g r,a,e)
 |dX=>show B.free ok hl (.dX,a,e)
 |copies=>show B.free ok hl (.copies,a,e)
 |made=>show B.free ok hl (.made,a,e)
 |acts g=>show B.free ok hl (.acts g,a,e)
def nA(h a n:Nat):aa Id:=(fA n).map λi=> #[h,a+i]
def WN(h c a n:Nat)(p q:Place):CM h c a (nA h a n) p q=(jt h n a p q).zipIdx.map λx=> #[[2*c,h,a+x.2],gw x.1]:=by
 unfold CM nA;rw[ao,oz];apply j9;intro i;rw[aF,aF,Kd];by_cases d:i<n
 ·let b:i<(jt h n a p q).length:=by rw[jk];show d
  let e:((fA n).map λi=>(#[h,a+i]:Id))[i]?=ag #[h,a+i]:=by rw[aF,gb d];rfl
  let f:((jt h n a p q).zip ((fA n).map λi=>(#[h,a+i]:Id)))[i]?=ag #[(jt h n a p q)[i],#[h,a+i]]:=mQ.mpr (aL b,e);rw[f,aL b];simp
 ·let b:(jt h n a p q).length<=i:=by rw[jk];lk
  rw[b8 (by rw[pX];lk),b8 b];rfl
def Rm{a k:Nat}(c:((eB b l a).map (·.2)).Nodup)(h:(cz b l a)[k]?=ag x):∃q,jZ (eB b l a) x.2=ag q:=by
 let⟨q,d⟩:=List.mem_iff_getElem?.mp ((yp l a).mem (bg h));show(q,Bw c d)
section
universe a
variable{Z:Cs}
def vj(ok:pq Z)(a:Wd Z H A n W M)(m:n<=300)(c:1<=h)(d:h<=W.base.hands)(i:ax<2)
  (k:∀b e l f,i7 Z H b (fJ A W.base.hands) (fJ e W.base.hands)->Wd Z b e n W M->e .dX=A .dX->e (.copy h .self)=A (.copy h .self)->H l=au->¬fJ e W.base.hands l->l≠Z.PT->l≠Z.P2->b l=ag (.bZ (f.map V.ref))->
   SM.bL (λx p=>eW b p x.2) (cz W.base (W.copy h).acts ax) f->Q (.ref l) b):rf Z.CA Z.CC Z.PT [.ref (A (.copy h .self)),.int (ax:Int)] H Q E:=by
 let B:=a.Br c d m i;show(A (.copy h .self),ax,(λr=>A (.copy h r)),W.base,(W.copy h).acts,(W.copy h).waits,_,_,_,_,eB W.base (W.copy h).acts ax,qO (W.copy h).acts ax,J,J,i,(a.bk.copy h c d),a.t1,a.line c d ax,a.gone c d ax,by lk,λb o l f j q s g t u v=> ?_);let⟨y,z⟩:=a.EO ok c d j q s;show k b (wF A h o) l f z y J ?_ g (FE a.bk ok g t) (a.t1.ne g) (a.t2.ne g) u v;rw[sv,aH J];show j.self
def MK(ok:pq Z)(a:Wd Z H A n W M)(g:1<=h)(i:h<=W.base.hands)(m:c<2)
  (k:∀b d l e,i7 Z H b (fJ A W.base.hands) (fJ d W.base.hands)->Wd Z b d n W M->d .dX=A .dX->d (.copy h .self)=A (.copy h .self)->H l=au->¬fJ d W.base.hands l->l≠Z.PT->l≠Z.P2->b l=ag (.bZ (e.map V.ref))->
   SM.bL (λx p=>eW b p x.2) (eB W.base (W.copy h).acts c) e->Q (.ref l) b):xr Z.CA Z.CC Z.PT [.ref (A (.copy h .self)),.int (c:Int)] H Q E:=by
 show(A (.copy h .self),c,(λr=>A (.copy h r)),W.base,(W.copy h).acts,(W.copy h).waits,_,_,_,_,eB W.base (W.copy h).acts c,J,J,m,(a.bk.copy h g i),a.t1,a.line g i c,λb o l e j q s f t u v=> ?_);let⟨y,z⟩:=a.EO ok g i j q s;show k b (wF A h o) l e z y J ?_ f (FE a.bk ok f t) (a.t1.ne f) (a.t2.ne f) u v;rw[sv,aH J];show j.self
def Ef(h:bV b 0 1=aC):∃a:Nat,b=a/\a<2:=by
 let:=iQ.mp h;show(b.toNat,by lk,by lk)
def Qx:bM ["book","numbers","hand","axis","k","n","copy","there","first","fresh","i"] ["book","numbers"] (bo (fI 47)):=cB
def adH(F:fQ K mg "put" (fI 47) ["book","numbers"])(ok:pq Z)(abn:dY K Z.CB iU)(TC:dY K Z.CC iS)(mn:mg "len"=au)(mr:mg "range"=au)(cP:qI mg "MOST_PUT" 16)(DX:-ig "is_on_axis" ["book","hand","axis"] 2 (vq Z))(DC:-eC Z.CB "copy_of" ["self","hand"] 1 (jT Z))
  (DT:-eC Z.CC "there" ["self","axis"] 4 (rf Z.CA Z.CC Z.PT))(DL:-eC Z.CC "line" ["self","axis"] 2 (xr Z.CA Z.CC Z.PT))(DN:-ig "first_number" ["book","hand"] 3 (tO Z))(DI:-ig "nth" ["there","k"] 1 (Mj K))
  (DA:-ig "place_all" ["book","hand","axis","placed","line","behind"] 6 (tK Z)):-ig "put" ["book","numbers"] 7 (ic Z 2):=by
 let⟨tP,cP⟩:=cP;show F.def Qx iR (λadc cdv A0 adx aaV H vs abo ady u h=> ?_);let⟨A,W,M,abA,L,ns,adz,rfl,O,hnf,hcr,k,hn,adB,aa0⟩:=h;let o:=Qx.nd;let hr1:fo 1 _:=u.bA (by decide);let hr2:fo 2 _:=u.bA (by decide);let hr3:fo 3 _:=u.bA (by decide);let hr4:fo 4 _:=u.bA (by decide);show(_,ay (CJ (i:=2) o J (J3 J) (jm cG (pv 1) aX)) (ay (dW 3 o (jm cG (pv 1) aX)) (ay (dW 4 o (jm cG (pv 1) aX)) (ay (dW 5 o (jm cG (pv 1) aX))
  (ay (fO (je (PW.pt (oS (io (dU DX hr2 J (ak (pv 0) (ak (pv 2) (ak (pv 3) aB))))) (n8 (jU jz jz aX (pv 5) (fB (v:=.int 16) J cP (tP,J))))))) (aV (bP (d9 (ak (mU kb aX) aB)))) dH)
  (ay (dW 6 o (bY (pv 0) abn.cl DC hr1 (ak (pv 2) aB))) (ay (dW 7 o (bY (pv 6) TC.cl DT hr4 (ak (pv 3) aB)))
  (ay (fO (je (jU jz jz aX (pv 4) (d7 cJ J mn cg (ak (pv 7) aB)))) (aV (bP (d9 (ak (mU kb aX) aB)))) dH)
  (ay (CJ (i:=8) o J (J3 J) (dU DN hr3 J (ak (pv 0) (ak (pv 2) aB))))
  (ay (CI (i:=9) (own:=[#["i",10]]) J o J J J (sy J mr (ak (pv 5) aB)) (mW J) (λaaV H aax abE fp=>fM (i:=10) o J (gA J)) (λ_ _ _ _ _=>rm) (λaaV H aax abE fp=>jf (ak (pv 2) (ak (ij mK (pv 8) (pv 10)) aB))))
  (aV (bP (dU DA u J (ak (pv 0) (ak (pv 2) (ak (pv 3) (ak (pv 9) (ak (bY (pv 6) TC.cl DL hr2 (ak (pv 3) aB)) (ak (dU DI hr1 J (ak (pv 7) (ak (pv 4) aB))) aB)))))))))))))))))),?_)
 room
 cases hcr with
 |put h ax kk T=>
  show(_,J,L,_,_,_,J,J,eE.of O,b9 J,_,J,L,_,_,_,J,J,eE.of O,b9 J,_,J,L,_,_,_,J,J,eE.of O,b9 J,_,J,L,_,_,_,J,J,eE.of O,b9 (j:=3) J,?_);let no:(W.hand h&&(bV ax 0 1&&bV T 1 16))=aA->∀l,H l=au->abo (.ref l) (bD H l (.bZ [.int (-1)])):=λaaC l hl=>aa0.Ho k (aH aaC) hl;let B:=k.bk;let⟨dx,hs⟩:=B.self;show(_,J,_,J,_,J,A,W,M,h,ax,J,B,_,J,?_);cases e12:(W.hand h&&bV ax 0 1) with
  |false=>show jg J (iu J (_,J,eR,λl hl=>no (by rw[<-EI,e12];rfl) l hl))
  |true=>
   let⟨e1,e2⟩:=Bool.and_eq_true_iff.mp e12;show iu J (yi (oR J) NT ?_);cases e3:bV T 1 16 with
   |false=>show iu J (_,J,eR,λl hl=>no (by rw[e1,e2,e3];rfl) l hl)
   |true=>
    show jg J ?_;let⟨b,rfl,d,e⟩:=k8 e1;let⟨a,rfl,U⟩:=Ef e2;let b3:=iQ.mp e3;let⟨m,hm⟩:∃m:Nat,T=m:=(T.toNat,by lk);subst hm;let abb:eA W (.put (b:Int) (a:Int) kk (m:Int))=(if bV kk 0 ((cz W.base (W.copy b).acts a).length)=aA then #[W,gm (-2)] else W.does b 0 0 (Hv W.base (W.copy b) b a kk.toNat m) (m:Int)):=by
     change(if(W.hand (b:Int)&&(bV (a:Int) 0 1&&bV (m:Int) 1 16))=aA then _ else _)=_;rw[e1,e2,e3,aD (by decide)];rfl
    let aax:=B.copy b d e;let⟨dc,hc⟩:=aax.self;show(_,J,A .dX,dx,_,J,hs,J,_,J,A,W,M,b,J,B,d,e,?_);show(_,J,A (.copy b .self),dc,_,J,hc,J,_,J,GR (vj ok k (by lk) d e U λH1 A1 l Y c1 y eb es hln hlf lp lp2 hle abd=> ?_));let k1:=aa0.trans c1 eb;let hlp:=bL.length abd;show yi (hi:=((Y.map V.ref).length:Int)) (oR J) (CD J hle) ?_;let ell:((Y.map V.ref).length:Int)=((cz W.base (W.copy b).acts a).length:Int):=by rw[ao,hlp]
    rw[ell];cases e4:bV kk 0 ((cz W.base (W.copy b).acts a).length:Int) with
    |false=>
     let est:eA W (.put (b:Int) (a:Int) kk (m:Int))= #[W,gm (-2)]:=by rw[abb,aH e4]
     show iu J (_,J,eR,λp hp=>k1.Ho y est hp)
    |true=>
     show jg J ?_;let b4:=iQ.mp e4;let⟨f,hj⟩:∃f:Nat,kk=f:=(kk.toNat,by lk);subst hj;let est:eA W (.put (b:Int) (a:Int) (f:Int) (m:Int))= #[W.with_ b (o9 W.base (W.copy b) b 0 0 (Hv W.base (W.copy b) b a f m)),gm (m:Int)]:=by
      rw[abb,aD (by rw[e4];decide)];show yA k (by lk) d e 0 0 _ _
     let B1:=y.bk;show(_,J,_,J,A1,W,M,b,(by rw[eb];rfl),B1,d,e,?_);show(_,J,(m:Int),J,by lk,by lk,λaaG C=> ?_);let act:=k.gd.ok.own b d e;show yr (n:=((m:Int)).toNat) (λc g=>bB H1 g/\∃r:aa az,g aaG=ag (.bZ (r.map V.ref))/\SM.bL (λc p=>eW g p c) (nA b (64*((M b).length+1)) c) r) ?_ ?_ ?_
     ·show(bB.new C,[],aw,.nil)
     ·rintro c g acw ⟨S,r,hT,D⟩
      room
      rw[bE] at acw;let aav:(nA b (64*((M b).length+1)) c).length=c:=by unfold nA;simp
      show(J,HE (_,J,_,J,_,J,_,_,J,J,lB,λt ht=> ?_));let s:bB g (bD g t (.dC [.int (b:Int),.int (((64*((M b).length+1):Nat):Int)+(0+(c:Int)))])):=bB.new ht;let hT3:=s _ _ hT;let hid:eW (bD g t (.dC [.int (b:Int),.int (((64*((M b).length+1):Nat):Int)+(0+(c:Int)))])) t #[b,64*((M b).length+1)+c]:=by
       change bD g t _ t=_;rw[aw]
       congr 5
       lk
      let g4:Grows 0 (bD g t (.dC [.int (b:Int),.int (((64*((M b).length+1):Nat):Int)+(0+(c:Int)))])) (bD (bD g t (.dC [.int (b:Int),.int (((64*((M b).length+1):Nat):Int)+(0+(c:Int)))])) aaG (.bZ (r.map V.ref++[.ref t]))):=Grows.put hT3 (λz=>z);show(_,hT3,jy (by rw[ao,<-(bL.length D),aav];lk),(S.trans s).put C,r++[t],by rw[aw,bz];rfl,?_);let esu:nA b (64*((M b).length+1)) (c+1)=nA b (64*((M b).length+1)) c++[#[b,64*((M b).length+1)+c]]:=by unfold nA;rw[uU,bz];rfl
      rw[esu];show bL.snoc (bL.imp (λ_ _ z=>g4.dC (s _ _ z)) D) (g4.dC hid)
     ·rintro H3 ⟨s,r,hT,D⟩
      room
      rw[bE,<-act] at D;let W3:=y.same s;let⟨dc3,hc3⟩:=(W3.bk.copy b d e).self;rw[es] at hc3;show(_,J,_,J,_,J,_,J,_,J,A (.copy b .self),dc3,_,J,hc3,J,_,J,?_);let go:=λQ' E' kq=>MK (E:=E') (Q:=Q') ok W3 d e U kq;rw[es] at go;show GR (go _ E0 λH4 A4 l4 ps4 I W4 eb4 es4 adE adM lp4 adO acX acY=> ?_);let k4:=(k1.same s).trans I eb4;let ac0:=I.oM (s _ _ hle) hlf lp lp2;let hT4:=I.oM hT (B1.free ok C) (y.t1.ne C) (y.t2.ne C);let ac5:SM.bL (λ(c:Id) p=>eW H4 p c) (nA b (64*(de (W.copy b).acts b+1)) m) r:=bL.imp (λ_ _ z=>I.grow.dC z) D;show(_,J,_,J,l,_,f,J,ac0,?_);let aav:(nA b (64*(de (W.copy b).acts b+1)) m).length=m:=by unfold nA;simp
      let ndL:=k.nj d e a;let⟨q,hq,hbh⟩:∃q,(((cz W.base (W.copy b).acts a)[f]?).bind λx=>jZ (eB W.base (W.copy b).acts a) x.2).getD (eB W.base (W.copy b).acts a).length=q/\
        (((((Y.map V.ref)[f]?).getD .jn)=.jn/\q=(eB W.base (W.copy b).acts a).length)\/∃t c,(((Y.map V.ref)[f]?).getD .jn)=.ref t/\eW H4 t c/\jZ (eB W.base (W.copy b).acts a) c=ag q):=by
       cases ej:(cz W.base (W.copy b).acts a)[f]? with
       |none=>
        show(_,J,.inl (?_,J));let:=List.getElem?_eq_none_iff.mp ej;rw[b8 (by rw[ao];lk)];rfl
       |some x=>
        let⟨p,hp,hpx⟩:=bL.get abd ej;let⟨q,hq⟩:=Rm ndL ej;show(q,by change(jZ _ x.2).getD _=q;rw[hq];rfl,.inr (p,x.2,by rw[aF,hp];rfl,I.grow.dC (s _ _ hpx),hq))
      let ac8:CM b a (64*(de (W.copy b).acts b+1)) (nA b (64*(de (W.copy b).acts b+1)) m) (iy (eB W.base (W.copy b).acts a) q) (lu (eB W.base (W.copy b).acts a) q)=Hv W.base (W.copy b) b a f m:=by
       rw[WN,<-hq];rfl
      let⟨co,_⟩:=k.gd.ok.copy b d e;let ndi:(nA b (64*(de (W.copy b).acts b+1)) m).Nodup:=by
       unfold nA;show bN.mpr (eT (λhne aaC=>hne ?_) AG);let:=eI yW aaC;simp only at this;lk
      show(A4,W,M,abA,b,a,q,aaG,l4,nA b (64*(de (W.copy b).acts b+1)) m,r,_,ps4,_,(by rw[eb4,eb];rfl),W4,hn,d,e,U,hT4,ac5,by rw[aav];lk,ndi,acX,acY,λx hx=>hx,ndL,hbh,?_);rw[ac8];show(WM d U (by lk),NV k.gd.ok.made k.gd.bd co (by lk),λH5 l5 c5 W5 adb hl5=> ?_);rw[aav] at hl5;show k4.is est c5 W5 J adb hl5
def MZ(a:aa V)(h:k+n<=a.length):pM a (ag (k:Int)) (ag ((k:Int)+(n:Int)))=(a.drop k).take n:=by
 let e:((k:Int)+(n:Int))=((k+n:Nat):Int):=by lk
 unfold pM;rw[e,rj,rj,j6 h,j6 (show k<=a.length by lk),nY]
theorem bL.drop:∀{l:aa a} {m:aa b} (n:Nat),SM.bL R l m->SM.bL R (l.drop n) (m.drop n)
 |_,_,0,h=>by rw[wC,wC];show h
 |_,_,n+1,.nil=>.nil
 |_,_,n+1,.cons h t=>bL.drop n t
theorem MS(c:a<2):∀b:aa (Place×Id),xF H (b.map λx=> #[[2*a+1,x.2.1,x.2.2],[1]]) (b.map λx=> #[kk [2*a+1,x.2.1,x.2.2],V.bl aC])
 |[]=>.nil
 |x::b=>.cons (J,.gone aC c) (MS c b)
def WI(d:∀a:VK,a (.int x) H->e b H a)(f:∀a:VK,a (.int y) H->g b H a)(hc:∀a:VK,a (.int z) H->h b H a)(q:Q (decide (x<y)&&decide (y<z)) H):
  xV (vn (GJ λi j=>.bl (decide (i<j))) (GJ λi j=>.bl (decide (i<j))) e g h) b H Q:=by
 unfold xV vn;show d _ (f _ (x,y,J,J,_,J,?_));by_cases c:x<y
 ·rw[decide_eq_true c,F9] at q
  show iu (decide_eq_true c) (hc _ (y,z,J,J,_,J,q))
 ·rw[decide_eq_false c,qS] at q
  show jg (decide_eq_false c) (_,J,q)
def WJ(c:a[i]?=ag (ag (.int x)))(d:a[j]?=ag (ag (.int y))):∀b:VK,b (.int (x+y)) H->Mc (GJ λi j=>.int (i+j)) (vm i) (vm j) a H b:=
 λ_ q=>(_,c,_,d,x,y,J,J,q)
theorem MG(i:Id):∀a:aa (Place×Id),(dZ (a.map λy=> #[iL y.2,V.bl aC]) (iL i)).isSome=(a.map (·.2)).contains i
 |[]=>rfl
 |y::a=>by
  rw[bi,bi,List.contains_cons];by_cases c:y.2=i
  ·rw[jx (by rw[c]),c]
   simp
  ·rw[iZ (λz=>c (jE z)),MG i a]
   let:(i==y.2)=aA:=by simp[ff c]
   rw[this,Vg]
def Fl:bM ["book","numbers","hand","axis","k","n","there","writes","number"] ["book","numbers"] (bo (fI 48)):=cB
def aam(F:fQ K mg "remove" (fI 48) ["book","numbers"])(ok:pq Z)(abB:dY K Z.CB iU)(TC:dY K Z.CC iS)(md:mg "dict"=au)(cP:qI mg "MOST_TAKEN" 64)(DX:-ig "is_on_axis" ["book","hand","axis"] 2 (vq Z))(DC:-eC Z.CB "copy_of" ["self","hand"] 1 (jT Z))
  (DT:-eC Z.CC "there" ["self","axis"] 4 (rf Z.CA Z.CC Z.PT))(DR:-ig "is_run" ["there","k","n"] 1 (Bl K))(DG:-ig "gone_of" ["axis","number"] 1 (oQ 1))(DD:-ig "do" ["book","hand","writes","answer"] 5 (Qo Z)):
  -ig "remove" ["book","numbers"] 6 (ic Z 3):=by
 let⟨tP,cP⟩:=cP;show F.def Fl iR (λac7 cdv A0 ac9 aa7 H vs abC ada y h=> ?_);let⟨A,W,aav,abD,M,ns,abE,rfl,O,hnf,hcr,o,hn,adc,abb⟩:=h;let d:=Fl.nd;let hr1:fo 1 _:=y.bA (by decide);let hr2:fo 2 _:=y.bA (by decide);let hr4:fo 4 _:=y.bA (by decide);show(_,ay (dW 2 d (jm cG (pv 1) aX)) (ay (CJ (i:=3) d J (J3 J) (jm cG (pv 1) aX)) (ay (dW 4 d (jm cG (pv 1) aX)) (ay (dW 5 d (jm cG (pv 1) aX))
  (ay (fO (je (PW.pt (oS (io (dU DX hr2 J (ak (pv 0) (ak (pv 2) (ak (pv 3) aB))))) (n8 (jU jz jz aX (pv 5) (fB (v:=.int 64) J cP (tP,J))))))) (aV (bP (d9 (ak (mU kb aX) aB)))) dH)
  (ay (dW 6 d (bY (bY (pv 0) abB.cl DC hr1 (ak (pv 2) aB)) TC.cl DT hr4 (ak (pv 3) aB)))
  (ay (fO (je (io (dU DR hr1 J (ak (pv 6) (ak (pv 4) (ak (pv 5) aB)))))) (aV (bP (d9 (ak (mU kb aX) aB)))) dH)
  (ay (dW 7 d (jQ (rH (Zp y) J) J md km (ak (CQ (own:=[#["number",8]]) J d (mv (qw x6 (pv 6) (oZ (pv 4)) (oZ (ij mK (pv 4) (pv 5))))) (mW J) (λaa7 H aaC acm fp=>fM (i:=8) d J (gA J)) (λ_ _ _ _ _=>rm)
   (λaa7 H aaC acm fp=>jf (ak (dU DG hr1 J (ak (pv 3) (ak (pv 8) aB))) (ak MC aB)))) aB)))
  (aV (bP (dU DD y J (ak (pv 0) (ak (pv 2) (ak (pv 7) (ak (pv 5) aB)))))))))))))),?_)
 room
 cases hcr with
 |remove h ax c Q=>
  show(_,J,M,_,_,_,J,J,eE.of O,b9 J,_,J,M,_,_,_,J,J,eE.of O,b9 J,_,J,M,_,_,_,J,J,eE.of O,b9 J,_,J,M,_,_,_,J,J,eE.of O,b9 J,?_);let no:(W.hand h&&(bV ax 0 1&&bV Q 1 64))=aA->∀l,H l=au->abC (.ref l) (bD H l (.bZ [.int (-1)])):=λaaE l hl=>abb.Ho o (aH aaE) hl;let B:=o.bk;let⟨dx,hs⟩:=B.self;show(_,J,_,J,_,J,A,W,aav,h,ax,J,B,_,J,?_);cases e12:(W.hand h&&bV ax 0 1) with
  |false=>show jg J (iu J (_,J,eR,λl hl=>no (by rw[<-EI,e12];rfl) l hl))
  |true=>
   let⟨e1,e2⟩:=Bool.and_eq_true_iff.mp e12;show iu J (yi (oR J) NT ?_);cases e3:bV Q 1 64 with
   |false=>show iu J (_,J,eR,λl hl=>no (by rw[e1,e2,e3];rfl) l hl)
   |true=>
    show jg J ?_;let⟨b,rfl,q,r⟩:=k8 e1;let⟨a,rfl,ha⟩:=Ef e2;let b3:=iQ.mp e3;let⟨m,hm⟩:∃m:Nat,Q=m:=(Q.toNat,by lk);subst hm;let abd:eA W (.remove (b:Int) (a:Int) c (m:Int))=(if c<0\/((cz W.base (W.copy b).acts a).length:Int)<c+(m:Int) then #[W,gm (-2)] else W.does b 0 0 (k6 W.base (W.copy b) a c.toNat m) (m:Int)):=by
     change(if(W.hand (b:Int)&&(bV (a:Int) 0 1&&bV (m:Int) 1 64))=aA then _ else _)=_;rw[e1,e2,e3,aD (by decide)];rfl
    let aaC:=B.copy b q r;let⟨dc,hc⟩:=aaC.self;show(_,J,A .dX,dx,_,J,hs,J,_,J,A,W,aav,b,J,B,q,r,A (.copy b .self),dc,_,J,hc,J,_,J,GR (vj ok o (by lk) q r ha λC A1 l g c1 W1 eb es hln hlf lp lp2 hle abh=> ?_));let k1:=abb.trans c1 eb;let hlp:=bL.length abh;show(_,J,_,J,_,J,l,_,c,(m:Int),J,hle,_,J,?_);let ell:((g.map V.ref).length:Int)=((cz W.base (W.copy b).acts a).length:Int):=by rw[ao,hlp]
    rw[ell];by_cases c4:0<=c/\c<=((cz W.base (W.copy b).acts a).length:Int)-(m:Int)
    ·rw[decide_eq_true c4.1,decide_eq_true c4.2]
     show jg J ?_;let⟨j,hj⟩:∃j:Nat,c=j:=(c.toNat,by lk);subst hj;let hjm:j+m<=(cz W.base (W.copy b).acts a).length:=by lk
     let est:eA W (.remove (b:Int) (a:Int) (j:Int) (m:Int))= #[W.with_ b (o9 W.base (W.copy b) b 0 0 (k6 W.base (W.copy b) a j m)),gm (m:Int)]:=by
      rw[abd,aD (by lk)];show yA o (by lk) q r 0 0 _ _
     let⟨co,_⟩:=o.gd.ok.copy b q r;let mo:=o.gd.ok.made;show(_,J,_,J,_,J,_,J,_,J,_,_,J,J,_,J,l,_,J,eE.of hle,λD hl2=> ?_);rw[MZ _ (by rw[ao,<-hlp];show hjm),<-F5,<-F4];let T:bB C (bD C D (.bZ (((g.drop j).take m).map V.ref))):=bB.new hl2;let U:bD C D (.bZ (((g.drop j).take m).map V.ref)) D=ag (.bZ (((g.drop j).take m).map V.ref)):=aw;let E:SM.bL (λx p=>eW (bD C D (.bZ (((g.drop j).take m).map V.ref))) p x.2) (((cz W.base (W.copy b).acts a).drop j).take m) ((g.drop j).take m):=bL.take m (bL.drop j (sE abh T));generalize bD _ _ _=H2 at T U E⊢;generalize aaV:((cz W.base (W.copy b).acts a).drop j).take m=e at E;generalize(g.drop j).take m=qs at U E⊢;let hml:e.length<=m:=by rw[<-aaV,dq];lk
     show(D,J,(_,eE.of U),λaa0 hD=> ?_);show yt (λI k=>bB H2 k/\∃n:aa az,k aa0=ag (.bZ (n.map V.ref))/\fG (yH K k) n ((e.take I).map λx=> #[kk [2*a+1,x.2.1,x.2.2],V.bl aC])) ?_ (λI k _ (S,_)=>eE.of (S _ _ U)) ?_ ?_
     ·show(bB.new hD,[],aw,.nil)
     ·rintro I aa1 k hi ⟨S,n,hT,L⟩
      rw[aF] at hi;let⟨p,hp,rfl⟩:=bv.mp hi;let⟨x,hx,hxp⟩:=bL.yz E hp;let etk:e.take (I+1)=e.take I++[x]:=by rw[cE,hx];rfl
      let hpl:=c9 L;rw[ao,dq] at hpl;show(J,HE (_,J,_,J,(a:Int),_,J,λt ht=>(lB,λu hu=> ?_)));let f:bB k (bD k t (.dC [.int (2*(a:Int)+1),.ref p])):=bB.new ht;let tg:=GG (by rw[aw];rfl) (f _ _ (S _ _ hxp));let hT3:=f _ _ hT;generalize bD _ _ _=s at f tg hT3 hu⊢;let Y:bB s (bD s u (.dC [.ref t,.bl aC])):=bB.new hu;let hT4:=Y _ _ hT3;let g5:Grows 0 (bD s u (.dC [.ref t,.bl aC])) (bD (bD s u (.dC [.ref t,.bl aC])) aa0 (.bZ (n.map V.ref++[.ref u]))):=Grows.put hT4 (λz=>z);show(_,hT4,jy (by rw[ao];lk),((S.trans f).trans Y).put hD,n++[u],by rw[aw,bz];rfl,?_);rw[etk,bz];show vD (Paired.Rj L λa abE z=>oU g5 (oU (CA:=0) (f.trans Y).grows z)) (t,gg.of (g5.dC aw),g5.pI (Y.pI tg))
     ·rintro s ⟨f,n,hT,L⟩
      rw[ao,<-bL.length E,cu] at L;let ndk:((e.map λx=> #[kk [2*a+1,x.2.1,x.2.2],V.bl aC]).map (·.1)).Nodup:=by
       rw[df];let ndm:=uf mo co a j m;rw[aaV] at ndm;show bN.mpr (eT (λ{x aa1} hne aaE=>hne ?_) (bN.mp ndm));let e':=zF (.inl (2*a+1,x.2.1,x.2.2,by lk,J)) (.inl (2*a+1,aa1.2.1,aa1.2.2,by lk,J)) aaE;simp![dL,and_true,true_and] at e';show gX e'.1 e'.2
      show(aa0,n,_,J,eE.of hT,L,λabo hd=> ?_);rw[qA ndk];let S14:bB C (bD s abo (.dT (e.map λx=> #[kk [2*a+1,x.2.1,x.2.2],V.bl aC]))):=(T.trans f).add hd;let hdn:=(T.trans f).free hd;let ac0:k6 W.base (W.copy b) a j m=e.map λx=> #[[2*a+1,x.2.1,x.2.2],[1]]:=by unfold k6;rw[aaV]
      show(_,J,_,J,_,J,_,J,A1,W,aav,abD,b,k6 W.base (W.copy b) a j m,abo,_,(m:Int),(by rw[eb];rfl),W1.same S14,hn,q,r,aw,by rw[ac0];show MS ha e,W1.bk.free ok hdn,NS mo co ha (by lk),GI,λH6 l6 c6 W6 hl6 ac5=> ?_);show k1.is est (((i7.same S14).add hdn).trans c6) W6 J (S14.free hl6) ac5
    ·let e5:(decide (0<=c)&&decide (c<=((cz W.base (W.copy b).acts a).length:Int)-(m:Int)))=aA:=by
      by_cases z:0<=c
      ·rw[decide_eq_false (λac6=>c4 (z,ac6)),mh]
      ·rw[decide_eq_false z];rfl
     rw[e5];let est:eA W (.remove (b:Int) (a:Int) c (m:Int))= #[W,gm (-2)]:=by rw[abd,aH (by lk)]
     show iu J (_,J,eR,λp hp=>k1.Ho W1 est hp)
theorem Jd:∀{a:aa (Place×Id)} {b:aa az},fG (λc q=>jo H c.1 q) (a.map λy=> #[iL y.2,V.bl aC]) b->SM.bL (λi p=>eW H p i) (a.map (·.2)) b
 |[],_,h=>by cases h;show .nil
 |y::a,_,h=>by
  rw[bi] at h;cases h with
  |cons d e=>show .cons (Ru d) (Jd e)
def WO{L:aa (Place×Id)}(d:(L.map (·.2)).Nodup)(f:L[m]?=ag x)(h:x.2∈((L.drop k).take n).map (·.2)):k<=m/\m<k+n:=by
 let⟨y,g,e⟩:=aY.mp h;let⟨i,a⟩:=List.mem_iff_getElem?.mp g;rw[xP] at a;split at a
 ·rename_i c
  rw[List.getElem?_drop] at a;let b:(L.map (·.2))[k+i]?=ag x.2:=by rw[aF,a];show eI ag e
  let j:(L.map (·.2))[m]?=ag x.2:=by rw[aF,f];rfl
  let:=(rY (List.getElem?_eq_some_iff.mp b).1 d).mp (b.trans j.symm);lk
 ·cases a
def Mo:bM ["book","numbers","hand","axis","k","n","j","copy","there","moved","others","behind","number"] ["book","numbers"] (bo (fI 49)):=cB
def acJ(F:fQ K mg "move" (fI 49) ["book","numbers"])(ok:pq Z)(adB:dY K Z.CB iU)(TC:dY K Z.CC iS)(mn:mg "len"=au)(md:mg "dict"=au)(ml:mg "list"=au)(cP:qI mg "MOST_TAKEN" 64)(DX:-ig "is_on_axis" ["book","hand","axis"] 2 (vq Z))(DC:-eC Z.CB "copy_of" ["self","hand"] 1 (jT Z))
  (DT:-eC Z.CC "there" ["self","axis"] 4 (rf Z.CA Z.CC Z.PT))(DL:-eC Z.CC "line" ["self","axis"] 2 (xr Z.CA Z.CC Z.PT))(DR:-ig "is_run" ["there","k","n"] 1 (Bl K))(DI:-ig "nth" ["there","k"] 1 (Mj K))
  (DA:-ig "place_all" ["book","hand","axis","placed","line","behind"] 6 (tK Z)):-ig "move" ["book","numbers"] 7 (ic Z 4):=by
 let⟨tP,cP⟩:=cP;show F.def Mo iR (λaee cdv A0 aeg aaC H vs abE aeh hr aaE=> ?_);let⟨A,W,abm,adC,nl,ns,adD,rfl,hnl,hnf,hcr,I,hn,aej,abN⟩:=aaE;let r:=Mo.nd;let hr1:fo 1 _:=hr.bA (by decide);let hr2:fo 2 _:=hr.bA (by decide);let hr4:fo 4 _:=hr.bA (by decide);show(_,ay (dW 2 r (jm cG (pv 1) aX)) (ay (dW 3 r (jm cG (pv 1) aX)) (ay (dW 4 r (jm cG (pv 1) aX)) (ay (dW 5 r (jm cG (pv 1) aX)) (ay (dW 6 r (jm cG (pv 1) aX))
  (ay (fO (je (PW.pt (oS (io (dU DX hr2 J (ak (pv 0) (ak (pv 2) (ak (pv 3) aB))))) (n8 (jU jz jz aX (pv 5) (fB (v:=.int 64) J cP (tP,J))))))) (aV (bP (d9 (ak (mU kb aX) aB)))) dH)
  (ay (dW 7 r (bY (pv 0) adB.cl DC hr1 (ak (pv 2) aB))) (ay (dW 8 r (bY (pv 7) TC.cl DT hr4 (ak (pv 3) aB)))
  (ay (fO (PW.pt (yj (je (PW.pt (oS (io (dU DR hr1 J (ak (pv 8) (ak (pv 4) (ak (pv 5) aB))))) (n8 (jU jz jz aX (pv 6) (d7 cJ J mn cg (ak (pv 8) aB))))))) (tT (jU wV wV (pv 4) (pv 6) (ij mK (pv 4) (pv 5)))))) (aV (bP (d9 (ak (mU kb aX) aB)))) dH)
  (ay (CJ (i:=9) r J (J3 J) (jQ (rH (Zp hr) J) J md km (ak (CQ (own:=[#["number",12]]) J r (mv (qw x6 (pv 8) (oZ (pv 4)) (oZ (ij mK (pv 4) (pv 5))))) (mW J) (λaaC H aav aa7 fp=>fM (i:=12) r J (gA J)) (λ_ _ _ _ _=>rm)
   (λaaC H aav aa7 fp=>jf (ak (pv 12) (ak MC aB)))) aB)))
  (ay (CI (i:=10) (own:=[#["number",12]]) J r J J J (mv (bY (pv 7) TC.cl DL hr2 (ak (pv 3) aB))) (mW J) (λaaC H aav aa7 fp=>fM (i:=12) r J (gA J)) (λaaC H aav aa7 fp=>Mw (xA (zy (uX hr) (pv 12) (pv 9)) J)) (λaaC H aav aa7 fp=>pv 12))
  (ay (dW 11 r (mV (fL yk (pv 6) (pv 4) (fU _)) (ij mK (pv 4) (pv 5)) (pv 6)))
  (aV (bP (dU DA hr J (ak (pv 0) (ak (pv 2) (ak (pv 3) (ak (jQ (Eb J) J ml kj (ak (pv 9) aB)) (ak (pv 10) (ak (dU DI hr1 J (ak (pv 8) (ak (pv 11) aB))) aB)))))))))))))))))))),?_)
 room
 cases hcr with
 |move aaE ax f nn g=>
  show(_,J,nl,_,_,_,J,J,eE.of hnl,b9 (j:=0) J,_,J,nl,_,_,_,J,J,eE.of hnl,b9 (j:=1) J,_,J,nl,_,_,_,J,J,eE.of hnl,b9 (j:=2) J,_,J,nl,_,_,_,J,J,eE.of hnl,b9 (j:=3) J,_,J,nl,_,_,_,J,J,eE.of hnl,b9 (j:=4) J,?_);let no:(W.hand aaE&&(bV ax 0 1&&bV nn 1 64))=aA->∀l,H l=au->abE (.ref l) (bD H l (.bZ [.int (-1)])):=λabo l hl=>abN.Ho I (aH abo) hl;let abb:=I.bk;let⟨dx,hs⟩:=abb.self;show(_,J,_,J,_,J,A,W,abm,aaE,ax,J,abb,_,J,?_);cases e12:(W.hand aaE&&bV ax 0 1) with
  |false=>show jg J (iu J (_,J,eR,λl hl=>no (by rw[<-EI,e12];rfl) l hl))
  |true=>
   let⟨e1,e2⟩:=Bool.and_eq_true_iff.mp e12;show iu J (yi (oR J) NT ?_);cases e3:bV nn 1 64 with
   |false=>show iu J (_,J,eR,λl hl=>no (by rw[e1,e2,e3];rfl) l hl)
   |true=>
    show jg J ?_;let⟨b,rfl,s,D⟩:=k8 e1;let⟨c,rfl,ha⟩:=Ef e2;let b3:=iQ.mp e3;let⟨m,hm⟩:∃m:Nat,nn=m:=(nn.toNat,by lk);subst hm;let acm:eA W (.move (b:Int) (c:Int) f (m:Int) g)=(if f<0\/((cz W.base (W.copy b).acts c).length:Int)<f+(m:Int)\/g<0\/((cz W.base (W.copy b).acts c).length:Int)<g\/(f<g/\g<f+(m:Int)) then #[W,gm (-2)] else W.does b 0 0 (A7 W.base (W.copy b) b c f.toNat m g.toNat) (m:Int)):=by
     change(if(W.hand (b:Int)&&(bV (c:Int) 0 1&&bV (m:Int) 1 64))=aA then _ else _)=_;rw[e1,e2,e3,aD (by decide)];rfl
    let aav:=abb.copy b s D;let⟨dc,hc⟩:=aav.self;show(_,J,A .dX,dx,_,J,hs,J,_,J,A,W,abm,b,J,abb,s,D,?_);show(_,J,A (.copy b .self),dc,_,J,hc,J,_,J,GR (vj ok I (by lk) s D ha λM A1 l y c1 W1 eb es hln hlf lp lp2 hle abA=> ?_));let k1:=abN.trans c1 eb;let hlp:=bL.length abA;let ell:((y.map V.ref).length:Int)=((cz W.base (W.copy b).acts c).length:Int):=by rw[ao,hlp]
    let no2:(f<0\/((cz W.base (W.copy b).acts c).length:Int)<f+(m:Int)\/g<0\/((cz W.base (W.copy b).acts c).length:Int)<g\/(f<g/\g<f+(m:Int)))->∀p,M p=au->abE (.ref p) (bD M p (.bZ [.int (-2)])):=λz p B=>k1.Ho W1 (by rw[acm,aH z];rfl) B;show(_,J,_,J,_,J,l,_,f,(m:Int),J,hle,_,J,?_);rw[ell];by_cases c4:0<=f/\f<=((cz W.base (W.copy b).acts c).length:Int)-(m:Int)
    ·rw[decide_eq_true c4.1,decide_eq_true c4.2]
     show iu J (yi (hi:=((y.map V.ref).length:Int)) (oR J) (CD J hle) ?_);rw[ell];cases e5:bV g 0 ((cz W.base (W.copy b).acts c).length:Int) with
     |false=>
      let:¬(0<=g/\g<=((cz W.base (W.copy b).acts c).length:Int)):=λz=>by rw[iQ.mpr z] at e5;cases e5
      show iu J (iu J (_,J,eR,λp B=>no2 (by lk) p B))
     |true=>
      let b5:=iQ.mp e5;show jg J (WI (oR J) (oR J) (WJ J J) ?_);by_cases c6:f<g/\g<f+(m:Int)
      ·rw[decide_eq_true c6.1,decide_eq_true c6.2]
       show iu J (_,J,eR,λp B=>no2 (by lk) p B)
      ·let e6:(decide (f<g)&&decide (g<f+(m:Int)))=aA:=by
        by_cases z:f<g
        ·rw[decide_eq_false (λq=>c6 (z,q)),mh]
        ·rw[decide_eq_false z];rfl
       rw[e6];show jg J ?_;let⟨e,hj⟩:∃e:Nat,f=e:=(f.toNat,by lk);let⟨o,ht'⟩:∃o:Nat,g=o:=(g.toNat,by lk);subst hj ht';let hjm:e+m<=(cz W.base (W.copy b).acts c).length:=by lk
       let est:eA W (.move (b:Int) (c:Int) (e:Int) (m:Int) (o:Int))= #[W.with_ b (o9 W.base (W.copy b) b 0 0 (A7 W.base (W.copy b) b c e m o)),gm (m:Int)]:=by
        rw[acm,aD (by lk)];show yA I (by lk) s D 0 0 _ _
       let⟨co,_⟩:=I.gd.ok.copy b s D;let mo:=I.gd.ok.made;let ndL:=I.nj s D c;let hll:=I.Br s D (by lk) ha;show(_,J,_,J,_,J,_,J,_,J,_,_,J,J,_,J,l,_,J,eE.of hle,λl2 hl2=> ?_);rw[MZ _ (by rw[ao,<-hlp];show hjm),<-F5,<-F4];let S2:bB M (bD M l2 (.bZ (((y.drop e).take m).map V.ref))):=bB.new hl2;let abd:bD M l2 (.bZ (((y.drop e).take m).map V.ref)) l2=ag (.bZ (((y.drop e).take m).map V.ref)):=aw;let hm2:SM.bL (λ(x:Place×Id) p=>eW (bD M l2 (.bZ (((y.drop e).take m).map V.ref))) p x.2) (((cz W.base (W.copy b).acts c).drop e).take m) ((y.drop e).take m):=bL.take m (bL.drop e (sE abA S2));generalize bD _ _ _=H2 at S2 abd hm2⊢;generalize abe:((cz W.base (W.copy b).acts c).drop e).take m=h at hm2;generalize(y.drop e).take m=C at abd hm2⊢;let hml:h.length=m:=by rw[<-abe,dq,sW];lk
       let ndm:(h.map (·.2)).Nodup:=by let:=uf mo co c e m;rw[abe] at this;show this
       show(l2,J,(_,eE.of abd),λabh hD=> ?_);show yt (K:=K) (a:=l2) (xs:=C.map V.ref) (λn k=>bB H2 k/\∃O:aa az,k abh=ag (.bZ (O.map V.ref))/\fG (yH K k) O ((h.take n).map λx=> #[iL x.2,V.bl aC])) ?_ (λn k _ (S,_)=>eE.of (S _ _ abd)) ?_ ?_
       ·show(bB.new hD,[],aw,.nil)
       ·rintro n acV k aa0 ⟨S,O,hT,hpr⟩
        rw[aF] at aa0;let⟨p,B,rfl⟩:=bv.mp aa0;let⟨x,hx,hxp⟩:=bL.yz hm2 B;let etk:h.take (n+1)=h.take n++[x]:=by rw[cE,hx];rfl
        let hpl:=c9 hpr;rw[ao,dq] at hpl;show(J,HE (_,J,lB,λu hu=> ?_));let S4:bB k (bD k u (.dC [.ref p,.bl aC])):=bB.new hu;let hT4:=S4 _ _ hT;let g5:Grows 0 (bD k u (.dC [.ref p,.bl aC])) (bD (bD k u (.dC [.ref p,.bl aC])) abh (.bZ (O.map V.ref++[.ref u]))):=Grows.put hT4 (λz=>z);let adW:eW (bD (bD k u (.dC [.ref p,.bl aC])) abh (.bZ (O.map V.ref++[.ref u]))) p x.2:=g5.dC (S4 _ _ (S _ _ hxp));show(_,hT4,jy (by rw[ao];lk),(S.trans S4).put hD,O++[u],by rw[aw,bz];rfl,?_);rw[etk,bz];show vD (Paired.Rj hpr λc adD z=>oU g5 (oU (CA:=0) S4.grows z)) (p,gg.of (g5.dC aw),adW.key)
       ·rintro H3 ⟨S3,O,hT,hpr⟩
        rw[ao,<-bL.length hm2,cu] at hpr;let ndk:((h.map λx=> #[iL x.2,V.bl aC]).map (·.1)).Nodup:=by
         rw[df];show bN.mpr (eT (λ{x acV} hne abo=>hne (jE abo)) (bN.mp ndm))
        show(abh,O,_,J,eE.of hT,hpr,λd hd=> ?_);rw[qA ndk];let S14:bB M (bD H3 d (.dT (h.map λx=> #[iL x.2,V.bl aC]))):=(S2.trans S3).add hd;let hd4:bD H3 d (.dT (h.map λx=> #[iL x.2,V.bl aC])) d=ag (.dT (h.map λx=> #[iL x.2,V.bl aC])):=aw;let hdn:M d=au:=(S2.trans S3).free hd;generalize bD H3 d (.dT (h.map λx=> #[iL x.2,V.bl aC]))=H4 at S14 hd4⊢;let W4:=W1.same S14;let dF:¬fJ A1 W.base.hands d:=W1.bk.free ok hdn;let dp:d≠Z.PT:=W1.t1.ne hdn;let dp2:d≠Z.P2:=W1.t2.ne hdn;let⟨dc4,hc4⟩:=(W4.bk.copy b s D).self;rw[es] at hc4;let go:=λQ' E' kq=>MK (E:=E') (Q:=Q') ok W4 s D ha kq;rw[es] at go;show(_,J,A (.copy b .self),dc4,_,J,hc4,J,_,J,GR (go _ E0 λH5 A5 l5 ps5 c5 W5 eb5 es5 aen aeo lp5 aeq ac1 ac5=> ?_));let k5:=(k1.same S14).trans c5 eb5;let ad1:H5 l=ag (.bZ (y.map V.ref)):=c5.oM (S14 _ _ hle) hlf lp lp2;let hd5:H5 d=ag (.dT (h.map λx=> #[iL x.2,V.bl aC])):=c5.oM hd4 dF dp dp2;show(l5,J,(_,eE.of ac1),λD5 hD5=> ?_);show yt (K:=K) (a:=l5) (xs:=ps5.map V.ref) (λn k=>bB H5 k/\∃C:aa az,k D5=ag (.bZ (C.map V.ref))/\SM.bL (λx p=>eW k p x.2) (((eB W.base (W.copy b).acts c).take n).filter λx=> !(h.map (·.2)).contains x.2) C) ?_ (λn k _ (S,_)=>eE.of (S _ _ ac1)) ?_ ?_
        ·show(bB.new hD5,[],aw,.nil)
        ·rintro n acV k aa0 ⟨S,C,hq,hqa⟩
         rw[aF] at aa0;let⟨q,hpq,rfl⟩:=bv.mp aa0;let⟨x,hx,hxq⟩:=bL.yz ac5 hpq;let ac8:eW k q x.2:=S _ _ hxq;let etk:(eB W.base (W.copy b).acts c).take (n+1)=(eB W.base (W.copy b).acts c).take n++[x]:=by rw[cE,hx];rfl
         let hqb:C.length<=(eB W.base (W.copy b).acts c).length:=by
          rw[<-(bL.length hqa)];show bC (eY _ _) (by rw[dq];lk)
         show(J,(_,J,_,J,d,_,J,oW.t (S _ _ hd5) (eW.key ac8),_,J,?_));rw[MG];cases hcx:(h.map (·.2)).contains x.2 with
         |true=>
          show jg J (S,C,hq,?_);rw[etk,gH,tj (by rw[hcx];decide)];simpa using hqa
         |false=>
          show iu J (_,J,_,hq,jy (by rw[ao];lk),S.put hD5,C++[q],by rw[aw,bz];rfl,?_);let g6:Grows 0 k (bD k D5 (.bZ (C.map V.ref++[.ref q]))):=Grows.put hq (λz=>z);rw[etk,gH,sZ (by rw[hcx];rfl)];show bL.snoc (bL.imp (λ_ _ z=>g6.dC z) hqa) (g6.dC ac8)
        ·rintro H6 ⟨S6,C,hq,hqa⟩
         rw[ao,<-(bL.length ac5),cu] at hqa;dsimp only[rE];show ya (λσ H7=>∃v10 v12:ae V,σ=[ag (.ref (A .dX)),ag (.ref nl),ag (.int (b:Int)),ag (.int (c:Int)),ag (.int (e:Int)),ag (.int (m:Int)),ag (.int (o:Int)),ag (.ref (A (.copy b .self))),ag (.ref l),ag (.ref d),ag (.ref D5),ag (.int ((if o=e then e+m else o:Nat):Int)),v12]/\H6=H7) ?_ λmid=> ?_
         ·rintro σ H7 ⟨v10,v12,rfl,rfl⟩
          generalize hbe:(if o=e then e+m else o)=T;let hbL:T<=(cz W.base (W.copy b).acts c).length/\(T<e\/e+m<=T):=by
           rw[<-hbe];split<;>lk
          show(_,J,_,J,_,J,_,J,d,_,J,.inl (S6 _ _ hd5),λl7 U hl7 hp7=> ?_);let Y:bB H6 (bD H6 l7 (.bZ (U.map V.ref))):=bB.new hl7;let adc:bD H6 l7 (.bZ (U.map V.ref)) l7=ag (.bZ (U.map V.ref)):=aw;let ade:SM.bL (λn p=>eW (bD H6 l7 (.bZ (U.map V.ref))) p n) (h.map (·.2)) U:=bL.imp (λ_ _ z=>Y _ _ z) (Jd hp7);let W7:=(W5.same S6).same Y;let k7:=(k5.same S6).same Y;generalize bD H6 l7 (.bZ (U.map V.ref))=H7 at Y adc ade W7 k7⊢;let S67:=S6.trans Y;show(_,J,_,J,_,J,l,_,T,J,S67 _ _ ad1,?_);let' L:=(eB W.base (W.copy b).acts c).filter λx=> !(h.map (·.2)).contains x.2;let ndO:(L.map (·.2)).Nodup:=ndL.sublist (jd.map _);let⟨q,hqq,hbh⟩:∃q,(((cz W.base (W.copy b).acts c)[T]?).bind λx=>jZ L x.2).getD L.length=q/\
            (((((y.map V.ref)[T]?).getD .jn)=.jn/\q=L.length)\/∃o n,(((y.map V.ref)[T]?).getD .jn)=.ref o/\eW H7 o n/\jZ L n=ag q):=by
           cases ej:(cz W.base (W.copy b).acts c)[T]? with
           |none=>
            show(_,J,.inl (?_,J));let:=List.getElem?_eq_none_iff.mp ej;rw[b8 (by rw[ao];lk)];rfl
           |some x=>
            let⟨p,B,hpx⟩:=bL.get abA ej;let hxm:x∈L:=by
             show cq.mpr ((yp _ c).mem (bg ej),?_);cases hcx:(h.map (·.2)).contains x.2 with
             |false=>rfl
             |true=>
              let hin:x.2∈h.map (·.2):=by simpa using hcx
              rw[<-abe] at hin;let:=WO (ndL.sublist ((yp _ c).map _)) ej hin;lk
            let⟨q,hq'⟩:=List.mem_iff_getElem?.mp hxm;let hf:=Bw ndO hq';show(q,by change(jZ L x.2).getD _=q;rw[hf];rfl,.inr (p,x.2,by rw[aF,B];rfl,S67 _ _ (c5.grow.dC (S14 _ _ hpx)),hf))
          let abD:(h.map (·.2)).length=m:=by rw[ao,hml]
          let emv:CM b c (64*(de (W.copy b).acts b+1)) (h.map (·.2)) (iy L q) (lu L q)=A7 W.base (W.copy b) b c e m o:=by
           unfold CM A7;simp![];rw[abe,abD,hbe,hqq]
          show(A5,W,abm,adC,b,c,q,l7,D5,h.map (·.2),U,L,C,_,(by rw[eb5,eb];rfl),W7,hn,s,D,ha,adc,ade,by rw[abD];lk,ndm,Y _ _ hq,sE hqa Y,λx hx=>(cq.mp hx).1,ndO,hbh,?_);rw[emv];show(Ur mo co s ha (by lk),Li mo I.gd.bd co (by lk),λH8 l8 c8 W8 aed hl8=> ?_);rw[abD] at hl8;show k7.is est c8 W8 J aed hl8
         ·show(_,J,_,J,J,_,J,?_)
          by_cases cj:o=e
          ·show iu (decide_eq_true (by rw[cj])) (_,J,_,J,_,_,J,J,mid _ _ (au,au,?_,J))
           rw[aH cj];rfl
          ·show jg (decide_eq_false (λz=>cj (by injection z with z;lk))) (_,J,mid _ _ (au,au,?_,J))
           rw[aD cj];rfl
    ·let e5:(decide (0<=f)&&decide (f<=((cz W.base (W.copy b).acts c).length:Int)-(m:Int)))=aA:=by
      by_cases z:0<=f
      ·rw[decide_eq_false (λq=>c4 (z,q)),mh]
      ·rw[decide_eq_false z];rfl
     rw[e5];show jg J (iu J (iu J (_,J,eR,λp B=>no2 (by lk) p B)))
def RY(a:aa V)(k:Nat)(h:k<=a.length):pM a (ag (k:Int)) au=a.drop k:=by
 unfold pM;rw[rj,Cw,j6 h,oy (by rw[sW];show aS _)]
def ZW(h:Q [v] H):BX (tC v) wE a H Q:=h
def Qv:bM ["book","numbers","hand","row","column","content","copy","rows","columns","value"] ["book","numbers"] (bo (fI 50)):=cB
def adF(F:fQ K mg "set_cell" (fI 50) ["book","numbers"])(ok:pq Z)(abd:dY K Z.CB iU)(TC:dY K Z.CC iS)(mn:mg "len"=au)(DH:-eC Z.CB "has_hand" ["self","hand"] 1 (lm Z))(DC:-eC Z.CB "copy_of" ["self","hand"] 1 (jT Z))
  (DT:-eC Z.CC "there" ["self","axis"] 4 (rf Z.CA Z.CC Z.PT))(DV:-ig "held" ["content","rows","columns"] 1 Ky)(DE:-ig "cell_of" ["row","column"] 1 Ch)(DD:-ig "do" ["book","hand","writes","answer"] 5 (Qo Z)):
  -ig "set_cell" ["book","numbers"] 6 (ic Z 5):=by
 show F.def Qv iR (λadb cdv A0 ade adx aax vs abA ady D h=> ?_);let⟨A,W,aaC,abB,H,ns,adz,rfl,I,hnf,hcr,s,hn,adB,abD⟩:=h;let e:=Qv.nd;let L:fo 1 _:=D.bA (by decide);let hr4:fo 4 _:=D.bA (by decide);show(_,ay (dW 2 e (jm cG (pv 1) aX)) (ay (dW 3 e (jm cG (pv 1) aX)) (ay (dW 4 e (jm cG (pv 1) aX))
  (ay (dW 5 e (qw x6 (pv 1) (oZ aX) Bo))
  (ay (fO (je (io (bY (pv 0) abd.cl DH L (ak (pv 2) aB)))) (aV (bP (d9 (ak (mU kb aX) aB)))) dH)
  (ay (dW 6 e (bY (pv 0) abd.cl DC L (ak (pv 2) aB)))
  (ay (dW 7 e (bY (pv 6) TC.cl DT hr4 (ak aX aB))) (ay (dW 8 e (bY (pv 6) TC.cl DT hr4 (ak aX aB)))
  (ay (fO (je (PW.pt (oS (jU jz wV aX (pv 3) (d7 cJ J mn cg (ak (pv 7) aB))) (n8 (jU jz wV aX (pv 4) (d7 cJ J mn cg (ak (pv 8) aB))))))) (aV (bP (d9 (ak (mU kb aX) aB)))) dH)
  (ay (dW 9 e (dU DV L J (ak (pv 5) (ak (pv 7) (ak (pv 8) aB)))))
  (ay (fO (fL rO (pv 9) kP (fU _)) (aV (bP (d9 (ak (mU kb aX) aB)))) dH)
  (aV (bP (dU DD D J (ak (pv 0) (ak (pv 2) (ak (QZ (uX D) (dU DE L J (ak (jm cG (pv 7) (pv 3)) (ak (jm cG (pv 8) (pv 4)) aB))) (pv 9)) (ak aX aB))))))))))))))))),?_)
 room
 cases hcr with
 |set h r b v hv1 hv8=>
  show(_,J,H,_,_,_,J,J,eE.of I,b9 J,_,J,H,_,_,_,J,J,eE.of I,b9 J,_,J,H,_,_,_,J,J,eE.of I,b9 J,_,J,_,J,H,_,J,eE.of I,λM O=> ?_);let abE:pM ((h::r::b::(v.length:Int)::v).map V.int) (ag 4) au=v.map V.int:=RY _ 4 (by simp);rw[abE];let S0:bB aax (bD aax M (.bZ (v.map V.int))):=bB.new O;let aaE:bD aax M (.bZ (v.map V.int)) M=ag (.bZ (v.map V.int)):=aw;let T:=s.same S0;let k0:=abD.same S0;let ctF:=s.bk.free ok O;let ctp:=s.t1.ne O;let abl:=s.t2.ne O;generalize bD _ _ _=H0 at S0 aaE T k0⊢;let B:=T.bk;let⟨dx,hs⟩:=B.self;show(_,J,A .dX,dx,_,J,hs,J,_,J,A,W,aaC,h,J,B,_,J,?_);cases e1:W.hand h with
  |false=>show iu J (_,J,eR,λaaG hl=>k0.Ho T (aH e1) hl)
  |true=>
   show jg J ?_;let⟨a,rfl,f,g⟩:=k8 e1;let l:eA W (.set (a:Int) r b v)=(match fg (cz W.base (W.copy a).acts 0) r,fg (cz W.base (W.copy a).acts 1) b with
     |some i,ag j=>(match ou (cz W.base (W.copy a).acts 0) (cz W.base (W.copy a).acts 1) v with
      |none=> #[W,gm (-3)]
      |some x=>W.does a 0 0 [#[bK i j,x]] 0)
     |_,_=> #[W,gm (-2)]):=by
    change(if W.hand (a:Int)=aA then _ else _)=_;rw[aD (by rw[e1];decide)];rfl
   let⟨dc,hc⟩:=(B.copy a f g).self;show(_,J,A .dX,dx,_,J,hs,J,_,J,A,W,aaC,a,J,B,f,g,?_);show(_,J,A (.copy a .self),dc,_,J,hc,J,ZW (vj ok T (by lk) f g (by decide) λH1 A1 aaG t c1 W1 eb es hln hlf lp lp2 hle acm=> ?_));let⟨dc1,hc1⟩:=(W1.bk.copy a f g).self;rw[es] at hc1;let go:=λQ' E' kq=>vj (ax:=1) (E:=E') (Q:=Q') ok W1 (by lk) f g (by decide) kq;rw[es] at go;show(_,J,A (.copy a .self),dc1,_,J,hc1,J,ZW (go _ E0 λH2 A2 l2 u U W2 eb2 es2 adN adO lp' adQ aaV aa0=> ?_));let k2:=(k0.trans c1 eb).trans U eb2;let aa1:=U.oM hle hlf lp lp2;let aa5:SM.bL (λx p=>eW H2 p x.2) (cz W.base (W.copy a).acts 0) t:=sF acm U.grow;let acw:=c1.free (by rw[aaE];simp) ctF;let ell:((t.map V.ref).length:Int)=((cz W.base (W.copy a).acts 0).length:Int):=by rw[ao,(bL.length aa5)]
   let acD:((u.map V.ref).length:Int)=((cz W.base (W.copy a).acts 1).length:Int):=by rw[ao,(bL.length aa0)]
   let no2:(fg (cz W.base (W.copy a).acts 0) r=au\/fg (cz W.base (W.copy a).acts 1) b=au)->∀p,H2 p=au->abA (.ref p) (bD H2 p (.bZ [.int (-2)])):=λz p k=>by
    show k2.Ho W2 ?_ k;rw[l];rcases z with z|z
    ·rw[z];rfl
    ·rw[z];cases fg (cz W.base (W.copy a).acts 0) r<;>rfl
   show QE (oR J) (CD J aa1) ?_;rw[ell];by_cases m:0<=r/\r<((cz W.base (W.copy a).acts 0).length:Int)
   ·rw[decide_eq_true m.1,decide_eq_true m.2]
    show iu J (QE (hi:=((u.map V.ref).length:Int)) (oR J) (CD J aaV) ?_);rw[acD];by_cases n:0<=b/\b<((cz W.base (W.copy a).acts 1).length:Int)
    ·rw[decide_eq_true n.1,decide_eq_true n.2]
     show jg J ?_;let⟨i,hi1,hi2,hi3⟩:=w6 aa5 m.1 m.2;let⟨j,hj1,hj2,hj3⟩:=w6 aa0 n.1 n.2;rw[hi1,hj1] at l;show(_,J,_,J,_,J,M,aaG,l2,v,_,_,t,u,J,(U.oM (c1.oM aaE ctF ctp abl) acw ctp abl),aa1,aaV,aa5,aa0,λhcn y c=> ?_,λx hcx y ac6 c hxt=> ?_)
     ·rw[hcn] at l
      show(_,J,J,_,J,iu J (_,J,eR,λp k=>(k2.same c).Ho (W2.same c) l k))
     ·rw[hcx] at l
      let est:=l.trans (yA s (by lk) f g 0 0 [#[bK i j,x]] 0);let W3:=W2.same c;show(_,J,J,_,J,jg (decide_eq_false (λz=>nomatch z)) ?_);show(_,J,_,J,λd Y=> ?_);let C:bB y (bD y d (.dT [])):=bB.new Y;show(_,J,_,J,aaG,_,_,_,J,J,eE.of (C _ _ (c _ _ aa1)),hi3,_,J,_,J,l2,_,_,_,J,J,eE.of (C _ _ (c _ _ aaV)),hj3,_,_,J,λabb q=>(_,J,?_,abb,kk (bK i j),J,?_,?_))
      ·rw[aZ (λz=>by rw[<-z,aw] at q;cases q),aw]
      ·let S5:=bB.new (o:=.dC [.int 4,.ref (t.getD r.toNat 0),.ref (u.getD b.toNat 0)]) q
       show UN aw (S5 _ _ (C _ _ (c _ _ hi2))) (S5 _ _ (C _ _ (c _ _ hj2)))
      ·let du:d≠abb:=λz=>by rw[<-z,aw] at q;cases q
       let S35:bB y (bD (bD (bD y d (.dT [])) abb (.dC [.int 4,.ref (t.getD r.toNat 0),.ref (u.getD b.toNat 0)])) d (.dT [#[kk (bK i j),.ref ac6]])):=(C.add q).put Y;show(A2,W,aaC,abB,a,[#[bK i j,x]],d,_,0,(by rw[eb2,eb];rfl),W3.same S35,hn,f,g,aw,.cons (J,.cell (hxt.bA (CA:=0) S35.grows)) .nil,(W3.bk.free ok Y),WA (SM.uk hcx),LG (SM.uk hcx),λH6 l6 c6 W6 hl6 ada=> ?_);show(k2.same c).is est (((i7.same S35).add Y).trans c6) W6 J (S35.free hl6) ada
    ·let e5:(decide (0<=b)&&decide (b<((cz W.base (W.copy a).acts 1).length:Int)))=aA:=by
      by_cases z:0<=b
      ·rw[decide_eq_false (λabc=>n (z,abc)),mh]
      ·rw[decide_eq_false z];rfl
     rw[e5];show iu J (_,J,eR,λp k=>no2 (.inr (yw n)) p k)
   ·let e5:(decide (0<=r)&&decide (r<((cz W.base (W.copy a).acts 0).length:Int)))=aA:=by
     by_cases z:0<=r
     ·rw[decide_eq_false (λabc=>m (z,abc)),mh]
     ·rw[decide_eq_false z];rfl
    rw[e5];show jg J (iu J (_,J,eR,λp k=>no2 (.inl (yw m)) p k))
end
def Vv:aa (Int×V):=[#[1,.int 3],#[2,.int 4],#[3,.int 4],#[4,.int 5],#[5,.int 4],#[6,.int 1],#[7,.int 1],#[8,.int 3],#[9,.int 2],#[10,.int 1],#[11,.int 1],#[12,.int 1]]
structure UV(K:PySem.W.Frag)(mg:Sv):Prop where
 ex:∃a,mg "LENGTHS_sheet"=some (.ref a)/\TopD K a Vv
def R5(a b c d e f g h i j k l:az):aa (Int×V):=[#[1,.ref a],#[2,.ref b],#[3,.ref c],#[4,.ref d],#[5,.ref e],#[6,.ref f],#[7,.ref g],#[8,.ref h],#[9,.ref i],#[10,.ref j],#[11,.ref k],#[12,.ref l]]
inductive ICT(K:aq)(mg:Sv):Prop|mk:∀a b c d e f g h i j k l m,mg "CALLS"=ag (.ref a)->TopD K a (R5 b c d e f g h i j k l m)->mg "begin"=ag (.ref b)->mg "put"=ag (.ref c)->mg "remove"=ag (.ref d)->mg "move"=ag (.ref e)->mg "set_cell"=ag (.ref f)->mg "undo"=ag (.ref g)->mg "redo"=ag (.ref h)->mg "bring"=ag (.ref i)->mg "sync"=ag (.ref j)->mg "sheet"=ag (.ref k)->mg "passed"=ag (.ref l)->mg "acts"=ag (.ref m)->ICT K mg
structure Sl(K:PySem.W.Frag)(mg:Sv):Prop where
 ex:ICT K mg
theorem ig.at{K:aq}(D:ig P w K mg base x a j d)(e:mg x=ag (.ref f))(h:j<=7):∃b a,FnOk P w K mg base Pj 7 f b a d/\eG K (.ref f)=aC/\Binds K b a []:=by
 let⟨l,b,c,g,i,k⟩:=(D.bA h).ex;rw[e] at c;cases c;show(b,a,k,g,i)
def UM(a:aa V)(c:k<=e)(b:e<=a.length):pM a (ag (k:Int)) (ag (e:Int))=(a.drop k).take (e - k):=by
 unfold pM;rw[rj,rj,j6 b,j6 (bC c b)]
def Hg(K:aq)(H:Hp)(a:az)(b:aa V):Prop:=(∃o,H a=ag (.lH o (.bZ b)))\/∀H,eE K H a b
def Hg.sq{K:aq}(h:Hg K H a b):eE K H a b:=by
 rcases h with⟨o,h⟩|h
 ·show .inl (.inr (o,h))
 ·show h H
def Hg.bA{K:aq}(h:Hg K H a b)(g:Grows CA H c):Hg K c a b:=by
 rcases h with⟨o,h⟩|h
 ·show .inl (o,g.lH h)
 ·show .inr h
def M0(h:SM.CR a c):∃i b,a=i::b:=by
 cases h<;>show(_,_,J)
section
universe a
variable{Z:Cs}
inductive Cm(Z:Cs)(b:aa V)(H:Hp)(Q:VK)(E:XK):Prop|mk:∀A W M n a i d c,b=[.ref (A .dX),.int i,.ref a]->H a=ag (.bZ (d.map V.int))->(¬fJ A W.base.hands a)->SM.CR (i::d) c->Wd Z H A n W M->n<=299->(lV W c).length<=1000000->wH Z H A n W c Q->Cm Z b H Q E
def GD:bM ["book","call","numbers"] ["book","call","numbers"] (bo (fI 67)):=cB
def VF(F:fQ K mg "answer_of" (fI 67) ["book","call","numbers"])(z:Sl K mg)(B:-ig "begin" ["book","numbers"] 6 (ic Z 1))(C:-ig "put" ["book","numbers"] 7 (ic Z 2))(D:-ig "remove" ["book","numbers"] 6 (ic Z 3))(E:-ig "move" ["book","numbers"] 7 (ic Z 4))
  (H:-ig "set_cell" ["book","numbers"] 6 (ic Z 5))(I:-ig "undo" ["book","numbers"] 6 (ic Z 6))(L:-ig "redo" ["book","numbers"] 6 (ic Z 7))(N:-ig "bring" ["book","numbers"] 5 (ic Z 8))(O:-ig "sync" ["book","numbers"] 5 (ic Z 9))(Q:-ig "sheet" ["book","numbers"] 6 (ic Z 10))
  (T:-ig "passed" ["book","numbers"] 4 (ic Z 11))(U:-ig "acts" ["book","numbers"] 2 (ic Z 12)):-ig "answer_of" ["book","call","numbers"] 8 (Cm Z):=by
 let⟨a,d,e,f,g,j,k,l,m,o,p,q,r,Y,tC',m1,m2,m3,m4,m5,m6,m7,m8,m9,m10,m11,m12⟩:=z.ex;show F.def GD (λvs aaG aaV aa0 h=> ?_) (λabe cdv A0 abi abl aaG vs aaV aa0 hr h=> ?_)
 ·let⟨A,W,M,n,s,i,t,c,rfl,_⟩:=h
  rfl
 ·let⟨A,W,M,n,s,i,t,c,rfl,hnl,hnf,u,WD,hn,aa7,abb⟩:=h
  show(_,aV (bP (Q1 (Ld (fB (v:=.ref a) J Y J) (pv 1) (λ_ _=>rfl)) hr Ft (ak (pv 0) (ak (pv 2) aB)))),?_);let⟨b,hat,hfn⟩:∃b,atT (R5 d e f g j k l m o p q r) i=ag (.ref b)/\∃x y,FnOk P w K mg base Pj 7 b x y (ic Z i)/\eG K (.ref b)=aC/\Binds K x y []:=by
   cases u with
   |begin_=>show(d,J,B.at m1 (by decide))
   |put=>show(e,J,C.at m2 (by decide))
   |remove=>show(f,J,D.at m3 (by decide))
   |move=>show(g,J,E.at m4 (by decide))
   |set=>show(j,J,H.at m5 (by decide))
   |undo=>show(k,J,I.at m6 (by decide))
   |redo=>show(l,J,L.at m7 (by decide))
   |bring=>show(m,J,N.at m8 (by decide))
   |sync=>show(o,J,O.at m9 (by decide))
   |sheet=>show(p,J,Q.at m10 (by decide))
   |passed=>show(q,J,T.at m11 (by decide))
   |acts=>show(r,J,U.at m12 (by decide))
  show(_,J,a,_,i,_,J,J,tC',hat,b,ic Z i,J,hfn,_,J,_,J,A,W,M,n,s,t,c,J,hnl,hnf,u,WD,hn,aa7,abb)
inductive Qn(K:aq)(d:aa V)(H:Hp)(Q:VK)(E:XK):Prop|mk:∀e a b f c,d=[.ref e,.int (a.length:Int)]->eE K H e ((a++(b++f)).map V.int)->SM.CR b c->Q (.int ((a.length+b.length:Nat):Int)) H->Qn K d H Q E
def QA:bM ["calls","at","end"] ["calls","at"] (bo (fI 73)):=cB
def LM{a l:aa Int}(h:l[j]?=ag i):Hs ((a++l).map V.int) (((a.length+j:Nat)):Int)=ag (.int i):=by
 show b9 ?_;rw[aF,mf (by lk),nY,h];rfl
def adL(F:fQ K mg "end_of_call" (fI 73) ["calls","at"])(LT:UV K mg)(s:qI mg "SET" 5):-ig "end_of_call" ["calls","at"] 1 (Qn K):=by
 let⟨p,C,u⟩:=LT.ex;let⟨D,s⟩:=s;show F.def QA (λI H Q E h=> ?_) (λaav cdv A0 aaC aaE H I Q E hr h=> ?_)
 ·let⟨l,b,L,t,c,rfl,_⟩:=h
  rfl
 ·let⟨l,b,L,t,c,rfl,o,x,y⟩:=h
  let A:=QA.nd;show(_,ay (dW 2 A (ij mK (ij mK (pv 1) aX) (Ld (fB (v:=.ref p) J C J) (jm cG (pv 0) (pv 1)) (λ_ _=>rfl))))
   (ay (fO (fL yk (jm cG (pv 0) (pv 1)) (fB (v:=.int 5) J s (D,J)) (fU _)) (aV (GK (i:=2) A J (gA J) (jm cG (pv 0) (ij pK (pv 2) aX)) Dk)) dH)
   (aV (bP (pv 2)))),?_)
  room
  let⟨d,B,rfl⟩:=M0 x;let q:Hs ((b++(d::B++t)).map V.int) (b.length:Int)=ag (.int d):=LM (j:=0) J;let plain:∀(m:Int),atT Vv d=ag (.int m)->d≠5->(b.length:Int)+1+m=((b.length+(d::B).length:Nat):Int)->kC (Qi (Mc (GJ λd f=>.int (d+f)) (Mc (GJ λd f=>.int (d+f)) (vm 1) (tC (.int 1))) (Zu (tC (.ref p)) (Mc (QM K) (vm 0) (vm 1)) K)) (rE 2))
    (kC (NM (xV (Mc rEq (Mc (QM K) (vm 0) (vm 1)) (tC (.int 5)))) (Ww 2 (Mc (QM K) (vm 0) (Mc (GJ λd f=>.int (d - f)) (vm 2) (tC (.int 1)))) (ipI λd f=>d+f)) Vk) (Wl (vm 2))) {nx:=λ_ M=>Q .jn M,rt:=Q} (start ["calls","at","end"] [.ref l,.int (b.length:Int)]) H:=λm N O T=>by
   show(_,J,_,_,J,J,_,J,_,J,l,_,_,_,J,J,o,q,p,_,d,_,J,J,u,N,_,_,J,J,?_);show(_,J,_,J,l,_,_,_,J,J,o,q,J,_,J,jg (decide_eq_false (λz=>O (by injection z))) (_,J,?_));change Q (.int ((b.length:Int)+1+m)) H;rw[T];show y
  cases x with
  |begin_ r c n=>show plain 3 J (by decide) (by simp;lk)
  |put h a k n=>show plain 4 J (by decide) (by simp;lk)
  |remove h a k n=>show plain 4 J (by decide) (by simp;lk)
  |move h a k n f=>show plain 5 J (by decide) (by simp;lk)
  |undo h=>show plain 1 J (by decide) (by simp;lk)
  |redo h=>show plain 1 J (by decide) (by simp;lk)
  |bring h g k=>show plain 3 J (by decide) (by simp;lk)
  |sync h g=>show plain 2 J (by decide) (by simp;lk)
  |sheet h=>show plain 1 J (by decide) (by simp;lk)
  |passed h=>show plain 1 J (by decide) (by simp;lk)
  |acts h=>show plain 1 J (by decide) (by simp;lk)
  |set h r c v h1 h8=>
   show(_,J,_,_,J,J,_,J,_,J,l,_,_,_,J,J,o,q,p,_,5,_,J,J,u,J,_,_,J,J,?_);show(_,J,_,J,l,_,_,_,J,J,o,q,J,_,J,iu J ?_);let U:((b.length:Int)+1+4 - 1)=((b.length+4:Nat):Int):=by lk
   let Y:Hs ((b++(5::h::r::c::(v.length:Int)::v++t)).map V.int) ((b.length:Int)+1+4 - 1)=ag (.int (v.length:Int)):=by rw[U];show LM J
   show(_,J,_,J,_,J,_,_,J,J,l,_,_,_,J,J,o,Y,_,_,J,J,_,J,?_);change Q (.int ((b.length:Int)+1+4+(v.length:Int))) H;let e:((b.length:Int)+1+4+(v.length:Int))=((b.length+(5::h::r::c::(v.length:Int)::v).length:Nat):Int):=by simp;lk
   rw[e];show y
inductive vt(K:aq)(Z:Cs)(b:aa V)(H:Hp)(Q:VK)(E:XK):Prop|mk:∀A c d a,b=[.ref (A .dX),.ref c]->Hg K H c (d.flatten.map V.int)->SM.bL SM.CR d a->a.length<=300->((zu nS a).map iJ).sum<=1000000->Wd Z H A 0 nS (λ_=>[])->(∀e l,e l=ag (.bZ ((fN (zu nS a)).map V.int))->Q (.ref l) e)->vt K Z b H Q E
def wU:bM ["book","calls","answered","at","end","answer"] ["book","calls"] (bo (fI 72)):=cB
def UL(F:fQ K mg "answers_on" (fI 72) ["book","calls"])(ok:pq Z)(mn:mg "len"=au)(DE:-ig "end_of_call" ["calls","at"] 1 (Qn K))(DA:-ig "answer_of" ["book","call","numbers"] 8 (Cm Z)):-ig "answers_on" ["book","calls"] 9 (vt K Z):=by
 show F.def wU (λvs H abl abm h=> ?_) (λacw cdv A0 acD acV H vs abl abm hr h=> ?_)
 ·let⟨A,k,o,l,rfl,_⟩:=h
  rfl
 ·let⟨A,k,o,l,rfl,hcl,hcr,hcs,aav,u,abA⟩:=h
  let p:=wU.nd;let hr1:fo 1 _:=hr.bA (by decide);show(_,ay (dW 2 p (d9 aB)) (ay (dW 3 p aX)
   (ay (CG dE (fL wV (pv 3) (d7 cJ J mn cg (ak (pv 1) aB)) (fU _))
    (ay (dW 4 p (dU DE hr1 J (ak (pv 1) (ak (pv 3) aB))))
    (ay (dW 5 p (dU DA hr J (ak (pv 0) (ak (jm cG (pv 1) (pv 3)) (ak (qw x6 (pv 1) (oZ (ij mK (pv 3) aX)) (oZ (pv 4))) aB)))))
    (ay (fY (qy bX d6 d4 lq (pv 2) (ak (d7 cJ J mn cg (ak (pv 5) aB)) aB)))
    (ay (fY (qy bX mP mO wj (pv 2) (ak (pv 5) aB)))
    (aV (dW 3 p (pv 4))))))))
   (aV (bP (pv 2))))),?_)
  room
  show(bW _,λb v=> ?_);let I:bB H (bD H b (.bZ [])):=bB.new v;let aax:bD H b (.bZ []) b=ag (.bZ []):=aw;let WD0:=u.same I;let aaE:=hcl.bA (CA:=Z.CA) I.grows;generalize bD _ _ _=H0 at I aax WD0 aaE⊢;let' Inv:Nat->V->Hp->Prop:=λm at_ q=>∃L W M n a e f g,m=g.length/\at_=.int (a.length:Int)/\o.flatten=a++f.flatten/\SM.bL SM.CR f g/\n+g.length<=300/\e.length<=n/\
   zu nS l=e++zu W g/\Wd Z q L n W M/\L .dX=A .dX/\¬fJ L W.base.hands b/\q b=ag (.bZ ((fN e).map V.int))/\Hg K q k (o.flatten.map V.int)
  show(λm σ q=>∃aaG v4 v5,σ=[ag (.ref (A .dX)),ag (.ref k),ag (.ref b),ag aaG,v4,v5]/\Inv m aaG q,(l.length,.int 0,au,au,J,A,nS,_,0,[],[],o,l,J,J,J,hcr,by lk,aS _,J,WD0,J,(u.bk.free ok v),aax,aaE),?_);rintro m σ r ⟨av,v4,v5,rfl,A1,W,M,n,a,e,f,g,rfl,rfl,x,abC,hnc,hdn,aaV,W1,eb,aa0,aa1,N⟩
  room
  let abN:((o.flatten.map V.int).length:Int)=((a.length+f.flatten.length:Nat):Int):=by rw[ao,x,bt]
  show(_,J,_,J,k,_,J,.inl N.sq,_,_,J,J,_,J,?_);rw[abN];cases abC with
  |nil=>
   show jg (decide_eq_false (by simp)) (_,J,?_);let ab6:zu nS l=e:=by rw[aaV];show dz _
   show abA r b (by rw[ab6];show aa1)
  |cons hc ht=>
   rename_i acX c f g;let⟨i,d,rfl⟩:=M0 hc;let hfl:((i::d)::f).flatten=i::d++f.flatten:=by rw[iX]
   rw[hfl] at x;show iu (decide_eq_true (by rw[hfl];simp;lk)) (_,λσ' H'' z=>z,?_);let O:eE K r k ((a++(i::d++f.flatten)).map V.int):=by rw[<-x];show N.sq
   show(_,J,_,J,k,a,i::d,f.flatten,c,J,O,hc,?_);let h0:Hs ((a++(i::d++f.flatten)).map V.int) (a.length:Int)=ag (.int i):=LM (j:=0) J;show(_,J,_,J,_,J,k,_,_,_,J,J,O,h0,_,J,_,J,_,_,J,J,_,J,_,J,_,J,k,_,J,O,λy hnl=> ?_);let acg:pM ((a++(i::d++f.flatten)).map V.int) (ag ((a.length:Int)+1)) (ag ((a.length+(i::d).length:Nat):Int))=d.map V.int:=by
    let e1:((a.length:Int)+1)=((a.length+1:Nat):Int):=by lk
    rw[e1,UM _ (by simp) (by simp),<-F5,<-F4]
    congr 1
    rw[List.drop_append,List.drop_eq_nil_of_le (by lk)];let e2:a.length+1 - a.length=1:=by lk
    let e3:a.length+(i::d).length -(a.length+1)=d.length:=by simp;lk
    rw[e2,e3];simp
   rw[acg];let B:bB r (bD r y (.bZ (d.map V.int))):=bB.new hnl;let abb:bD r y (.bZ (d.map V.int)) y=ag (.bZ (d.map V.int)):=aw;let W2:=W1.same B;let C:=B _ _ aa1;let abc:=N.bA (CA:=Z.CA) B.grows;generalize bD _ _ _=H2 at B abb W2 C abc⊢;let abd:zu nS l=(e++[lV W c])++zu (eA W c).1 g:=by rw[aaV,dO];rfl
   rw[abd,bz,bz,SJ,SJ] at aav;let acm:([lV W c].map iJ).sum=(lV W c).length:=by simp
   rw[acm] at aav;rw[aN] at hnc;show(A1,W,M,n,y,i,d,c,(by rw[eb];rfl),abb,(W1.bk.free ok hnl),hc,W2,by lk,by lk,λs Q T D U W3 eb3 hl3 abh=> ?_);let E:=U.oM C aa0 (u.t1.ne v) (u.t2.ne v);let Y:=U.free (by rw[C];simp) aa0;let la:D≠b:=λz=>by rw[z,C] at hl3;cases hl3
   let htl:(fN e).length<=300+1000000:=by
    rw[Qe];lk
   show(_,J,.inl (J,_,eE.of E),_,J,D,_,J,.inl (eE.of abh),b,_,_,J,J,E,jy (by rw[ao];lk),?_);rw[ao];let W4:Wd Z (bD s b (.bZ ((fN e).map V.int++[.int ((lV W c).length:Int)]))) Q (n+1) (eA W c).1 T:=W3.W0 Y E (λz=>z) (λ_ z=>nomatch z);let t:bD s b (.bZ ((fN e).map V.int++[.int ((lV W c).length:Int)])) b=ag (.bZ ((fN e).map V.int++[.int ((lV W c).length:Int)])):=aw;let hl4:bD s b (.bZ ((fN e).map V.int++[.int ((lV W c).length:Int)])) D=ag (.bZ ((lV W c).map V.int)):=by rw[aZ la];show abh
   let g4:Grows Z.CA s (bD s b (.bZ ((fN e).map V.int++[.int ((lV W c).length:Int)]))):=Grows.put E (λz=>z);generalize bD _ _ _=H4 at W4 t hl4 g4⊢;show(_,J,.inl (J,_,eE.of t),_,J,b,D,_,_,J,J,t,hl4,xw (by simp![bt,ao,va];lk),?_);let W5:Wd Z (bD H4 b (.bZ ((fN e).map V.int++[.int ((lV W c).length:Int)]++(lV W c).map V.int))) Q (n+1) (eA W c).1 T:=W4.W0 Y t (λz=>z) (λ_ z=>nomatch z);let g5:Grows Z.CA H4 (bD H4 b (.bZ ((fN e).map V.int++[.int ((lV W c).length:Int)]++(lV W c).map V.int))):=Grows.put t (λz=>z);show(_,J,g.length,by rw[aN];show jC _,.int ((a.length+(i::d).length:Nat):Int),_,_,J,Q,(eA W c).1,T,n+1,a++(i::d),e++[lV W c],f,g,J,?_,?_,ht,by lk,by rw[bt];show pD hdn,abd,W5,eb3.trans eb,Y,?_,?_)
   ·rw[bt]
   ·rw[x,dO]
   ·rw[aw,NI,bz,dO]
    rfl
   ·show((abc.bA U.grow).bA g4).bA g5
inductive Fj(K:aq)(Z:Cs)(a:aa V)(H:Hp)(Q:VK)(E:XK):Prop|mk:∀b all,a=[.ref b]->Hg K H b (all.map V.int)->uY all=aC->fD H Z.PT uc n9->fD H Z.P2 Q4 IL->(∀c l,c l=ag (.bZ ((BC all).map V.int))->Q (.ref l) c)->Fj K Z a H Q E
def KU:bM ["calls"] ["calls"] (bo (fI 71)):=cB
def YK(F:fQ K mg "answers" (fI 71) ["calls"])(ok:pq Z)(o:-FU "Book" Z.CB ["self"] 6 (xu Z))(p:-ig "answers_on" ["book","calls"] 9 (vt K Z)):-ig "answers" ["calls"] 10 (Fj K Z):=by
 show F.def KU (λr H Q E h=> ?_) (λaax cdv A0 aaE aaG H r Q E b h=> ?_)
 ·let⟨c,all,rfl,_⟩:=h
  rfl
 ·let⟨c,all,rfl,s,u,v,y,k⟩:=h
  let C:fo 7 _:=b.bA (by decide);show(_,aV (bP (dU p b J (ak (WU o C J) (ak (pv 0) aB)))),?_);let⟨D,I,rfl,L,M,N,O⟩:=Jx u;intro x a d T hne;show(x,a,J,aw,λf A U hfr g B=>(J,?_));let i:bB H (bD (bD H a (.own x)) x (.lM Z.CB a [])):=λaa1 aa5 e=>by rw[aZ (bI e d),aZ (bI e T)];show e
  let j:=g.grows aw (λz=>ok.cb z.1);let l:∀{P:az} {m:pW} {n:cX},fD H P m n->fD f P m n:=λt=>(t.same i).keep g j (λz=>by
   let⟨ps,q⟩:=t.tb;rw[z,d] at q;cases q)
  let Y:Wd Z f A 0 nS (λ_=>[]):=(B,SM.Good.begin_ (by decide) (by decide) (by decide),l v,l y);show(_,J,A,c,D,I,(by rw[U];rfl),(s.bA (CA:=Z.CA) i.grows).bA j,L,M,O,Y,λH' aav hl=>k H' aav (by rw[N];show hl))
end
end jW
namespace L2
open PySem PySem.Spec PyProof.Rows
open PySem.W (WData Codec OpenSpec Well WellAll ReadsW ReadsAllW)
mutual
inductive Dw(K:PySem.W.Frag)(H:Hp):V->WData->Prop
 |jn:Dw K H .jn .none
 |bl (b:Bool):Dw K H (.bl b) (.bool b)
 |int (i:Int):Dw K H (.int i) (.int i)
 |str (x:Str):Dw K H (.str x) (.str x)
 |Hr (b:Array UInt8):Dw K H (.Hr b) (.bytes b.toList)
 |bZ {a:Addr} {xs:List V} {ds:List WData}:eE K H a xs->vR K H xs ds->Dw K H (.ref a) (.list ds)
 |dC {a:Addr} {xs:List V} {ds:List WData}:gg K H a xs->vR K H xs ds->Dw K H (.ref a) (.tuple ds)
inductive vR(K:PySem.W.Frag)(H:Hp):List V->List WData->Prop
 |nil:vR K H [] []
 |cons {v:V} {vs:List V} {d:WData} {ds:List WData}:Dw K H v d->vR K H vs ds->vR K H (v::vs) (d::ds)
end
theorem UH{K:aq}{H:Hp}:∀a:aa Int,vR K H (a.map V.int) (a.map YS)
 |[]=>.nil
 |n::r=>.cons (.int n) (UH r)
theorem Uz{K:aq}{H:Hp}:∀(b:aa Int) (a:aa V),vR K H a (b.map YS)->a=b.map V.int
 |[],a,h=>by
  cases h;rfl
 |n::r,a,h=>by
  cases h with
  |cons c d=>
   cases c;rw[Uz r _ d]<;>rfl
section
variable{P:bq}{w:World}{K:aq}{H:Hp}{h:cT}{R:PySem.W.WRecords}{cl:cX->ae az}
def Wy{a:az}{c:aa V}(f:sL P w H h)(KX:K.In h)(q:eE K H a c):∃(b:aa aE) (o:Eu) (n:Nat),eD c b/\h.get? a=ag o/\o.cls=.type "list"/\o.data=.seq b.toArray n:=by
 rcases q with q|⟨o,b,n,e,hc,_,g,_,d⟩
 ·let⟨_,b,n,d,e⟩:=(show fP P w H h a (.bZ c) from q.ok f)
  show(b,_,n,d,e,J,J)
 ·show(b.toList,o,n,d,KX _ _ e,hc,by simp[g])
def Wx{a:az}{c:aa V}(g:sL P w H h)(KX:K.In h)(q:gg K H a c):∃(b:aa aE) (o:Eu) (n:Nat),eD c b/\h.get? a=ag o/\o.cls=.type "tuple"/\o.data=.seq b.toArray n:=by
 rcases q with q|⟨o,b,n,e,hc,d,_,f⟩
 ·let⟨_,b,f,o,e,hc,n,d⟩:=(show fP P w H h a (.dC c) from q.ok g)
  show(b,o,n,f,e,hc,d)
 ·show(b.toList,o,n,f,KX _ _ e,hc,by simp[d])
mutual
theorem Dw.Fo(a:sL P w H h)(KX:K.In h):∀(d:ng) (v:V) (u:aE),Dw K H v d->RelV v u->∃c,ReadsW R cl h u d c
 | .none,_,_,x,r=>by
  cases x;cases r;show(_,ReadsW.none)
 | .bool b,_,_,x,r=>by
  cases x;cases r;show(_,ReadsW.bool b)
 | .int i,_,_,x,r=>by
  cases x;let⟨t,rfl⟩:=r;show(_,ReadsW.int i t)
 | .str s,_,_,x,r=>by
  cases x;let⟨t,rfl⟩:=r;show(_,ReadsW.str s t)
 | .bytes b,_,_,x,r=>by
  cases x;let⟨t,rfl⟩:=r;show(_,ReadsW.bytes _ t)
 | .list e,_,_,x,r=>by
  cases x with
  |bZ f g=>
   cases r;let⟨j,o,n,k,l,hc,m⟩:=Wy a KX f;let⟨c,p⟩:=Dw.qu a KX e _ j g k;show(_,ReadsW.list l hc m p)
 | .tuple e,_,_,x,r=>by
  cases x with
  |dC f g=>
   cases r;let⟨j,o,n,k,l,hc,m⟩:=Wx a KX f;let⟨c,p⟩:=Dw.qu a KX e _ j g k;show(_,ReadsW.tuple l hc m p)
 | .float _,_,_,x,_=>by cases x
 | .dict _,_,_,x,_=>by cases x
 | .bytearray _,_,_,x,_=>by cases x
 | .set _,_,_,x,_=>by cases x
 | .frozenset _,_,_,x,_=>by cases x
 | .obj _ _,_,_,x,_=>by cases x
theorem Dw.qu(b:sL P w H h)(KX:K.In h):∀(a:aa ng) (c:aa V) (e:aa aE),vR K H c a->eD c e->∃f,X8 R cl h e a f
 |[],_,_,x,r=>by
  cases x;cases r;show(_,adf)
 |d::a,_,_,x,r=>by
  cases x with
  |cons g i=>
   cases r with
   |cons j k=>
    let⟨f,l⟩:=Dw.Fo b KX d _ _ g j;let⟨n,m⟩:=Dw.qu b KX a _ _ i k;show(_,adg l m)
end
end
mutual
def Mx:ng->Bool
 | .none=>aC
 | .bool _=>aC
 | .int _=>aC
 | .str _=>aC
 | .bytes _=>aC
 | .list a=>AQ a
 | .tuple a=>AQ a
 |_=>aA
def AQ:aa ng->Bool
 |[]=>aC
 |x::r=>Mx x&&AQ r
end
theorem ID{b:Type}{f:b->ng}(h:∀a,Mx (f a)=aC):∀l:aa b,AQ (l.map f)=aC
 |[]=>rfl
 |x::r=>by
  change(Mx (f x)&&AQ (r.map f))=aC;rw[h x,ID h r]<;>rfl
theorem vA:∀(c:Codec) (a:c.denote),Mx (c.enc a)=aC
 | .unit,_=>rfl
 | .bool,_=>rfl
 | .int _ _,_=>rfl
 | .nat _ _,_=>rfl
 | .u8,_=>rfl
 | .bytes _ _,_=>rfl
 | .text _ _ _ _,_=>rfl
 | .list _ _ c,a=>ID (λx=>vA c x) a
 | .pair c d,a=>by
  change(Mx (c.enc a.1)&&(Mx (d.enc a.2)&&aC))=aC;rw[vA c a.1,vA d a.2]<;>rfl
 | .triple c d e,a=>by
  change(Mx (c.enc a.1)&&(Mx (d.enc a.2.1)&&(Mx (e.enc a.2.2)&&aC)))=aC;rw[vA c a.1,vA d a.2.1,vA e a.2.2]<;>rfl
 | .option c,au=>rfl
 | .option c,ag x=>vA c x
theorem Fq:∀(b:aa Codec) (a:PP b),AQ (uA b a)=aC
 |[],_=>rfl
 |c::b,a=>by
  change(Mx (c.enc a.1)&&AQ (uA b a.2))=aC;rw[vA c a.1,Fq b a.2]<;>rfl
theorem xm:∀{a:aa ng} {d:ng},d∈a->d.weight<=uK a
 |[],d,h=>absurd h (by simp)
 |x::r,d,h=>by
  change d.weight<=x.weight+1+uK r;rcases aT.mp h with e|m
  ·rw[e]
   lk
  ·let z:=xm m
   lk
def HR:aE->V
 | .none=>.jn
 | .bool b=>.bl b
 | .int i _=>.int i
 | .str x _=>.str x
 | .bytes b _=>.Hr b
 | .ref a=>.ref a
 |_=>.jn
def OR(A:aa az):aE->Prop
 | .none=>True
 | .bool _=>True
 | .int _ _=>True
 | .str _ _=>True
 | .bytes _ _=>True
 | .ref a=>a∈A
 |_=>False
def OR.bA{A B:aa az}(h:∀a∈A,a∈B):∀{u:aE},OR A u->OR B u:=λ{u} x=>by
 cases u with
 |ref a=>show h a x
 |none=>trivial
 |bool b=>trivial
 |int i t=>trivial
 |str s t=>trivial
 |bytes b t=>trivial
 |_=>show gF x
def QC{A:aa az}{u:aE}(x:OR A u):RelV (HR u) u:=by
 cases u with
 |ref a=>rfl
 |none=>rfl
 |bool b=>rfl
 |int i t=>show(t,J)
 |str s t=>show(t,J)
 |bytes b t=>show(t,J)
 |_=>show gF x
theorem su{A:aa az}:∀{a:aa aE},(∀u∈a,OR A u)->eD (a.map HR) a
 |[],_=>.nil
 |u::r,h=>.cons (QC (h u (aQ ..))) (su λx b=>h x (aM _ b))
def vU(h:cT)(A:aa az)(a:az):Prop:=∃b:aa aE,b.length<=bf/\(∀u∈b,OR A u)/\
 (h.get? a=ag {cls:=.type "list",data:=.seq b.toArray}\/h.get? a=ag {cls:=.type "tuple",data:=.seq b.toArray})
theorem vU.bA{h:cT}{A B:aa az}{a:az}(k:∀a∈A,a∈B)(x:vU h A a):vU h B a:=by
 let⟨b,c,d,e⟩:=x;show(b,c,λu f=>(d u f).bA k,e)
def vg{P:Bb}{h:cT}:∀{c:aa aE} {d:aa ng},uJ P h c d->c.length=d.length:=by
 intro c;induction c with
 |nil=>
  intro d q;cases q;rfl
 |cons v c e=>
  intro d q;cases q with
  |cons a b=>
   change _+1=_+1;rw[e b]
def Fb{P:Bb}{h:cT}{v:aE}{b:aa ng}(x:Well P h v (.list b)):∃(a:az) (c:aa aE),v=.ref a/\h.get? a=ag {cls:=.type "list",data:=.seq c.toArray}/\uJ P h c b:=by
 cases x with
 |list d e=>show(_,_,J,d,e)
def BP{P:Bb}{h:cT}{v:aE}{b:aa ng}(x:Well P h v (.tuple b)):∃(a:az) (c:aa aE),v=.ref a/\h.get? a=ag {cls:=.type "tuple",data:=.seq c.toArray}/\uJ P h c b:=by
 cases x with
 |tuple d e=>show(_,_,J,d,e)
def Fc{P:Bb}{h:cT}{c:aa aE}{d:ng}{e:aa ng}(x:uJ P h c (d::e)):∃(v:aE) (f:aa aE),c=v::f/\Well P h v d/\uJ P h f e:=by
 cases x with
 |cons a b=>show(_,_,J,a,b)
def MJ{n:Nat}(h:n<=1048576):n<=bf:=bC h (by decide)
section
variable{P:Bb}{h:cT}
mutual
theorem R7:∀(d:ng) (v:aE),Well P h v d->Mx d=aC->d.weight<=1048576->∃A:aa az,OR A v/\∀a∈A,vU h A a
 | .none,_,x,_,_=>by
  cases x;show([],trivial,λa m=>absurd m (by simp))
 | .bool b,_,x,_,_=>by
  cases x;show([],trivial,λa m=>absurd m (by simp))
 | .int i,_,x,_,_=>by
  cases x;show([],trivial,λa m=>absurd m (by simp))
 | .str s,_,x,_,_=>by
  cases x;show([],trivial,λa m=>absurd m (by simp))
 | .bytes b,_,x,_,_=>by
  cases x;show([],trivial,λa m=>absurd m (by simp))
 | .list c,_,x,p,z=>by
  let⟨a,l,rfl,n,g⟩:=Fb x;let j:uK c<=1048576:=z;let⟨A,o,q⟩:=yG c _ g p λd r=>bC (xm r) j;let k:∀b∈A,b∈a::A:=λb f=>aM _ f;show(a::A,aQ ..,λb f=> ?_);rcases aT.mp f with e|m
  ·rw[e]
   show(l,MJ (by rw[vg g];show bC (z9 c) j),λu t=>(o u t).bA k,.inl n)
  ·show(q b m).bA k
 | .tuple c,_,x,p,z=>by
  let⟨a,l,rfl,n,g⟩:=BP x;let j:uK c<=1048576:=z;let⟨A,o,q⟩:=yG c _ g p λd r=>bC (xm r) j;let k:∀b∈A,b∈a::A:=λb f=>aM _ f;show(a::A,aQ ..,λb f=> ?_);rcases aT.mp f with e|m
  ·rw[e]
   show(l,MJ (by rw[vg g];show bC (z9 c) j),λu t=>(o u t).bA k,.inr n)
  ·show(q b m).bA k
 | .float _,_,_,p,_=>e9 (show aA=aC from p)
 | .dict _,_,_,p,_=>e9 (show aA=aC from p)
 | .bytearray _,_,_,p,_=>e9 (show aA=aC from p)
 | .set _,_,_,p,_=>e9 (show aA=aC from p)
 | .frozenset _,_,_,p,_=>e9 (show aA=aC from p)
 | .obj _ _,_,_,p,_=>e9 (show aA=aC from p)
theorem yG:∀(c:aa ng) (g:aa aE),uJ P h g c->AQ c=aC->(∀d∈c,d.weight<=1048576)->∃A:aa az,(∀u∈g,OR A u)/\∀a∈A,vU h A a
 |[],_,x,_,_=>by
  cases x;show([],λu m=>absurd m (by simp),λa m=>absurd m (by simp))
 |d::c,_,x,p,z=>by
  let⟨v,g,rfl,k,l⟩:=Fc x;let q:Mx d=aC/\AQ c=aC:=Bool.and_eq_true_iff.mp p;let⟨A,n,o⟩:=R7 d v k q.1 (z d (aQ ..));let⟨B,r,s⟩:=yG c g l q.2 λe t=>z e (aM _ t);let i:∀b∈A,b∈A++B:=λb f=>bO.mpr (.inl f);let j:∀b∈B,b∈A++B:=λb f=>bO.mpr (.inr f);show(A++B,λu y=> ?_,λb f=> ?_)
  ·rcases aT.mp y with e|m
   ·rw[e]
    show n.bA i
   ·show(r u m).bA j
  ·rcases bO.mp f with m|m
   ·show(o b m).bA i
   ·show(s b m).bA j
end
end
def UD(o:Eu):ae HO:=match o.data with
 | .seq a _=>if(o.cls==ke "list")=aC then ag (.lH o (.bZ (a.toList.map HR))) else ag (.lH o (.dC (a.toList.map HR)))
 |_=>au
def sI(K:aq)(h:cT)(A:aa az):Hp:=λb=>if b∈A then(if(K.lookup b).isNone=aC then(h.get? b).bind UD else au) else au
def JF(H:Hp):Prop:=∀b,H b=au\/∃o u,H b=ag (.lH o u)
def Jg(a:aa aE):UD {cls:=.type "list",data:=.seq a.toArray}=ag (.lH {cls:=.type "list",data:=.seq a.toArray} (.bZ (a.map HR))):=by
 change(if(ke "list"==ke "list")=aC then ag (HO.lH {cls:=.type "list",data:=.seq a.toArray} (.bZ (a.toArray.toList.map HR))) else ag (HO.lH {cls:=.type "list",data:=.seq a.toArray} (.dC (a.toArray.toList.map HR))))=_;rw[aH (beq_self_eq_true _)]
def Jf(a:aa aE):UD {cls:=.type "tuple",data:=.seq a.toArray}=ag (.lH {cls:=.type "tuple",data:=.seq a.toArray} (.dC (a.map HR))):=by
 change(if(ke "tuple"==ke "list")=aC then ag (HO.lH {cls:=.type "tuple",data:=.seq a.toArray} (.bZ (a.toArray.toList.map HR))) else ag (HO.lH {cls:=.type "tuple",data:=.seq a.toArray} (.dC (a.toArray.toList.map HR))))=_;rw[aD (by decide)]
section
variable{P:bq}{w:World}{K:aq}{h:cT}{A:aa az}
def Bz{b:az}{o:Eu}(a:b∈A)(c:K.lookup b=au)(e:h.get? b=ag o):sI K h A b=UD o:=by
 unfold sI;rw[aH a,c,aH (show(au:ae Eu).isNone=aC from rfl),e]<;>rfl
def Ul{b:az}{u:HO}(q:sI K h A b=ag u):b∈A/\K.lookup b=au:=by
 unfold sI at q;by_cases a:b∈A
 ·rw[aH a] at q
  cases c:K.lookup b with
  |none=>show(a,J)
  |some o=>
   rw[c,aD (by simp)] at q;cases q
 ·rw[aD a] at q
  cases q
def yF(g:∀a∈A,vU h A a){b:az}{u:HO}(q:sI K h A b=ag u):K.lookup b=au/\∃c:aa aE,c.length<=bf/\(∀u∈c,OR A u)/\
  ((h.get? b=ag {cls:=.type "list",data:=.seq c.toArray}/\u=.lH {cls:=.type "list",data:=.seq c.toArray} (.bZ (c.map HR)))\/
   (h.get? b=ag {cls:=.type "tuple",data:=.seq c.toArray}/\u=.lH {cls:=.type "tuple",data:=.seq c.toArray} (.dC (c.map HR)))):=by
 let⟨d,f⟩:=Ul q;let⟨c,i,j,k⟩:=g b d;show(f,c,i,j,?_);rcases k with e|e
 ·rw[Bz d f e,Jg] at q
  show .inl (e,(aJ q).symm)
 ·rw[Bz d f e,Jf] at q
  show .inr (e,(aJ q).symm)
def OO(c:∀a∈A,vU h A a):JF (sI K h A):=λb=>by
 cases q:sI K h A b with
 |none=>show .inl rfl
 |some u=>
  obtain⟨_,d,_,_,⟨_,e⟩|⟨_,e⟩⟩:=yF c q
  ·show .inr (_,_,by rw[e])
  ·show .inr (_,_,by rw[e])
def Bn{c a:aE}{b d:aa aE}(e:(ag {cls:=c,data:=.seq b.toArray}:ae Eu)=ag {cls:=a,data:=.seq d.toArray}):c=a/\b=d:=by
 let f:=aJ e;let g:c=a:=eI Yi f;let i:ab3 b.toArray=ab3 d.toArray:=eI Obj.data f;injection i with j;show(g,?_);let k:=eI Hn j;simpa using k
def acT(KX:K.In h)(j:∀a∈A,vU h A a){a:az}{b:aa aE}(d:a∈A)(e:h.get? a=ag {cls:=.type "list",data:=.seq b.toArray}):(∀u∈b,OR A u)/\eE K (sI K h A) a (b.map HR):=by
 let⟨f,k,g,l⟩:=j a d;let m:f=b:=by
  rcases l with q|q
  ·rw[e] at q
   show(Bn q).2.symm
  ·rw[e] at q
   show absurd (JZ (Bn q).1) (by decide)
 subst m;show(g,?_);cases c:K.lookup a with
 |none=>show .inl (.inr (_,by rw[Bz d c e,Jg]))
 |some o=>
  let i:=KX a o c;rw[e] at i;obtain rfl:=aJ i;show .inr (_,f.toArray,_,c,J,J,J,by rw[bj];show k,by simpa using su g)
def acS(KX:K.In h)(j:∀a∈A,vU h A a){a:az}{b:aa aE}(d:a∈A)(e:h.get? a=ag {cls:=.type "tuple",data:=.seq b.toArray}):(∀u∈b,OR A u)/\gg K (sI K h A) a (b.map HR):=by
 let⟨f,k,g,l⟩:=j a d;let m:f=b:=by
  rcases l with q|q
  ·rw[e] at q
   show absurd (JZ (Bn q).1) (by decide)
  ·rw[e] at q
   show(Bn q).2.symm
 subst m;show(g,?_);cases c:K.lookup a with
 |none=>show .inl (.inr (_,by rw[Bz d c e,Jf]))
 |some o=>
  let i:=KX a o c;rw[e] at i;obtain rfl:=aJ i;show .inr (_,f.toArray,_,c,J,J,by rw[bj];show k,by simpa using su g)
mutual
theorem Xw{m:Bb}(KX:K.In h)(c:∀a∈A,vU h A a):∀(d:ng) (v:aE),Well m h v d->Mx d=aC->OR A v->Dw K (sI K h A) (HR v) d
 | .none,_,x,_,_=>by
  cases x;show .jn
 | .bool b,_,x,_,_=>by
  cases x;show .bl b
 | .int i,_,x,_,_=>by
  cases x;show .int i
 | .str s,_,x,_,_=>by
  cases x;show .str s
 | .bytes b,_,x,_,_=>by
  cases x;let z:=Dw.Hr (K:=K) (H:=sI K h A) b.toArray;show z
 | .list e,_,x,p,f=>by
  let⟨a,n,rfl,g,j⟩:=Fb x;let⟨k,l⟩:=acT KX c f g;show .bZ l (G0 KX c e _ j p k)
 | .tuple e,_,x,p,f=>by
  let⟨a,n,rfl,g,j⟩:=BP x;let⟨k,l⟩:=acS KX c f g;show .dC l (G0 KX c e _ j p k)
 | .float _,_,_,p,_=>e9 (show aA=aC from p)
 | .dict _,_,_,p,_=>e9 (show aA=aC from p)
 | .bytearray _,_,_,p,_=>e9 (show aA=aC from p)
 | .set _,_,_,p,_=>e9 (show aA=aC from p)
 | .frozenset _,_,_,p,_=>e9 (show aA=aC from p)
 | .obj _ _,_,_,p,_=>e9 (show aA=aC from p)
theorem G0{g:Bb}(KX:K.In h)(e:∀a∈A,vU h A a):∀(b:aa ng) (c:aa aE),uJ g h c b->AQ b=aC->(∀u∈c,OR A u)->vR K (sI K h A) (c.map HR) b
 |[],_,x,_,_=>by
  cases x;show .nil
 |d::b,_,x,p,f=>by
  let⟨v,c,rfl,i,j⟩:=Fc x;let q:Mx d=aC/\AQ b=aC:=Bool.and_eq_true_iff.mp p;show .cons (Xw KX e d v i q.1 (f _ (aQ ..))) (G0 KX e b c j q.2 λu m=>f u (aM _ m))
end
end
def Df{a:aa ng}(h:WData.layableAll a=aC):∀d∈a,d.weight<=1048576:=λd b=>
 (W.layableW_iff.mp (tp.mp h d b)).2.2
theorem Dx:∀(b:aa Codec) (a:PP b),(uA b a).length=b.length
 |[],_=>rfl
 |c::b,a=>by
  change(uA b a.2).length+1=b.length+1;rw[Dx b a.2]
end L2
namespace jW
open PySem PySem.Spec PyProof.Rows L2 LX fq SM HT
open PySem.W (WData Codec OpenSpec Well WellAll ReadsW ReadsAllW)
def zk(H:Hp)(a:aa (az×az)):Hp:=λb=>if b∈a.map (·.2) then ag (.oY #[]) else H b
def Gm(h:b∈a.map (·.2)):zk H a b=ag (.oY #[]):=aH h
def vk(h:b∉a.map (·.2)):zk H a b=H b:=aD h
def Ju{h:cT}(b:∃c a,i "__builtins__"=ag (.ref c)/\c≠A6/\h.get? c=ag a/\a.cls=.type "module"/\a.dict=ag A6/\a.data=.plain)(g:h.Ns fj i)(j:h.get? P=ag (qd #[])):h.BuiltinsAt i P:=by
 let⟨c,a,m,n,f,k,p,l⟩:=b;show(c,a,m,n,λe=> ?_,λe=> ?_,f,k,p,l)
 ·let⟨o,r,s,q,d,_⟩:=g
  rw[<-e,f] at q;cases q;rw[l] at d;cases d
 ·rw[<-e,f] at j
  cases j;cases k
def Kv{K:aq}
  (KX:K.In a.heap)(hT:O7 f a.heap)(hKT:∀q∈f,K.lookup q.2=au)(hbm:∀q∈f,a.heap.BuiltinsAt j q.2)(N:a.heap.Ns fj j)(c:a.heap.Ns A6 mb)(hbb:∀x:cX,x≠"__name__"->mb x=pC x)(abl:a.heap.NoLimit)(hg:a.gens= #[])
  (O:uJ w.params a.heap k t)(hpl:AQ t=aC)(hwt:∀d∈t,d.weight<=1048576)(hr:fo abn O0)
  (hfa:j x=ag (.ref fa))(F:∀base:cT,K.In base->base.Ns fj j->(∀q∈f,qf base q.1 q.2/\base.BuiltinsAt j q.2/\fj≠q.2)->ig P w K j base x p abn sp)(abA:t.length=p.length)
  (hsp:∀H xs,JF H->(∀q∈f,H q.2=au)->vR K H xs t->sp xs (zk H f) (λv E=>Dw K E v d0) λ_ _ _=>False):
  qk (bp P w) O0 (.call (.ref fa) (k,[])) (λr l=>∃u Q,r=.ok (.ret u)/\ReadsW R cl l.heap u d0 Q/\OldK a.heap l.heap/\l.os=a.os/\Ey l.gens) a:=by
 let⟨A,ho,y⟩:=yG t k O hpl hwt;let T:JF (sI K a.heap A):=OO y;let aa0:∀E b u,sI K a.heap A b=ag u->fP P w E a.heap b u:=λE b u q=>by
  obtain⟨_,g,B,C,⟨e,rfl⟩|⟨e,rfl⟩⟩:=yF y q
  ·show(e,by rw[ao];show B,g,_,su C,e)
  ·show(e,by rw[ao];show B,g,su C,_,e,J,_,J)
 let hS:=G0 KX y t k O hpl ho;let hV:=su ho;let hTn:∀q∈f,sI K a.heap A q.2=au:=λq h=>by
  cases z:sI K a.heap A q.2 with
  |none=>rfl
  |some u=>
   let e:=(hT q h).2;obtain⟨_,g,_,_,⟨i,_⟩|⟨i,_⟩⟩:=yF y z
   ·rw[i] at e
    let U:=eI Yi (aJ e);cases U
   ·rw[i] at e
    let U:=eI Yi (aJ e);cases U
 let hK0:∀b u,sI K a.heap A b=ag u->K.lookup b=au:=λb u q=>(yF y q).1;let aa7:∀{b:az} {o:Eu},a.heap.get? b=ag o->(∀g n,o.data≠.seq g n)->sI K a.heap A b=au:=λ{b o} e d=>by
  cases q:sI K a.heap A b with
  |none=>rfl
  |some u=>
   obtain⟨_,g,_,_,⟨i,_⟩|⟨i,_⟩⟩:=yF y q
   ·rw[i] at e
    cases e;show absurd rfl (d _ _)
   ·rw[i] at e
    cases e;show absurd rfl (d _ _)
 let Y:=hsp _ _ T hTn hS;generalize sI K a.heap A=s at T aa0 hS hTn hK0 aa7 Y;let D:∀{b:az},b∈f.map (·.2)->a.heap.get? b=ag (qd #[])/\isCodeTable a.heap b/\K.lookup b=au:=λ{b} c=>by
  let⟨q,h,rfl⟩:=aY.mp c;show((hT q h).2,((hT q h).1.tab (hT q h).2).isCodeTable,hKT q h)
 let hok:sL P w (zk s f) a.heap:=λb u q=>by
  by_cases c:b∈f.map (·.2)
  ·rw[Gm c] at q
   cases q;show(D c).1
  ·rw[vk c] at q
   show aa0 _ b u q
 let hK:∀b u,zk s f b=ag u->K.lookup b=au:=λb u q=>by
  by_cases c:b∈f.map (·.2)
  ·show(D c).2.2
  ·rw[vk c] at q
   show hK0 b u q
 let I:∀{b:az} {o:Eu},a.heap.get? b=ag o->o≠qd #[]->(∀g n,o.data≠.seq g n)->zk s f b=au:=λ{b o} e n d=>by
  by_cases c:b∈f.map (·.2)
  ·let z:=(D c).1
   rw[e] at z;show absurd (aJ z) n
  ·rw[vk c]
   show aa7 e d
 let aax:∀b,(b∉f.map (·.2)/\(zk s f b=au\/∃o u,zk s f b=ag (.lH o u)))\/(b∈f.map (·.2)/\zk s f b=ag (.oY #[])):=λb=>by
  by_cases c:b∈f.map (·.2)
  ·show .inr (c,Gm c)
  ·show .inl (c,?_)
   rw[vk c];show T b
 generalize zk s f=H at hok hK I aax Y;let L:∀{b:az} {o:Eu},a.heap.get? b=ag o->H b=au->(Do a.heap H).get? b=ag o:=λe n=>RD e n;let M:∀{b:az} {aaC:Sv},a.heap.Ns b aaC->(Do a.heap H).Ns b aaC:=λ{b aaC} (o,es,ep,e,d,r)=>(o,es,ep,L e (I e (λz=>by rw[z] at d;cases d) (λg n z=>by rw[d] at z;cases z)),d,r);let nK:∀b o,K.lookup b=ag o->H b=au:=λb o e=>by
  cases q:H b with
  |none=>rfl
  |some u=>
   rw[hK b u q] at e;cases e
 let hKb:K.In (Do a.heap H):=λb o e=>L (KX b o e) (nK b o e);let hM:Mod K j (Do a.heap H):=(hKb,M N,(mb,M c,hbb),let(mc,B,C):=abl;(mc,M B,C));let e0:LQ P w K j (Do a.heap H) O0 [] a H:=(J,hM,λb o e=>Uk e,uS (Oq _ _),trivial,λb c=>absurd (show b∈([]:aa az) from c) (by simp),hok,.of_eq hg);let hl:k.length=p.length:=by rw[vg O];show abA
 let hcd:∀q∈f,qf (Do a.heap H) q.1 q.2/\(Do a.heap H).BuiltinsAt j q.2/\fj≠q.2:=λq h=>by
  show(?_,?_,λe=> ?_)
  ·let⟨o,g,abD,tf,abE,tg,inF,text,tt,m,r1,r2,r⟩:=(hT q h).1
   show(o,g,abD,tf,abE,tg,inF,text,tt,L m (I m (λz=>by rw[z] at r1;cases r1) (λg n z=>by rw[r2] at z;cases z)),r1,r2,r)
  ·let⟨bm,o,B,C,h3,h4,h5,h6,h7,h8⟩:=hbm q h
   show(bm,o,B,C,h3,h4,L h5 (I h5 (λz=>by rw[z] at h6;cases h6) (λg n z=>by rw[h8] at z;cases z)),h6,h7,h8)
  ·let⟨o,es,ep,q1,d,_⟩:=N
   let z:=(hT q h).2;rw[<-e,q1] at z;cases z;cases d
 let⟨f',fd,hm,_,ab6,hF⟩:=(F _ hKb (M N) hcd).ex;rw[hfa] at hm;cases hm;let hbd:=ab6 a k KX (by rw[dz];show hl);rw[dz] at hbd;show rV (hF.run O0 [] a H (k,[]) k (k.map HR) _ _ hr e0 hbd hV Y) λr l x=> ?_;cases r with
 |error e=>show(show False from x).elim
 |ok fl=>
  cases fl with
  |next=>show gF x
  |brk=>show gF x
  |cont=>show gF x
  |ret u=>
   let⟨v,E,os,acg,un,aaE,r',q⟩:=x;let aaG:∀b o,b∉f.map (·.2)->a.heap.get? b=ag o->l.heap.get? b=ag o:=λb o c e=>by
    rcases aax b with⟨_,z|⟨ob,u3,z⟩⟩|⟨z,_⟩
    ·show un.keep b o e z (by intro z;show absurd (show b∈([]:aa az) from z) (by simp)) (by simp)
    ·let z2:=un.frzs b ob _ z
     let⟨m,_⟩:=hok b _ z;let⟨i,_⟩:=aaE b _ z2;rw[e] at m;cases m;show i
    ·show absurd z c
   let abd:∀b o,b∈f.map (·.2)->a.heap.get? b=ag o->isCodeTable a.heap b/\o=qd #[]/\∃p,l.heap.get? b=ag (qd p):=λb o c e=>by
    rcases aax b with⟨z,_⟩|⟨_,z⟩
    ·show absurd c z
    ·let⟨more,z2⟩:=un.tbls b _ z
     let m:=(D c).1;rw[e] at m;show((D c).2.1,aJ m,_,aaE b _ z2)
   let KX':K.In l.heap:=λb o e=>aaG b o (λc=>by rw[(D c).2.2] at e;cases e) (KX b o e);let⟨Q,hrd⟩:=Dw.Fo (R:=R) (cl:=cl) aaE KX' d0 v u q r';show(u,Q,J,hrd,(λb o e=> ?_,λb o e=> ?_),os,acg)
   ·by_cases c:b∈f.map (·.2)
    ·let⟨ht,rfl,p,hP⟩:=abd b o c e
     show .inr (.inl (ht,J,#[],p,J,by rw[Array.empty_append];show hP))
    ·show .inl (aaG b o c e)
   ·by_cases c:b∈f.map (·.2)
    ·let⟨_,_,p,hP⟩:=abd b o c e
     show(_,hP)
    ·show(o,aaG b o c e)
def Wf{k:Nat}{K:Bb->aq}{sp:aq->Sp}
  (l:r.wellSaid=aC)(m:r.args.length=ps.length)(n:fo k O0)
  (o:∀w h,p w h->(K w.params).In h/\O7 ts h)(s:∀P:Bb,∀q∈ts,(K P).lookup q.2=au)
  (F:∀w c h,(K w.params).In h->h.Ns fj c->
   ∀base:cT,(K w.params).In base->base.Ns fj c->(∀q∈ts,qf base q.1 q.2/\base.BuiltinsAt c q.2/\fj≠q.2)->ig r.prog w (K w.params) c base d.name ps k (sp (K w.params)))
  (t:∀K H e a,JF H->(∀q∈ts,H q.2=au)->Codec.withinAll r.args a=aC->Pe r.args r.asked a=aC->vR K H e (uA r.args a)->
   sp K e (zk H ts) (λv x=>Dw K x v (r.ret.enc (Pe r.args r.f a))) λ_ _ _=>False):
  W.WalkOS q aaC XP p r d [] (λy z=>PySem.call y z):=by
 intro w A aaE c mb G Y fa aaG pm cd doc dV kV ho hd hcd hD B C args aa1 as D E hrd I hlo;let⟨a,L,M⟩:=W.os_pre_some D;let⟨N,j⟩:=Codec.encAll_of_decAll r.args args a L;subst N;let⟨KX,hT⟩:=o w _ Y;show W.enter_call (rV (Kv (R:=[]) (cl:=classAt A.heap) (d0:=r.ret.enc (Pe r.args r.f a)) KX hT (s _) (λq i=>Ju G.T.bmain G.T.g (hT q i).2) G.T.g G.T.b G.T.builtins G.T.nolimit C I (Fq _ _) (Df E) n B (F w c _ KX G.T.g) (by rw[Dx];show m)
  (λH e O Q U=>t _ H e a O Q j M U)) λr' s' i=> ?_)
 let⟨u,as',rfl,h1,h2,h3,h4⟩:=i;show(.inl (u,_,as',J,λ_=>rfl,h1,(OpenSpec.post_iff l j _ _).mpr J,λaax=>e9 (show aA=aC from aax)),h2,h3,h4)
section
variable{K:aq}{h:cT}{mg:Sv}{x m afW:cX}{st:qc}{ps:aa cX}{f c C a:az}{oc kV afQ pm afR ct:aE}{od an:ae az}{afX:af (ae aE)}
def aaj(X:K.In h)(G:h.Ns fj mg)(a:EY K fj x=ag (ag (.ref f)))(l:K.lookup f=ag (oc,od,.func (eU x x (ku st) (iB st) (bo st) .none kV afQ pm an afR ct),afX))
  (c:ju K afR x=aC)(k:eG K (.ref f)=aC)(b:∀(kV afQ pm:aE) (an:ae az) (afR ct:aE) (d:aa aE),d.length=ps.length->qN (eU x x (ku st) (iB st) (bo st) .none kV afQ pm an afR ct) (d,[])=i8 (ps.zip d)):fQ K mg x st ps:=
 (f,_,Er X G a,zK l c k,(zK l c k).w9 b)
def abk(X:K.In h)(G:h.Ns fj mg)(a:EY K fj x=ag (ag (.ref f)))(l:K.lookup f=ag (oc,od,.func (eU x x (ku st) (iB st) (bo st) .none kV afQ pm an (.ref c) ct),afX))
  (e:ju K (.ref c) x=aC)(k:eG K (.ref f)=aC)(b:∀(kV afQ pm:aE) (an:ae az) (afR ct:aE) (d:aa aE),d.length=ps.length->qN (eU x x (ku st) (iB st) (bo st) .none kV afQ pm an afR ct) (d,[])=i8 (ps.zip d)):UY K mg x st ps c:=
 (f,_,_,_,_,_,_,_,_,Er X G a,l,e,k,(zK l e k).w9 b)
def Yt(a:gi K (.ref C) m=ag (ag (.ref f)))(i:sS K (.ref f)=aC)(l:K.lookup f=ag (oc,od,.func (eU m afW (ku st) (iB st) (bo st) .none kV afQ pm an afR ct),afX))
  (c:ju K afR afW=aC)(k:eG K (.ref f)=aC)(b:∀(kV afQ pm:aE) (an:ae az) (afR ct:aE) (d:aa aE),d.length=ps.length->qN (eU m afW (ku st) (iB st) (bo st) .none kV afQ pm an afR ct) (d,[])=i8 (ps.zip d)):ip K C m afW st ps:=
 (f,_,(a,i,k),zK l c k,(zK l c k).w9 b)
def ZX(a:gi K (.ref C) m=ag (ag (.ref f)))(i:sS K (.ref f)=aC)(l:K.lookup f=ag (oc,od,.func (eU m afW (ku st) (iB st) (bo st) .none kV afQ pm an (.ref c) ct),afX))
  (e:ju K (.ref c) afW=aC)(k:eG K (.ref f)=aC)(b:∀(kV afQ pm:aE) (an:ae az) (afR ct:aE) (d:aa aE),d.length=ps.length->qN (eU m afW (ku st) (iB st) (bo st) .none kV afQ pm an afR ct) (d,[])=i8 (ps.zip d)):Nb K C m afW st ps c:=
 (f,_,_,_,_,_,_,_,_,(a,i,k),l,e,k,(zK l e k).w9 b)
def abf{i:Int}{t:Nat}(X:K.In h)(G:h.Ns fj mg)(a:EY K fj x=ag (ag (.int i t))):qI mg x i:=(_,Er X G a)
def abg{d:aa (Int×V)}{b:af jO}{g:Nat}(l:K.lookup a=ag (oc,od,.dict b g,afX))(e:Obj.ExactDict (oc,od,.dict b g,afX))(p:fG TopE b.toList d)(i:(d.map (·.1)).Nodup)(s:(a==dM)=aA):TopD K a d:=((_,b,g,l,e,J,p),i,s)
def acj{b:af aE}{n:Nat}{d:aa V}(l:K.lookup a=ag (.type "tuple",od,.seq b n,afX))(s:b.size<=bf)(v:eD d b.toList)(H:Hp):gg K H a d:=.inr (_,b,n,l,J,J,s,v)
def acr:∀g∈([]:aa cX),mM K C g:=λ_ z=>nomatch z
def abj{b:aa cX}(h:gi K (.ref C) x=ag au)(t:∀g∈b,mM K C g):∀g∈x::b,mM K C g:=List.forall_mem_cons.mpr (h,t)
def acR{K:aq}{H:Hp}{g:aa (az×az)}{b:az}{d:aa V}(i:JF H)(hT:∀q∈g,H q.2=au)(j:eE K H b d):Hg K (zk H g) b d:=by
 rcases j with q|q
 ·let e:∃o,H b=ag (.lH o (.bZ d)):=by
   rcases q with q|⟨o,q⟩
   ·rcases i b with z|⟨o,u,z⟩
    ·rw[z] at q;cases q
    ·rw[z] at q;cases q
   ·show(o,q)
  let⟨o,e⟩:=e;show .inl (o,?_);rw[vk λk=> ?_]
  ·show e
  ·let⟨p,l,z⟩:=aY.mp k
   rw[<-z,hT p l] at e;cases e
 ·show .inr λn=>.inr q
def ab7{H:Hp}{b:aa (az×az)}{P:az}{d:pW}{q:cX}(h:P∈b.map (·.2)):fD (zk H b) P d q:=(#[],Gm h,trivial,.inl rfl)
end
def u1{s:aa aE}(h:s.length=1):∃a,s=[a]:=match s,h with|[a],_=>(a,J)
def u2{s:aa aE}(h:s.length=2):∃a b,s=[a,b]:=match s,h with|[a,b],_=>(a,b,J)
def u3{s:aa aE}(h:s.length=3):∃a b c,s=[a,b,c]:=match s,h with|[a,b,c],_=>(a,b,c,J)
def u4{s:aa aE}(h:s.length=4):∃a b c d,s=[a,b,c,d]:=match s,h with|[a,b,c,d],_=>(a,b,c,d,J)
def u5{s:aa aE}(h:s.length=5):∃a b c d e,s=[a,b,c,d,e]:=match s,h with|[a,b,c,d,e],_=>(a,b,c,d,e,J)
def u6{s:aa aE}(h:s.length=6):∃a b c d e f,s=[a,b,c,d,e,f]:=match s,h with|[a,b,c,d,e,f],_=>(a,b,c,d,e,f,J)
def u7{s:aa aE}(h:s.length=7):∃a b c d e f g,s=[a,b,c,d,e,f,g]:=match s,h with|[a,b,c,d,e,f,g],_=>(a,b,c,d,e,f,g,J)
end jW
end
open PySem PySem.W PyProof.Rows Hd
abbrev Z0 : jW.Cs:=⟨122,223,303,189,371⟩
set_option hygiene false in
local macro_rules | `(tactic| room)=>`(tactic| (intro _ _ _ _ _ _ us hl; first | (obtain ⟨_,rfl⟩:=jW.u1 hl; exact rfl) | (obtain ⟨_,_,rfl⟩:=jW.u2 hl; exact rfl) | (obtain ⟨_,_,_,rfl⟩:=jW.u3 hl; exact rfl) | (obtain ⟨_,_,_,_,rfl⟩:=jW.u4 hl; exact rfl) | (obtain ⟨_,_,_,_,_,rfl⟩:=jW.u5 hl; exact rfl) | (obtain ⟨_,_,_,_,_,_,rfl⟩:=jW.u6 hl; exact rfl) | (obtain ⟨_,_,_,_,_,_,_,rfl⟩:=jW.u7 hl; exact rfl)))
set_option hygiene false in
local macro_rules|`(-$f:ident $a*)=>`(@$f pw w ?K mg base $a*)
local macro_rules | `(())=>`(by first | assumption | (refine jW.aaj ‹_› ‹_› (by k_is) (by k_is) (by k_is) (by k_is) ?_; room) | (refine jW.abk ‹_› ‹_› (by k_is) (by k_is) (by k_is) (by k_is) ?_; room) | (refine jW.Yt (C:=122) (by k_is) (by k_is) (by k_is) (by k_is) (by k_is) ?_; room) | (refine jW.Yt (C:=223) (by k_is) (by k_is) (by k_is) (by k_is) (by k_is) ?_; room) | (refine jW.Yt (C:=303) (by k_is) (by k_is) (by k_is) (by k_is) (by k_is) ?_; room) | (refine jW.ZX (C:=223) (by k_is) (by k_is) (by k_is) (by k_is) (by k_is) ?_; room) | exact jW.abf ‹_› ‹_› (by k_is) | exact PySem.W.mg_none_of ‹_› ‹_› (by k_is) | exact PySem.W.mg_of ‹_› ‹_› (by k_is) | decide | k_is)
theorem PySem.Challenge.cw_sheethands_s01_answers_holds : PySem.Challenge.rw_sheethands_s01_answers.Holds := by
 w_on
 refine PySem.W.holds_os (q:=vq) (loose:=lo) (Xt:=fun s=>xlAt vq [] s && recOk [] s) (XP:=XL vq []) (Yf:=hk.obs) (Ya:=hk.val) (YP:=hk.says) (N:=7086) hl hk.of hk.keeps (fun s e=>xl_of s (Bool.and_eq_true_iff.mp e).1) XL.keeps (by rfl) (by rfl) (by rfl) (fun s e=>recFacts_of (Bool.and_eq_true_iff.mp e).2) os_shapes (by first | assumption | decide +kernel) (by decide +kernel) ⟨rfl,rfl,rfl,rfl,rfl,by decide +kernel⟩ ?hw ?hc
 case hw=>exact ⟨[.list []],by decide +kernel,by decide +kernel⟩
 k_fillS
 refine jW.Wf (r:=PySem.Challenge.rw_sheethands_s01_answers) (k:=10) (ps:=["calls"]) (sp:=fun K=>jW.Fj K Z0) (ts:=[(193,189),(375,371)]) (by decide +kernel) rfl ⟨rfl,by decide,by decide⟩ (fun w h Y=>⟨PySem.W.km_in_of Y,List.forall_mem_cons.mpr ⟨⟨PySem.W.codeHd_of_K (c:=193) (P:=189) (PySem.W.km_in_of Y) (by kernel_rfl),PySem.W.km_tabs_of Y 189 (by simp)⟩,List.forall_mem_cons.mpr ⟨⟨PySem.W.codeHd_of_K (c:=375) (P:=371) (PySem.W.km_in_of Y) (by kernel_rfl),PySem.W.km_tabs_of Y 371 (by simp)⟩,fun _ z=>nomatch z⟩⟩⟩) (fun P=>List.forall_mem_cons.mpr ⟨by kernel_rfl,List.forall_mem_cons.mpr ⟨by kernel_rfl,fun _ z=>nomatch z⟩⟩) ?F ?S
 case F =>
  intro w mg h KX G base KB GB hT
  show jW.ig pw w ?K mg base _ _ _ _
  have T122 : jW.dY ?K 122 jW.rK:=by refine ⟨⟨?_,?_,?_,?_⟩,jW.abj ?_ (jW.abj ?_ (jW.abj ?_ (jW.abj ?_ (jW.abj ?_ (jW.abj ?_ jW.acr)))))⟩; iterate 10 k_is
  have T223 : jW.dY ?K 223 jW.iS:=by refine ⟨⟨?_,?_,?_,?_⟩,jW.abj ?_ (jW.abj ?_ (jW.abj ?_ (jW.abj ?_ (jW.abj ?_ (jW.abj ?_ (jW.abj ?_ jW.acr))))))⟩; iterate 11 k_is
  have T303 : jW.dY ?K 303 jW.iU:=by refine ⟨⟨?_,?_,?_,?_⟩,jW.abj ?_ (jW.abj ?_ jW.acr)⟩; iterate 6 k_is
  have ok : jW.pq Z0:=⟨by decide,by decide,by decide⟩
  have ml : mg "len" = none:=()
  have t1 : jW.XV ?K mg:=by refine' ⟨308,PySem.W.mg_of KX G (by k_is),jW.abg ?l ?e ?pq (by decide) rfl⟩; (case l=>k_is); (case e=>exact ⟨rfl,rfl,rfl⟩); (case pq=>exact .cons ⟨rfl,⟨_,rfl⟩,⟨_,rfl⟩⟩ (.cons ⟨rfl,⟨_,rfl⟩,⟨_,rfl⟩⟩ (.cons ⟨rfl,⟨_,rfl⟩,⟨_,rfl⟩⟩ (.cons ⟨rfl,⟨_,rfl⟩,⟨_,rfl⟩⟩ (.nil)))))
  have t2 : jW.UV ?K mg:=by refine' ⟨517,PySem.W.mg_of KX G (by k_is),jW.abg ?l ?e ?pq (by decide) rfl⟩; (case l=>k_is); (case e=>exact ⟨rfl,rfl,rfl⟩); (case pq=>exact .cons ⟨rfl,⟨_,rfl⟩,⟨_,rfl⟩⟩ (.cons ⟨rfl,⟨_,rfl⟩,⟨_,rfl⟩⟩ (.cons ⟨rfl,⟨_,rfl⟩,⟨_,rfl⟩⟩ (.cons ⟨rfl,⟨_,rfl⟩,⟨_,rfl⟩⟩ (.cons ⟨rfl,⟨_,rfl⟩,⟨_,rfl⟩⟩ (.cons ⟨rfl,⟨_,rfl⟩,⟨_,rfl⟩⟩ (.cons ⟨rfl,⟨_,rfl⟩,⟨_,rfl⟩⟩ (.cons ⟨rfl,⟨_,rfl⟩,⟨_,rfl⟩⟩ (.cons ⟨rfl,⟨_,rfl⟩,⟨_,rfl⟩⟩ (.cons ⟨rfl,⟨_,rfl⟩,⟨_,rfl⟩⟩ (.cons ⟨rfl,⟨_,rfl⟩,⟨_,rfl⟩⟩ (.cons ⟨rfl,⟨_,rfl⟩,⟨_,rfl⟩⟩ (.nil)))))))))))))
  have t3 : jW.UT ?K mg:=by refine' ⟨309,310,311,312,313,PySem.W.mg_of KX G (by k_is),jW.abg ?l ?e ?pq (by decide) rfl,fun H=>⟨jW.acj ?l0 ?s0 ?v0 H,jW.acj ?l1 ?s1 ?v1 H,jW.acj ?l2 ?s2 ?v2 H,jW.acj ?l3 ?s3 ?v3 H⟩⟩; (case l=>k_is); (case e=>exact ⟨rfl,rfl,rfl⟩); (case pq=>exact .cons ⟨rfl,⟨_,rfl⟩,rfl⟩ (.cons ⟨rfl,⟨_,rfl⟩,rfl⟩ (.cons ⟨rfl,⟨_,rfl⟩,rfl⟩ (.cons ⟨rfl,⟨_,rfl⟩,rfl⟩ (.nil))))); (case l0 | l1 | l2 | l3=>k_is); (case s0 | s1 | s2 | s3=>decide); (case v0 | v1=>exact .nil); (case v2=>exact .cons ⟨_,rfl⟩ (.cons ⟨_,rfl⟩ .nil)); (case v3=>exact .cons ⟨_,rfl⟩ .nil)
  have t4 : jW.Sl ?K mg:=by refine' ⟨509,383,388,393,398,405,412,419,426,433,440,447,454,PySem.W.mg_of KX G (by k_is),jW.abg ?l ?e ?pq (by decide) rfl,PySem.W.mg_of KX G (by k_is),PySem.W.mg_of KX G (by k_is),PySem.W.mg_of KX G (by k_is),PySem.W.mg_of KX G (by k_is),PySem.W.mg_of KX G (by k_is),PySem.W.mg_of KX G (by k_is),PySem.W.mg_of KX G (by k_is),PySem.W.mg_of KX G (by k_is),PySem.W.mg_of KX G (by k_is),PySem.W.mg_of KX G (by k_is),PySem.W.mg_of KX G (by k_is),PySem.W.mg_of KX G (by k_is)⟩; (case l=>k_is); (case e=>exact ⟨rfl,rfl,rfl⟩); (case pq=>exact .cons ⟨rfl,⟨_,rfl⟩,rfl⟩ (.cons ⟨rfl,⟨_,rfl⟩,rfl⟩ (.cons ⟨rfl,⟨_,rfl⟩,rfl⟩ (.cons ⟨rfl,⟨_,rfl⟩,rfl⟩ (.cons ⟨rfl,⟨_,rfl⟩,rfl⟩ (.cons ⟨rfl,⟨_,rfl⟩,rfl⟩ (.cons ⟨rfl,⟨_,rfl⟩,rfl⟩ (.cons ⟨rfl,⟨_,rfl⟩,rfl⟩ (.cons ⟨rfl,⟨_,rfl⟩,rfl⟩ (.cons ⟨rfl,⟨_,rfl⟩,rfl⟩ (.cons ⟨rfl,⟨_,rfl⟩,rfl⟩ (.cons ⟨rfl,⟨_,rfl⟩,rfl⟩ (.nil)))))))))))))
  have D0:= -jW.SR ()
  have D1:= -jW.aap ()
  have D2:= -jW.YI () () ()
  have D3:= -jW.OF () () ()
  have D4:= -jW.Xx ()
  have D5:= -jW.YF ()
  have D6:= -jW.YH () ()
  have D7:= -jW.Xz ()
  have D8:= -jW.YJ ()
  have D9:= -jW.XE () () () ()
  have D10:= -jW.XF 122 () ()
  have M10:=jW.eC.made (x:="Act") D10 () () ()
  have D11:= -jW.XA 122 () ()
  have D12:= -jW.YC 122 () ()
  have D13:= -jW.acM 122 () ()
  have D14:= -jW.RV 122 () () () ()
  have D15:= -jW.RW () () () ()
  have D16:= -jW.VD 122 223 () () () ()
  have M16:=jW.eC.made (x:="Copy") D16 () () ()
  have D17:= -jW.YE 122 223 () () ()
  have D18:= -jW.Xy 122 223 () () () () ()
  have D19:= -jW.adK 122 223 () () () ()
  have D20:= -jW.VA 122 223 () () () ()
  have D21:= -jW.acF 122 223 () () () () () () () ()
  have D22:= -jW.SQ 122 223 () () () ()
  have D23:= -jW.Yz 122 223 () () () () () () () ()
  have D24:= -jW.abv 122 223 193 189 () () () () (hT (193,189) (by simp)).1 (hT (193,189) (by simp)).2.1 (hT (193,189) (by simp)).2.2
  have D25:= -jW.acL 122 223 189 () () () ()
  have D26:= -jW.abp 122 223 189 () () () () ()
  have D27:= -jW.abu 122 223 189 () () () () ()
  have D28:= -jW.acH () () ()
  have D29:= -jW.acP () () () ()
  have D30:= -jW.adI () () () ()
  have D31:= -jW.abr () () () () () ()
  have D32:= -jW.acO () () () () () ()
  have D33:= -jW.abw 122 223 () () () ()
  have D34:= -jW.adG () () ()
  have D35:= -jW.abt 122 223 189 () () () () () () ()
  have D36:= -jW.aao () ()
  have D37:= -jW.adJ () ()
  have D38:= -jW.XB Z0 () () ()
  have D39:= -jW.YG Z0 () ()
  have D40:= -jW.YL Z0 () ()
  have D41:= -jW.YD Z0 () () () () ()
  have D42:= -jW.aaq Z0 () () () ()
  have D43:= -jW.Yy Z0 () () () () ()
  have D44:= -jW.VE Z0 () () ()
  have M44:=jW.eC.made (x:="Book") D44 () () ()
  have D45:= -jW.acK Z0 () () () () () () () () () ()
  have D46:= -jW.abq Z0 () () () () () ()
  have D47:= -jW.VC Z0 375 () () () () () (hT (375,371) (by simp)).1 (hT (375,371) (by simp)).2.1 (hT (375,371) (by simp)).2.2 () ()
  have D48:= -jW.YB Z0 () () ()
  have D49:= -jW.RX Z0 () () () ()
  have D50:= -jW.aeu Z0 () () () () ()
  have D51:= -jW.aby Z0 () () () () () ()
  have D52:= -jW.abx Z0 () () () () () () () () ()
  have D53:= -jW.acG Z0 () () () () () () () ()
  have D54:= -jW.aal Z0 () () () () () ()
  have D55:= -jW.YA Z0 () () () () () ()
  have D56:= -jW.abz Z0 () () () () () () ()
  have D57:= -jW.UJ Z0 () () () () () () ()
  have D58:= -jW.Vz Z0 () () () () () () () () () ()
  have D59:= -jW.acE Z0 () () ()
  have D60:= -jW.acI Z0 () () ()
  have D61:= -jW.VB Z0 () () () () () () () () () () () ()
  have D62:= -jW.adH Z0 () () () () () () () () () () () () () ()
  have D63:= -jW.aam Z0 () () () () () () () () () () () ()
  have D64:= -jW.acJ Z0 () () () () () () () () () () () () () () ()
  have D65:= -jW.adF Z0 () () () () () () () () () () ()
  have D66:= -jW.VF Z0 () () () () () () () () () () () () () ()
  have D67:= -jW.adL () () ()
  have D68:= -jW.UL Z0 () () () () ()
  have D69:= -jW.YK Z0 () () () ()
  exact D69
 case S =>
  intro K H xs a hO hT hwi hask hx
  cases hx with
  | cons h1 h2 =>
   cases h2
   cases h1 with
   | bZ hs ha =>
    have e:=L2.Uz a.1 _ ha
    subst e
    exact ⟨_,a.1,rfl,jW.acR hO hT hs,hask,jW.ab7 (by simp),jW.ab7 (by simp),fun H' p hp=>.bZ (L2.eE.of hp) (L2.UH _)⟩
