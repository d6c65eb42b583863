import PyProof.Rows.All
import Wide.All
import OpenK.AllK
import Wide.FinOn
import Open.Tree
import OpenK.KWalk
import KE.OsHead
import PyProof.EqAt
import PyProof.EqKinds
import PyProof.TupleCall
import KE.BitLaws
import Open.SpecLaws
import KE.OsGo
import PyProof.ExcInit
import PyProof.InstStoreFacts
import PyProof.ExcBaseAll.Exception
import PyProof.ExcArgsOwn
import PyProof.RulesAs
import PyProof.StationsW
import PyProof.ExcAttrAll.Exception
import PyProof.Rows.MatchSeqLen
import KE.KLam
import KE.KSortTupG
import KE.KDictList
import PyProof.DictItems
import PyProof.DictValues
import KE.KPairComp
import KE.KDictSum
import PyProof.DictWalks
import PyProof.FitsBits
import PySem.Challenge.RW_wholeamounts_s07_kept
set_option Elab.async false
set_option linter.all false
set_option maxRecDepth 100000
abbrev aq:=@PySem.W.Frag
abbrev aW:=@List.length_map
abbrev bi:=@List.lookup_cons
abbrev bw:=@List.mem_cons
abbrev bO:=@Nat.le_refl
abbrev cz:=@PySem.Heap.lt_size
abbrev cZ:=@List.mem_cons_self
abbrev dk:=@List.mem_cons_of_mem
abbrev du:=@List.mem_singleton
abbrev dv:=@List.getElem?_eq_getElem
abbrev dz:=@List.mem_append
abbrev dE:=@PySem.Heap.get?_push_of_some
abbrev dJ:=@PySem.W.mg_of
abbrev dQ:=@List.getElem?_map
abbrev eg:=@List.getElem?_eq_some_iff
abbrev ej:=@List.map_cons
abbrev eG:=@Nat.ne_of_lt
abbrev fi:=@Bool.false_ne_true
abbrev fj:=@PySem.Heap.get?_push_size
abbrev fk:=@Nat.zero_le
abbrev fO:=@List.map_append
abbrev fZ:=@List.size_toArray
abbrev gC:=@List.length_cons
abbrev gD:=@List.length_append
abbrev gL:=@List.mem_of_getElem?
abbrev il:=@Nat.lt_irrefl
abbrev ik:=@List.not_mem_nil
abbrev iD:=@Nat.lt_of_lt_of_le
abbrev iE:=@Nat.le_trans
abbrev i3:=@Bool.and_eq_true
abbrev i4:=@List.mem_map
abbrev jM:=@List.map_map
abbrev jN:=@List.getD_eq_getElem?_getD
abbrev jY:=@List.mem_append_left
abbrev jZ:=@List.append_nil
abbrev j0:=@PySem.Heap.get?_update_other
abbrev ko:=@Nat.ne_of_gt
abbrev kq:=@List.mem_append_right
abbrev kr:=@PySem.Heap.size_push
abbrev lA:=@List.nodup_cons
abbrev lB:=@List.length_nil
abbrev lE:=@Int.toNat_of_nonneg
abbrev lX:=@List.length_take
abbrev lY:=@PySem.Heap.get?_update_self
abbrev lZ:=@PySem.W.ns_none_of
abbrev mJ:=@List.getElem?_append_left
abbrev mK:=@List.take_succ
abbrev qv:=@Nat.lt_trans
abbrev qw:=@Array.getElem?_eq_some_iff
abbrev qx:=@List.take_length
abbrev qY:=@List.find?_cons
abbrev qZ:=@List.map_congr_left
abbrev rg:=@List.nodup_append
abbrev rh:=@List.length_range
abbrev uI:=@List.getElem?_append_right
abbrev uJ:=@List.nodup_nil
abbrev uK:=@List.all_eq_true
abbrev uL:=@Nat.sub_self
abbrev vT:=@Nat.le_of_lt
abbrev vU:=@Nat.le_of_eq
abbrev vV:=@PySem.W.callWith_K
abbrev zc:=@Bool.and_eq_true_iff
abbrev zd:=@List.filterMap_cons
abbrev ze:=@Nat.lt_succ_of_lt
abbrev zf:=@Option.map_some
abbrev zg:=@Nat.le_add_right
abbrev zh:=@List.filter_cons_of_pos
abbrev zi:=@List.filter_cons_of_neg
abbrev zj:=@Nat.sub_zero
abbrev zk:=@List.getElem?_eq_none_iff
abbrev AK:=@List.foldl_cons
abbrev AL:=@Array.length_toList
abbrev AM:=@List.mem_range
abbrev AN:=@PySem.Heap.get?_none_of_le
abbrev AO:=@List.getElem?_set_self
abbrev AQ:=@Int.toNat_natCast
abbrev AR:=@List.length_drop
abbrev AS:=@List.any_cons
abbrev AC:=@Bool.false_eq_true
abbrev AD:=@Option.isSome_map
abbrev AE:=@Array.getElem?_eq_getElem
abbrev AF:=@List.nil_append
abbrev AG:=@List.pairwise_cons
abbrev AH:=@PySem.F.plainAttrs_list
abbrev AI:=@List.getElem_mem
abbrev AJ:=@List.getElem_range
abbrev EW:=@Option.map_eq_some_iff
abbrev EY:=@List.getElem?_set_ne
abbrev EZ:=@Bool.eq_iff_iff
abbrev E2:=@Nat.lt_succ_self
abbrev E3:=@List.of_mem_zip
abbrev E4:=@List.length_singleton
abbrev E5:=@Nat.le_of_succ_le
abbrev E6:=@List.cons_append
abbrev E7:=@List.contains_cons
abbrev E8:=@List.eq_nil_of_length_eq_zero
abbrev E9:=@List.zip_cons_cons
abbrev Fa:=@PySem.F.slot_list_append
abbrev Fb:=@PySem.F.type_list_append
abbrev Fc:=@Option.getD_some
abbrev G5:=@PySem.W.plainGet_of
abbrev G6:=@PySem.W.looks_findIn
abbrev G7:=@PySem.W.methodCall_KW
abbrev G8:=@List.length_replicate
abbrev G9:=@Array.getElem?_toList
abbrev Ha:=@List.getElem?_eq_none
abbrev Hb:=@Array.getElem?_eq_none
abbrev Hc:=@PySem.F.store_Exception
abbrev Hd:=@List.drop_eq_getElem_cons
abbrev He:=@Int.mul_le_mul_of_nonneg_left
abbrev Hf:=@List.mem_map_of_mem
abbrev aa:=@PySem.wpAny_bind
abbrev ac:=@if_neg
abbrev ae:=@if_pos
abbrev af:=@PySem.wpAny_pure
abbrev ag:=@decide_eq_true_iff
abbrev ai:=@decide_eq_true
abbrev ak:=@PySem.sizeLine_eq
abbrev ap:=@of_decide_eq_true
abbrev au:=@congrArg
abbrev aw:=@decide_eq_false
abbrev ax:=@PySem.wpAny_mono
abbrev aA:=@PySem.wpAny_newObj_type
abbrev aJ:=@beq_iff_eq
abbrev aN:=@PySem.wpAny_field
abbrev aP:=@beq_eq_false_iff_ne
abbrev aT:=@PySem.wpAny_Call_Name_kw
abbrev aY:=@PySem.wpAny_loadName_local
abbrev a9:=@PySem.wpAny_loadPart_at
abbrev bj:=@PySem.tupleKind_room_in1
abbrev bp:=@PySem.wpAny_standAt
abbrev bv:=@if_false
abbrev bx:=@PySem.wpAny_holding
abbrev bD:=@not_false_eq_true
abbrev bK:=@PySem.wpAny_setField
abbrev b9:=@not_or
abbrev cp:=@PySem.wpAny_Name
abbrev cr:=@PySem.plainObj_wpAny_Assign_Attribute
abbrev cu:=@if_true
abbrev cG:=@PySem.wpAny_call_entry
abbrev cJ:=@PySem.wpAny_execs_cons
abbrev cK:=@PySem.wpAny_typeNameOfWhole_itemiter
abbrev cQ:=@not_true_eq_false
abbrev cR:=@PySem.wpAny_typeNameOfWhole_keyiter
abbrev cU:=@PySem.wpAny_passesOwn
abbrev df:=@PySem.wpAny_dictEntries
abbrev di:=@PySem.wpAny_truthy_bool
abbrev dA:=@PySem.codeAny_mono
abbrev dD:=@PySem.wpAny_typeNameOf_itemiter
abbrev dP:=@PySem.wpAny_typeNameOf_keyiter
abbrev dU:=@PySem.wpAny_dictEpoch
abbrev dW:=@PySem.wpAny_execs_nil
abbrev d6:=@PySem.wpAny_setField_rec
abbrev d7:=@PySem.wpAny_callSpecial?_slot
abbrev eI:=@PySem.builtinLookup_eq_fast
abbrev eJ:=@PySem.codeAny_handlers_test
abbrev fz:=@PySem.pushCells_keeps
abbrev fX:=@PySem.wpAny_handleBy_cons
abbrev fY:=@PySem.wpAny_isSubtype_exc
abbrev gU:=@bne_iff_ne
abbrev iz:=@PySem.wpAny_attempt
abbrev i6:=@and_true
abbrev jJ:=@PySem.wpAny_call
abbrev jK:=@PySem.wpAny_isOneOf_itemiter
abbrev jT:=@PySem.typeLookup_type
abbrev jU:=@PySem.wpAny_loadPart'
abbrev lV:=@PySem.wpAny_fieldsOf
abbrev lW:=@PySem.wpAny_throw
abbrev rK:=@and_congr_right
abbrev yV:=@PySem.wpAny_Call_method
abbrev yW:=@PySem.wpAny_assign_Name
abbrev EL:=@PySem.wpAny_Dict_empty
abbrev F6:=@ne_eq
set_option compiler.extract_closed false
noncomputable section
theorem aR(h:True:=by rfl):True:=h
theorem aI(h:True:=by intro _;rfl):True:=h
theorem aF(h:True:=by first |exact .inl rfl |exact .inr rfl |assumption):True:=h
theorem aV(h:True:=by first |exact Or.inl rfl |exact Or.inr (Or.inl rfl) |exact Or.inr (Or.inr rfl)):True:=h
theorem aD(h:True:=by decide):True:=h
section
namespace HT
open PySem PySem.W
noncomputable def tS(tb:String->Option Builtin)(p:Program)(w:World)(n₀:Nat)(zG:Option Value):Nat->SharedT->Thread->Option SharedT
 |0,_,_=>none
 |n+1,s,t=>match through t with
  |true=>some s
  |false=>match stepOk n₀ zG t with
   |false=>none
   |true=>match stepT (denote tb) p w s t with
    |some (s',t')=>tS tb p w n₀ zG n s' t'
    |none=>none
theorem O4{tb:String->Option Builtin}{p:Program}{w:World}{n₀:Nat}{zG:Option Value}:∀ {n:Nat}{s s':SharedT}{t:Thread},tS tb p w n₀ zG n s t=some s'->topRun tb p w n₀ zG n s.abs t=some s'.abs
 |0,_,_,_,h=>by cases h
 |n+1,s,s',t,h=>by
  unfold tS at h;unfold topRun;cases ht:through t with
  |true=>rw [ht]at h;cases h;rfl
  |false =>
   rw [ht]at h;cases hk:stepOk n₀ zG t with
   |false=>rw [hk]at h;cases h
   |true =>
    rw [hk]at h;cases hs:stepT (denote tb) p w s t with
    |none=>rw [hs]at h;cases h
    |some r=>obtain⟨s₂,t₂⟩:=r;rw [hs]at h;rw [stepT_spec hs];exact O4 h
def v9:List Obj->Nat->BT->BT
 |[],_,t=>t
 |o::l,n,t=>v9 l (n+1) (t.ins n o)
def iM:List Obj->Nat->BT->Bool
 |[],_,_=>true
 |o::l,n,t=>((t.ins n o).get n).isSome&&iM l (n+1) (t.ins n o)
theorem NZ{life:Life}:∀ (l:List Obj)(n:Nat)(t:BT),iM l n t=true->absHeap (v9 l n t) (n+l.length) life=l.foldl Heap.push (absHeap t n life)
 |[],n,t,_=>rfl
 |o::l,n,t,h=>by
  unfold iM at h;obtain⟨h1,h2⟩:=zc.mp h;have e:=NZ (life:=life) l (n+1) (t.ins n o) h2;rw [absHeap_ins h1]at e;show absHeap (v9 l (n+1) (t.ins n o)) (n+(l.length+1)) life=_;rw [show n+(l.length+1)=n+1+l.length by omega,e]
  rfl
theorem OZ{life:Life}:∀ (l:List Obj)(a:Array Obj),l.foldl Heap.push ⟨a,life⟩=⟨a++l.toArray,life⟩
 |[],a=>by simp
 |o::l,a=>by
  rw [AK];show l.foldl Heap.push ⟨a.push o,life⟩=_;rw [OZ l (a.push o)];simp
def RK(s:Shared):SharedT:=⟨v9 s.heap.objs.toList 0 .nil,s.heap.objs.size,s.heap.life,s.gens,s.drawn,s.toks,s.os⟩
theorem ut{s:Shared}(h:iM s.heap.objs.toList 0 .nil=true):(RK s).abs=s:=by
 have e:=NZ (life:=s.heap.life) s.heap.objs.toList 0 .nil h;rw [Nat.zero_add,AL]at e;have e2:absHeap .nil 0 s.heap.life=⟨#[],s.heap.life⟩:=rfl;rw [e2,OZ]at e;obtain⟨⟨objs,life⟩,g,d,t,o⟩:=s;have e3:absHeap (v9 objs.toList 0 .nil) objs.size life=⟨objs,life⟩:=by
  have e':absHeap (v9 objs.toList 0 .nil) objs.size life=⟨#[]++objs.toList.toArray,life⟩:=e;rw [e'];simp
 show(⟨absHeap (v9 objs.toList 0 .nil) objs.size life,g,d,t,o⟩:Shared)=_;rw [e3]
noncomputable def endsT(p:Program)(w:World)(N:Nat):Option (Shared×SharedT):=(fencedOpening treeTable p w N).bind fun s₀ =>
 match (s₀.heap.isNs mainGlobals&&s₀.gens.size==0)&&iM s₀.heap.objs.toList 0 .nil with
 |true=>(tS treeTable p w s₀.heap.objs.size (s₀.heap.nsMap mainGlobals "__annotations__") N (RK s₀) (topStub p)).map fun s=>(s₀,s)
 |false=>none
def getT(s:SharedT)(a:Addr):Option Obj:=match Nat.blt a s.n with
 |true=>match s.tree.get a with
  |some o=>alive o
  |none=>none
 |false=>none
theorem nZ{s:SharedT}{a:Addr}{o:Obj}(h:getT s a=some o):s.abs.heap.get? a=some o:=by
 unfold getT at h;cases hb:Nat.blt a s.n with
 |false=>rw [hb]at h;cases h
 |true =>
  rw [hb]at h;have lt:a<s.n:=Nat.ble_eq.mp hb;cases hg:s.tree.get a with
  |none=>rw [hg]at h;cases h
  |some x =>
   rw [hg]at h;exact(abs_get lt hg).trans h
def chkT(p:Program)(x:Shared×SharedT):Bool:=staticsOk (importedModules p.main.body) x.1.heap x.2.abs.heap&&namesBound p x.2.abs.heap&&gensDone x.2.abs&&laidKept x.1.heap x.2.abs.heap
def seen1(q:Program)(loose eP:List Str)(Xt:Shared->Bool)(s:Shared):=match openSeen q loose eP Xt true s with |(a,_)=>a
def seen2(q:Program)(loose eP:List Str)(Xt:Shared->Bool)(s:Shared):=match openSeen q loose eP Xt true s with |(_,a,_,c,_)=>(a,c)
def seen5(q:Program)(loose eP:List Str)(Xt:Shared->Bool)(s:Shared):=match openSeen q loose eP Xt true s with |(_,_,b,_)=>b
def seen3(q:Program)(loose eP:List Str)(Xt:Shared->Bool)(s:Shared):=match openSeen q loose eP Xt true s with |(_,_,_,_,a,b,_)=>(a,b)
def seen4(q:Program)(loose eP:List Str)(Xt:Shared->Bool)(s:Shared):=match openSeen q loose eP Xt true s with |(_,_,_,_,_,_,c)=>c
theorem pU{q:Program}{loose eP:List Str}{Xt:Shared->Bool}{s:Shared}(h1:seen1 q loose eP Xt s=(openGood q loose).1)(h2:seen2 q loose eP Xt s=((openGood q loose).2.1,true))(h5:seen5 q loose eP Xt s=true)(h3:seen3 q loose eP Xt s=((openGood q loose).2.2.2.2.1,(openGood q loose).2.2.2.2.2.1))
  (h4:seen4 q loose eP Xt s=(openGood q loose).2.2.2.2.2.2):openSeen q loose eP Xt true s=openGood q loose:=by
 have a:=au Prod.fst h2;have c:=au Prod.snd h2;have d:=au Prod.fst h3;have e:=au Prod.snd h3;exact Prod.ext h1 (Prod.ext a (Prod.ext h5 (Prod.ext c (Prod.ext d (Prod.ext e h4)))))
theorem Pw{s:SharedT}:∀ {as:List Addr}{K:Frag},as.map (getT s)=K.map (fun p=>some p.2)->as.map s.abs.heap.get?=K.map (fun p=>some p.2)
 |[],[],_=>rfl
 |[],_::_,h=>by cases h
 |_::_,[],h=>by cases h
 |a::as,k::K,h=>by
  rw [ej,ej]at h;injection h with h1 h2
  rw [ej,ej,nZ h1,Pw h2]
theorem left_of{p q:Program}{loose:List Str}{Xt:Shared->Bool}{as:List Addr}{K:Params->Frag}{e:∀ P,as=(K P).map (·.1)}{N:Nat}
  (hA:∀ w:World,(endsT p w N).map (fun x=>(chkT p x,as.map (getT x.2)))=some (true,(K w.params).map fun p=>some p.2))(hB:∀ w:World,(endsT p w N).map (fun x=>seen1 q loose (importedModules p.main.body) Xt x.2.abs)=some (openGood q loose).1)(hD:∀ w:World,(endsT p w N).map (fun x=>seen2 q loose (importedModules p.main.body) Xt x.2.abs)=some ((openGood q loose).2.1,true))(hG:∀ w:World,(endsT p w N).map (fun x=>seen5 q loose (importedModules p.main.body) Xt x.2.abs)=some true)
  (hE:∀ w:World,(endsT p w N).map (fun x=>seen3 q loose (importedModules p.main.body) Xt x.2.abs)=some ((openGood q loose).2.2.2.2.1,(openGood q loose).2.2.2.2.2.1))(hF:∀ w:World,(endsT p w N).map (fun x=>seen4 q loose (importedModules p.main.body) Xt x.2.abs)=some (openGood q loose).2.2.2.2.2.2):LeftO p q loose Xt (kHook K as e).obs (kHook K as e).val N:=fun w=>by
 obtain⟨⟨s₀,sT⟩,h1,g0⟩:=EW.mp (hA w);have g2:=hB w;have g4:=hD w;have g5:=hE w;have g6:=hF w;have g7:=hG w;rw [h1]at g2 g4 g5 g6 g7;have g1:(staticsOk (importedModules p.main.body) s₀.heap sT.abs.heap&&namesBound p sT.abs.heap&&gensDone sT.abs&&laidKept s₀.heap sT.abs.heap)=true:=au Prod.fst g0;have g2:=pU (Option.some.inj g2) (Option.some.inj g4) (Option.some.inj g7) (Option.some.inj g5) (Option.some.inj g6);have g3:=au Prod.snd g0;unfold endsT at h1;obtain⟨s₁,h3,h4⟩:=Option.bind_eq_some_iff.mp h1;cases hc:(s₁.heap.isNs mainGlobals&&s₁.gens.size==0)&&iM s₁.heap.objs.toList 0 .nil with
 |false=>rw [hc]at h4;cases h4
 |true =>
  rw [hc]at h4;obtain⟨c1,c2⟩:=zc.mp hc;obtain⟨s₂,h5,h6⟩:=EW.mp h4;cases h6;have r:=O4 h5;rw [ut c2]at r;unfold openEnds;rw [h3];show(topFrom treeTable p w N s₀).map _=_;unfold topFrom;rw [c1,r];show((match staticsOk (importedModules p.main.body) s₀.heap sT.abs.heap&&namesBound p sT.abs.heap&&gensDone sT.abs&&laidKept s₀.heap sT.abs.heap with |true=>some sT.abs |false=>none):Option Shared).map _=_
  rw [g1];exact au some (Prod.ext g2 (Pw g3))
end HT
end
section
namespace BK
open PySem PySem.Spec PyProof.Rows
def tp(i:Nat):Stmt:=PySem.Challenge.pw_wholeamounts_s07_kept.main.body.getD i (.Pass ⟨0,0,0,0⟩)
def tc(i j:Nat):Stmt:=match tp i with
 |.ClassDef _ _ _ b _ _ _ _ _ _ _=>b.getD j (.Pass ⟨0,0,0,0⟩)
 |s=>s
noncomputable def fo(n q:Str)(st:Stmt)(dV kV dc pm:Value)(an:Option Addr)(cd ct:Value):Data:=match st with
 |.FunctionDef _ a b _ _ _ sc _ _ _=>.func (PySem.W.fnOf n q a b sc dV kV dc pm an cd ct)
 |_=>.plain
noncomputable def qV:Program:={ PySem.Challenge.pw_wholeamounts_s07_kept with main:={ PySem.Challenge.pw_wholeamounts_s07_kept.main with body:=[tp 1,tp 2,tp 3,tp 4,tp 6,tp 8,tp 9,tp 10,tp 12,tp 13,tp 14,tp 15,tp 16,tp 18,tp 19,tp 20,tp 21,tp 22,tp 23,tp 24,tp 25,tp 26,tp 27,tp 29,tp 30,tp 31,tp 32,tp 33,tp 34,tp 35,tp 36,tp 38,tp 39,tp 40,tp 41,tp 42,tp 43,tp 44,tp 45,tp 46,tp 47,tp 48,tp 49,tp 50,tp 51,tp 52,tp 53,tp 54,tp 55,tp 56,tp 57,tp 58,tp 59,tp 60,tp 61,tp 62,tp 64,tp 65,tp 66,tp 67,tp 68,tp 69,tp 70,tp 72,tp 73,tp 74,tp 75,tp 76,tp 77,tp 78,tp 79] } }
end BK
namespace HD
open PySem BK
noncomputable def d(P:Params)(k:Str)(t:Tok)(v:Value):DictEntry:=⟨PyData.keyHash P k,.str k t,v⟩
abbrev i(z:Int):Value:=.int z 0
abbrev r:Addr->Value:=.ref
abbrev s:Str->Tok->Value:=.str
abbrev u:Tok->Value:=.str "/claim/cut.py"
abbrev n:Value:=.none
abbrev t(a:Addr)(l:Array Value):Addr×Obj:=(a,⟨.type "tuple",none,.seq l 0,#[]⟩)
abbrev c(a:Addr)(l:Array Value):Addr×Obj:=(a,⟨.type "code",none,.fields l,#[]⟩)
noncomputable abbrev f(a:Addr)(x q:Str)(st:Stmt)(v:Value)(m:Str)(k:Tok)(c:Addr):Addr×Obj:=(a,⟨.type "function",none,fo x q st v .none .none (.str m k) none (.ref c) .none,#[]⟩)
noncomputable def KF(P:Params):aq:=[
(3,⟨(.type "dict"),none,(.dict #[d P "__name__" 165 (s "wholeamounts.desk" 934),d P "__doc__" 166 n,d P "__package__" 167 n,d P "__loader__" 168 (.builtin "__main__.__loader__#opaque"),d P "__spec__" 169 n,d P "__annotations__" 170 (r 6),d P "__builtins__" 171 (r 4),d P "__file__" 173 (u 172),d P "__cached__" 174 n,d P "Fault" 222 (r 32),d P "WrongNumbers" 242 (r 45),d P "NotThere" 262 (r 58),d P "TooGreat" 282 (r 71),d P "product" 290 (r 79),d P "HYDROGEN" 295 (r 80),d P "count_units" 304 (r 87),d P "add_units" 313 (r 94),d P "signed_molecules" 321 (r 99),d P "unit_rows" 327 (r 104),d P "charge_row" 333 (r 109),d P "refuse_numbers" 341 (r 116),d P "kept_row" 351 (r 123),d P "WRONG_MARK" 355 (.int 1 354),d P "OUT_OF_BOUNDS" 357 (.int 2 356),d P "NOT_BEHIND" 359 (.int 3 358),d P "WRONG_HAND" 361 (.int 4 360),d P "ENDS_EARLY" 363 (.int 5 362),d P "WRONG_SIDE" 365 (.int 6 364),d P "LEFT_OVER" 367 (.int 7 366),d P "MOST_ELEMENT" 369 (.int 118 368),d P "MOST_ISOTOPE" 371 (.int 500 370),d P "Reader" 440 (r 168),d P "UP" 444 (.int 1 443),d P "DOWN" 447 (.int (-1) 446),d P "MIDDLE" 450 (.int (-1) 449),d P "Way" 483 (r 189),d P "Search" 616 (r 280),d P "ways_at" 622 (r 289),d P "is_fixed_double" 631 (r 296),d P "can_go" 642 (r 303),d P "MARK_molecules" 649 (r 304),d P "MOST_ATOMS" 651 (.int 128 650),d P "MOST_BONDS" 653 (.int 192 652),d P "MOST_CHARGE" 655 (.int 4 654),d P "MOST_HYDROGENS" 657 (.int 7 656),d P "MOST_HAND" 659 (.int 2 658),d P "MOST_ORDER" 661 (.int 3 660),d P "MOST_SIDE" 663 (.int 2 662),d P "HEAD_SIZE" 665 (.int 6 664),d P "ATOM_SIZE" 667 (.int 6 666),d P "BOND_SIZE" 669 (.int 4 668),d P "BEFORE_ALL" 672 (r 305),d P "Atom" 709 (r 322),d P "Bond" 744 (r 343),d P "Molecule" 775 (r 364),d P "read_molecule" 784 (r 375),d P "read_parts" 790 (r 380),d P "read_atom" 802 (r 387),d P "read_bond" 816 (r 394),d P "neighbour_counts" 822 (r 399),d P "refuse_wrong_hands" 832 (r 406),d P "may_have_hand" 840 (r 413),d P "refuse_wrong_sides" 852 (r 420),d P "may_have_side" 864 (r 427),d P "may_end_a_side" 872 (r 434),d P "MARK_equations" 879 (r 435),d P "MOST_ON_A_SIDE" 881 (.int 8 880),d P "MOST_SIZE" 883 (.int 65535 882),d P "WITHIN_MOLECULE" 885 (.int 16 884),d P "Equation" 916 (r 452),d P "read_equation" 922 (r 461),d P "read_member" 933 (r 468),d P "ANSWERED" 937 (.int 0 936),d P "WRONG_NUMBERS" 940 (.int (-1) 939),d P "NOT_THERE" 943 (.int (-2) 942),d P "FAULTY_FORM" 946 (.int (-5) 945),d P "TOO_GREAT" 949 (.int (-6) 948),d P "kept" 959 (r 475),d P "tell_kept" 968 (r 482),d P "answer" 976 (r 489)] 80),#[]⟩),
t 22 #[(.int 0 201)],
c 28 #[(s "__init__" 202),(s "Fault.__init__" 203),(u 204),(i 4),(i 4),(i 0),(i 0),(i 3),(r 23),(.bool true),(i 181),(r 24),n,(r 25),(r 26),(r 27),(i 209),(i 4),(u 210)],
f 29 "__init__" "Fault.__init__" (tc 1 0) (r 22) "wholeamounts.refusals" 187 28,
(31,⟨(.type "dict"),none,(.dict #[d P "__module__" 196 (s "wholeamounts.refusals" 187),d P "__firstlineno__" 200 (.int 2 199),d P "__init__" 211 (r 29),d P "__static_attributes__" 215 (r 30),d P "__weakref__" 217 (r 33),d P "__doc__" 218 n] 3),#[]⟩),
(32,⟨(.type "type"),none,(.cls ⟨"Fault",[(.type "Exception")],[(r 32),(.type "Exception"),(.type "BaseException"),(.type "object")],31,"Fault",true,[],[],false,none,false⟩),#[(some (r 15)),none,(some (s "Fault" 189)),(some (s "Fault" 197)),(some (.builtin "Exception.__new__")),(some (.bool true))]⟩),
(44,⟨(.type "dict"),none,(.dict #[d P "__module__" 230 (s "wholeamounts.refusals" 187),d P "__firstlineno__" 234 (.int 8 233),d P "__static_attributes__" 235 (r 43),d P "__weakref__" 237 (r 46),d P "__doc__" 238 n] 3),#[]⟩),
(45,⟨(.type "type"),none,(.cls ⟨"WrongNumbers",[(.type "Exception")],[(r 45),(.type "Exception"),(.type "BaseException"),(.type "object")],44,"WrongNumbers",true,[],[],false,none,false⟩),#[(some (r 36)),none,(some (s "WrongNumbers" 223)),(some (s "WrongNumbers" 231)),(some (.builtin "Exception.__new__")),(some (.bool true))]⟩),
(57,⟨(.type "dict"),none,(.dict #[d P "__module__" 250 (s "wholeamounts.refusals" 187),d P "__firstlineno__" 254 (.int 10 253),d P "__static_attributes__" 255 (r 56),d P "__weakref__" 257 (r 59),d P "__doc__" 258 n] 3),#[]⟩),
(58,⟨(.type "type"),none,(.cls ⟨"NotThere",[(.type "Exception")],[(r 58),(.type "Exception"),(.type "BaseException"),(.type "object")],57,"NotThere",true,[],[],false,none,false⟩),#[(some (r 49)),none,(some (s "NotThere" 243)),(some (s "NotThere" 251)),(some (.builtin "Exception.__new__")),(some (.bool true))]⟩),
(70,⟨(.type "dict"),none,(.dict #[d P "__module__" 270 (s "wholeamounts.refusals" 187),d P "__firstlineno__" 274 (.int 12 273),d P "__static_attributes__" 275 (r 69),d P "__weakref__" 277 (r 72),d P "__doc__" 278 n] 3),#[]⟩),
(71,⟨(.type "type"),none,(.cls ⟨"TooGreat",[(.type "Exception")],[(r 71),(.type "Exception"),(.type "BaseException"),(.type "object")],70,"TooGreat",true,[],[],false,none,false⟩),#[(some (r 62)),none,(some (s "TooGreat" 263)),(some (s "TooGreat" 271)),(some (.builtin "Exception.__new__")),(some (.bool true))]⟩),
c 78 #[(s "product" 285),(s "product" 286),(u 287),(i 15),(i 2),(i 0),(i 0),(i 3),(r 75),(.bool true),(i 181),(r 76),n,n,n,(r 77),(i 288),(i 15),(u 289)],
f 79 "product" "product" (tp 6) n "wholeamounts.rows" 283 78,
t 80 #[(.int 1 293),(.int 0 294)],
c 86 #[(s "count_units" 296),(s "count_units" 297),(u 298),(i 19),(i 1),(i 0),(i 0),(i 3),(r 81),(.bool true),(i 181),(r 82),n,(r 83),(r 84),(r 85),(i 302),(i 19),(u 303)],
f 87 "count_units" "count_units" (tp 9) n "wholeamounts.formulas" 291 86,
c 93 #[(s "add_units" 305),(s "add_units" 306),(u 307),(i 25),(i 3),(i 0),(i 0),(i 3),(r 88),(.bool true),(i 181),(r 89),n,(r 90),(r 91),(r 92),(i 311),(i 25),(u 312)],
f 94 "add_units" "add_units" (tp 10) n "wholeamounts.formulas" 291 93,
c 98 #[(s "signed_molecules" 316),(s "signed_molecules" 317),(u 318),(i 29),(i 1),(i 0),(i 0),(i 3),(r 95),(.bool true),(i 181),(r 96),n,n,n,(r 97),(i 319),(i 29),(u 320)],
f 99 "signed_molecules" "signed_molecules" (tp 12) n "wholeamounts.balance" 314 98,
c 103 #[(s "unit_rows" 322),(s "unit_rows" 323),(u 324),(i 31),(i 1),(i 0),(i 0),(i 3),(r 100),(.bool true),(i 181),(r 101),n,n,n,(r 102),(i 325),(i 31),(u 326)],
f 104 "unit_rows" "unit_rows" (tp 13) n "wholeamounts.balance" 314 103,
c 108 #[(s "charge_row" 328),(s "charge_row" 329),(u 330),(i 40),(i 1),(i 0),(i 0),(i 3),(r 105),(.bool true),(i 181),(r 106),n,n,n,(r 107),(i 331),(i 40),(u 332)],
f 109 "charge_row" "charge_row" (tp 14) n "wholeamounts.balance" 314 108,
c 115 #[(s "refuse_numbers" 334),(s "refuse_numbers" 335),(u 336),(i 42),(i 2),(i 0),(i 0),(i 3),(r 110),(.bool true),(i 181),(r 111),n,(r 112),(r 113),(r 114),(i 339),(i 42),(u 340)],
f 116 "refuse_numbers" "refuse_numbers" (tp 15) n "wholeamounts.balance" 314 115,
c 122 #[(s "kept_row" 342),(s "kept_row" 343),(u 344),(i 45),(i 2),(i 0),(i 0),(i 3),(r 117),(.bool true),(i 181),(r 118),n,(r 119),(r 120),(r 121),(i 349),(i 45),(u 350)],
f 123 "kept_row" "kept_row" (tp 16) n "wholeamounts.balance" 314 122,
c 136 #[(s "__init__" 384),(s "Reader.__init__" 385),(u 386),(i 65),(i 2),(i 0),(i 0),(i 3),(r 131),(.bool true),(i 181),(r 132),n,(r 133),(r 134),(r 135),(i 389),(i 65),(u 390)],
f 137 "__init__" "Reader.__init__" (tc 27 0) n "wholeamounts.reading" 352 136,
c 143 #[(s "expect_mark" 392),(s "Reader.expect_mark" 393),(u 394),(i 69),(i 2),(i 0),(i 0),(i 3),(r 138),(.bool true),(i 181),(r 139),n,(r 140),(r 141),(r 142),(i 398),(i 69),(u 399)],
f 144 "expect_mark" "Reader.expect_mark" (tc 27 1) n "wholeamounts.reading" 352 143,
c 150 #[(s "take" 401),(s "Reader.take" 402),(u 403),(i 77),(i 2),(i 0),(i 0),(i 3),(r 145),(.bool true),(i 181),(r 146),n,(r 147),(r 148),(r 149),(i 408),(i 77),(u 409)],
f 151 "take" "Reader.take" (tc 27 2) n "wholeamounts.reading" 352 150,
c 157 #[(s "number" 411),(s "Reader.number" 412),(u 413),(i 85),(i 4),(i 0),(i 0),(i 3),(r 152),(.bool true),(i 181),(r 153),n,(r 154),(r 155),(r 156),(i 421),(i 85),(u 422)],
f 158 "number" "Reader.number" (tc 27 3) n "wholeamounts.reading" 352 157,
c 164 #[(s "finish" 424),(s "Reader.finish" 425),(u 426),(i 94),(i 1),(i 0),(i 0),(i 3),(r 159),(.bool true),(i 181),(r 160),n,(r 161),(r 162),(r 163),(i 428),(i 94),(u 429)],
f 165 "finish" "Reader.finish" (tc 27 4) n "wholeamounts.reading" 352 164,
(167,⟨(.type "dict"),none,(.dict #[d P "__module__" 379 (s "wholeamounts.reading" 352),d P "__firstlineno__" 383 (.int 63 382),d P "__init__" 391 (r 137),d P "expect_mark" 400 (r 144),d P "take" 410 (r 151),d P "number" 423 (r 158),d P "finish" 430 (r 165),d P "__static_attributes__" 433 (r 166),d P "__dict__" 435 (r 169),d P "__weakref__" 437 (r 170),d P "__doc__" 438 n] 4),#[]⟩),
(168,⟨(.type "type"),none,(.cls ⟨"Reader",[(.type "object")],[(r 168),(.type "object")],167,"Reader",true,[],[],false,none,false⟩),#[none,none,(some (s "Reader" 372)),(some (s "Reader" 380)),(some (.builtin "object.__new__")),(some (.bool true))]⟩),
c 185 #[(s "__init__" 463),(s "Way.__init__" 464),(u 465),(i 103),(i 4),(i 0),(i 0),(i 3),(r 180),(.bool true),(i 181),(r 181),n,(r 182),(r 183),(r 184),(i 470),(i 103),(u 471)],
f 186 "__init__" "Way.__init__" (tc 32 0) n "wholeamounts.redrawing" 441 185,
(188,⟨(.type "dict"),none,(.dict #[d P "__module__" 458 (s "wholeamounts.redrawing" 441),d P "__firstlineno__" 462 (.int 101 461),d P "__init__" 472 (r 186),d P "__static_attributes__" 476 (r 187),d P "__dict__" 478 (r 190),d P "__weakref__" 480 (r 191),d P "__doc__" 481 n] 4),#[]⟩),
(189,⟨(.type "type"),none,(.cls ⟨"Way",[(.type "object")],[(r 189),(.type "object")],188,"Way",true,[],[],false,none,false⟩),#[none,none,(some (s "Way" 451)),(some (s "Way" 459)),(some (.builtin "object.__new__")),(some (.bool true))]⟩),
c 206 #[(s "__init__" 496),(s "Search.__init__" 497),(u 498),(i 109),(i 3),(i 0),(i 0),(i 3),(r 201),(.bool true),(i 181),(r 202),n,(r 203),(r 204),(r 205),(i 502),(i 109),(u 503)],
f 207 "__init__" "Search.__init__" (tc 33 0) n "wholeamounts.redrawing" 441 206,
c 213 #[(s "reach" 505),(s "Search.reach" 506),(u 507),(i 118),(i 5),(i 0),(i 0),(i 3),(r 208),(.bool true),(i 181),(r 209),n,(r 210),(r 211),(r 212),(i 513),(i 118),(u 514)],
f 214 "reach" "Search.reach" (tc 33 1) n "wholeamounts.redrawing" 441 213,
c 220 #[(s "allow" 516),(s "Search.allow" 517),(u 518),(i 124),(i 3),(i 0),(i 0),(i 3),(r 215),(.bool true),(i 181),(r 216),n,(r 217),(r 218),(r 219),(i 522),(i 124),(u 523)],
f 221 "allow" "Search.allow" (tc 33 2) n "wholeamounts.redrawing" 441 220,
c 227 #[(s "comes_back" 525),(s "Search.comes_back" 526),(u 527),(i 129),(i 1),(i 0),(i 0),(i 3),(r 222),(.bool true),(i 181),(r 223),n,(r 224),(r 225),(r 226),(i 530),(i 129),(u 531)],
f 228 "comes_back" "Search.comes_back" (tc 33 3) n "wholeamounts.redrawing" 441 227,
c 234 #[(s "goes_on" 533),(s "Search.goes_on" 534),(u 535),(i 136),(i 3),(i 0),(i 0),(i 3),(r 229),(.bool true),(i 181),(r 230),n,(r 231),(r 232),(r 233),(i 540),(i 136),(u 541)],
f 235 "goes_on" "Search.goes_on" (tc 33 4) n "wholeamounts.redrawing" 441 234,
c 241 #[(s "closes" 543),(s "Search.closes" 544),(u 545),(i 142),(i 4),(i 0),(i 0),(i 3),(r 236),(.bool true),(i 181),(r 237),n,(r 238),(r 239),(r 240),(i 554),(i 142),(u 555)],
f 242 "closes" "Search.closes" (tc 33 5) n "wholeamounts.redrawing" 441 241,
c 248 #[(s "base_of" 557),(s "Search.base_of" 558),(u 559),(i 159),(i 2),(i 0),(i 0),(i 3),(r 243),(.bool true),(i 181),(r 244),n,(r 245),(r 246),(r 247),(i 562),(i 159),(u 563)],
f 249 "base_of" "Search.base_of" (tc 33 6) n "wholeamounts.redrawing" 441 248,
c 255 #[(s "base_before" 565),(s "Search.base_before" 566),(u 567),(i 165),(i 2),(i 0),(i 0),(i 3),(r 250),(.bool true),(i 181),(r 251),n,(r 252),(r 253),(r 254),(i 570),(i 165),(u 571)],
f 256 "base_before" "Search.base_before" (tc 33 7) n "wholeamounts.redrawing" 441 255,
c 262 #[(s "meeting_of" 573),(s "Search.meeting_of" 574),(u 575),(i 168),(i 3),(i 0),(i 0),(i 3),(r 257),(.bool true),(i 181),(r 258),n,(r 259),(r 260),(r 261),(i 581),(i 168),(u 582)],
f 263 "meeting_of" "Search.meeting_of" (tc 33 8) n "wholeamounts.redrawing" 441 262,
c 269 #[(s "fold" 584),(s "Search.fold" 585),(u 586),(i 179),(i 3),(i 0),(i 0),(i 3),(r 264),(.bool true),(i 181),(r 265),n,(r 266),(r 267),(r 268),(i 591),(i 179),(u 592)],
f 270 "fold" "Search.fold" (tc 33 9) n "wholeamounts.redrawing" 441 269,
c 276 #[(s "allow_both" 594),(s "Search.allow_both" 595),(u 596),(i 186),(i 2),(i 0),(i 0),(i 3),(r 271),(.bool true),(i 181),(r 272),n,(r 273),(r 274),(r 275),(i 599),(i 186),(u 600)],
f 277 "allow_both" "Search.allow_both" (tc 33 10) n "wholeamounts.redrawing" 441 276,
(279,⟨(.type "dict"),none,(.dict #[d P "__module__" 491 (s "wholeamounts.redrawing" 441),d P "__firstlineno__" 495 (.int 107 494),d P "__init__" 504 (r 207),d P "reach" 515 (r 214),d P "allow" 524 (r 221),d P "comes_back" 532 (r 228),d P "goes_on" 542 (r 235),d P "closes" 556 (r 242),d P "base_of" 564 (r 249),d P "base_before" 572 (r 256),d P "meeting_of" 583 (r 263),d P "fold" 593 (r 270),d P "allow_both" 601 (r 277),d P "__static_attributes__" 609 (r 278),d P "__dict__" 611 (r 281),d P "__weakref__" 613 (r 282),d P "__doc__" 614 n] 4),#[]⟩),
(280,⟨(.type "type"),none,(.cls ⟨"Search",[(.type "object")],[(r 280),(.type "object")],279,"Search",true,[],[],false,none,false⟩),#[none,none,(some (s "Search" 484)),(some (s "Search" 492)),(some (.builtin "object.__new__")),(some (.bool true))]⟩),
c 288 #[(s "ways_at" 617),(s "ways_at" 618),(u 619),(i 189),(i 2),(i 0),(i 0),(i 3),(r 285),(.bool true),(i 181),(r 286),n,n,n,(r 287),(i 620),(i 189),(u 621)],
f 289 "ways_at" "ways_at" (tp 34) n "wholeamounts.redrawing" 441 288,
c 295 #[(s "is_fixed_double" 623),(s "is_fixed_double" 624),(u 625),(i 195),(i 3),(i 0),(i 0),(i 3),(r 290),(.bool true),(i 181),(r 291),n,(r 292),(r 293),(r 294),(i 629),(i 195),(u 630)],
f 296 "is_fixed_double" "is_fixed_double" (tp 35) n "wholeamounts.redrawing" 441 295,
c 302 #[(s "can_go" 632),(s "can_go" 633),(u 634),(i 197),(i 4),(i 0),(i 0),(i 3),(r 297),(.bool true),(i 181),(r 298),n,(r 299),(r 300),(r 301),(i 640),(i 197),(u 641)],
f 303 "can_go" "can_go" (tp 36) n "wholeamounts.redrawing" 441 302,
t 304 #[(.int 70 645),(.int 75 646),(.int 77 647),(.int 49 648)],
t 305 #[(.int 0 670),(.int 0 671)],
c 318 #[(s "__init__" 685),(s "Atom.__init__" 686),(u 687),(i 217),(i 6),(i 0),(i 0),(i 3),(r 313),(.bool true),(i 181),(r 314),n,(r 315),(r 316),(r 317),(i 694),(i 217),(u 695)],
f 319 "__init__" "Atom.__init__" (tc 50 0) n "wholeamounts.molecules" 643 318,
(321,⟨(.type "dict"),none,(.dict #[d P "__module__" 680 (s "wholeamounts.molecules" 643),d P "__firstlineno__" 684 (.int 215 683),d P "__init__" 696 (r 319),d P "__static_attributes__" 702 (r 320),d P "__dict__" 704 (r 323),d P "__weakref__" 706 (r 324),d P "__doc__" 707 n] 4),#[]⟩),
(322,⟨(.type "type"),none,(.cls ⟨"Atom",[(.type "object")],[(r 322),(.type "object")],321,"Atom",true,[],[],false,none,false⟩),#[none,none,(some (s "Atom" 673)),(some (s "Atom" 681)),(some (.builtin "object.__new__")),(some (.bool true))]⟩),
c 339 #[(s "__init__" 722),(s "Bond.__init__" 723),(u 724),(i 225),(i 5),(i 0),(i 0),(i 3),(r 334),(.bool true),(i 181),(r 335),n,(r 336),(r 337),(r 338),(i 730),(i 225),(u 731)],
f 340 "__init__" "Bond.__init__" (tc 51 0) n "wholeamounts.molecules" 643 339,
(342,⟨(.type "dict"),none,(.dict #[d P "__module__" 717 (s "wholeamounts.molecules" 643),d P "__firstlineno__" 721 (.int 223 720),d P "__init__" 732 (r 340),d P "__static_attributes__" 737 (r 341),d P "__dict__" 739 (r 344),d P "__weakref__" 741 (r 345),d P "__doc__" 742 n] 4),#[]⟩),
(343,⟨(.type "type"),none,(.cls ⟨"Bond",[(.type "object")],[(r 343),(.type "object")],342,"Bond",true,[],[],false,none,false⟩),#[none,none,(some (s "Bond" 710)),(some (s "Bond" 718)),(some (.builtin "object.__new__")),(some (.bool true))]⟩),
c 360 #[(s "__init__" 757),(s "Molecule.__init__" 758),(u 759),(i 232),(i 3),(i 0),(i 0),(i 3),(r 355),(.bool true),(i 181),(r 356),n,(r 357),(r 358),(r 359),(i 763),(i 232),(u 764)],
f 361 "__init__" "Molecule.__init__" (tc 52 0) n "wholeamounts.molecules" 643 360,
(363,⟨(.type "dict"),none,(.dict #[d P "__module__" 752 (s "wholeamounts.molecules" 643),d P "__firstlineno__" 756 (.int 230 755),d P "__init__" 765 (r 361),d P "__static_attributes__" 768 (r 362),d P "__dict__" 770 (r 365),d P "__weakref__" 772 (r 366),d P "__doc__" 773 n] 4),#[]⟩),
(364,⟨(.type "type"),none,(.cls ⟨"Molecule",[(.type "object")],[(r 364),(.type "object")],363,"Molecule",true,[],[],false,none,false⟩),#[none,none,(some (s "Molecule" 745)),(some (s "Molecule" 753)),(some (.builtin "object.__new__")),(some (.bool true))]⟩),
c 374 #[(s "read_molecule" 776),(s "read_molecule" 777),(u 778),(i 235),(i 1),(i 0),(i 0),(i 3),(r 369),(.bool true),(i 181),(r 370),n,(r 371),(r 372),(r 373),(i 782),(i 235),(u 783)],
f 375 "read_molecule" "read_molecule" (tp 53) n "wholeamounts.molecules" 643 374,
c 379 #[(s "read_parts" 785),(s "read_parts" 786),(u 787),(i 241),(i 1),(i 0),(i 0),(i 3),(r 376),(.bool true),(i 181),(r 377),n,n,n,(r 378),(i 788),(i 241),(u 789)],
f 380 "read_parts" "read_parts" (tp 54) n "wholeamounts.molecules" 643 379,
c 386 #[(s "read_atom" 791),(s "read_atom" 792),(u 793),(i 255),(i 1),(i 0),(i 0),(i 3),(r 381),(.bool true),(i 181),(r 382),n,(r 383),(r 384),(r 385),(i 800),(i 255),(u 801)],
f 387 "read_atom" "read_atom" (tp 55) n "wholeamounts.molecules" 643 386,
c 393 #[(s "read_bond" 803),(s "read_bond" 804),(u 805),(i 262),(i 3),(i 0),(i 0),(i 3),(r 388),(.bool true),(i 181),(r 389),n,(r 390),(r 391),(r 392),(i 814),(i 262),(u 815)],
f 394 "read_bond" "read_bond" (tp 56) n "wholeamounts.molecules" 643 393,
c 398 #[(s "neighbour_counts" 817),(s "neighbour_counts" 818),(u 819),(i 271),(i 1),(i 0),(i 0),(i 3),(r 395),(.bool true),(i 181),(r 396),n,n,n,(r 397),(i 820),(i 271),(u 821)],
f 399 "neighbour_counts" "neighbour_counts" (tp 57) n "wholeamounts.molecules" 643 398,
c 405 #[(s "refuse_wrong_hands" 823),(s "refuse_wrong_hands" 824),(u 825),(i 277),(i 2),(i 0),(i 0),(i 3),(r 400),(.bool true),(i 181),(r 401),n,(r 402),(r 403),(r 404),(i 830),(i 277),(u 831)],
f 406 "refuse_wrong_hands" "refuse_wrong_hands" (tp 58) n "wholeamounts.molecules" 643 405,
c 412 #[(s "may_have_hand" 833),(s "may_have_hand" 834),(u 835),(i 281),(i 2),(i 0),(i 0),(i 3),(r 407),(.bool true),(i 181),(r 408),n,(r 409),(r 410),(r 411),(i 838),(i 281),(u 839)],
f 413 "may_have_hand" "may_have_hand" (tp 59) n "wholeamounts.molecules" 643 412,
c 419 #[(s "refuse_wrong_sides" 841),(s "refuse_wrong_sides" 842),(u 843),(i 283),(i 2),(i 0),(i 0),(i 3),(r 414),(.bool true),(i 181),(r 415),n,(r 416),(r 417),(r 418),(i 850),(i 283),(u 851)],
f 420 "refuse_wrong_sides" "refuse_wrong_sides" (tp 60) n "wholeamounts.molecules" 643 419,
c 426 #[(s "may_have_side" 853),(s "may_have_side" 854),(u 855),(i 289),(i 4),(i 0),(i 0),(i 3),(r 421),(.bool true),(i 181),(r 422),n,(r 423),(r 424),(r 425),(i 862),(i 289),(u 863)],
f 427 "may_have_side" "may_have_side" (tp 61) n "wholeamounts.molecules" 643 426,
c 433 #[(s "may_end_a_side" 865),(s "may_end_a_side" 866),(u 867),(i 297),(i 2),(i 0),(i 0),(i 3),(r 428),(.bool true),(i 181),(r 429),n,(r 430),(r 431),(r 432),(i 870),(i 297),(u 871)],
f 434 "may_end_a_side" "may_end_a_side" (tp 62) n "wholeamounts.molecules" 643 433,
t 435 #[(.int 70 875),(.int 75 876),(.int 81 877),(.int 49 878)],
c 448 #[(s "__init__" 898),(s "Equation.__init__" 899),(u 900),(i 306),(i 3),(i 0),(i 0),(i 3),(r 443),(.bool true),(i 181),(r 444),n,(r 445),(r 446),(r 447),(i 904),(i 306),(u 905)],
f 449 "__init__" "Equation.__init__" (tc 68 0) n "wholeamounts.equations" 873 448,
(451,⟨(.type "dict"),none,(.dict #[d P "__module__" 893 (s "wholeamounts.equations" 873),d P "__firstlineno__" 897 (.int 304 896),d P "__init__" 906 (r 449),d P "__static_attributes__" 909 (r 450),d P "__dict__" 911 (r 453),d P "__weakref__" 913 (r 454),d P "__doc__" 914 n] 4),#[]⟩),
(452,⟨(.type "type"),none,(.cls ⟨"Equation",[(.type "object")],[(r 452),(.type "object")],451,"Equation",true,[],[],false,none,false⟩),#[none,none,(some (s "Equation" 886)),(some (s "Equation" 894)),(some (.builtin "object.__new__")),(some (.bool true))]⟩),
c 460 #[(s "read_equation" 917),(s "read_equation" 918),(u 919),(i 309),(i 1),(i 0),(i 0),(i 3),(r 457),(.bool true),(i 181),(r 458),n,n,n,(r 459),(i 920),(i 309),(u 921)],
f 461 "read_equation" "read_equation" (tp 69) n "wholeamounts.equations" 873 460,
c 467 #[(s "read_member" 923),(s "read_member" 924),(u 925),(i 318),(i 1),(i 0),(i 0),(i 3),(r 462),(.bool true),(i 181),(r 463),n,(r 464),(r 465),(r 466),(i 931),(i 318),(u 932)],
f 468 "read_member" "read_member" (tp 70) n "wholeamounts.equations" 873 467,
c 474 #[(s "kept" 950),(s "kept" 951),(u 952),(i 332),(i 2),(i 0),(i 0),(i 3),(r 469),(.bool true),(i 181),(r 470),n,(r 471),(r 472),(r 473),(i 957),(i 332),(u 958)],
f 475 "kept" "kept" (tp 77) n "wholeamounts.desk" 934 474,
c 481 #[(s "tell_kept" 960),(s "tell_kept" 961),(u 962),(i 334),(i 2),(i 0),(i 0),(i 3),(r 476),(.bool true),(i 181),(r 477),n,(r 478),(r 479),(r 480),(i 966),(i 334),(u 967)],
f 482 "tell_kept" "tell_kept" (tp 78) n "wholeamounts.desk" 934 481,
c 488 #[(s "answer" 969),(s "answer" 970),(u 971),(i 338),(i 1),(i 0),(i 0),(i 3),(r 483),(.bool true),(i 181),(r 484),n,(r 485),(r 486),(r 487),(i 974),(i 338),(u 975)],
f 489 "answer" "answer" (tp 79) n "wholeamounts.desk" 934 488]
end HD
namespace BK
open PySem PySem.Spec PyProof.Rows
open HD (KF)
noncomputable def aK:List Addr:=[3,22,28,29,31,32,44,45,57,58,70,71,78,79,80,86,87,93,94,98,99,103,104,108,109,115,116,122,123,136,137,143,144,150,151,157,158,164,165,167,168,185,186,188,189,206,207,213,214,220,221,227,228,234,235,241,242,248,249,255,256,262,263,269,270,276,277,279,280,288,289,295,296,302,303,304,305,318,319,321,322,339,340,342,343,360,361,363,364,374,375,379,380,386,387,393,394,398,399,405,406,412,413,419,420,426,427,433,434,435,448,449,451,452,460,461,467,468,474,475,481,482,488,489]
theorem Bq:∀ P,aK=(KF P).map (·.1):=fun _=>by kernel_rfl
abbrev lO:List Str:=["Fault"]
noncomputable abbrev HK:PySem.W.Hook:=PySem.W.kHook KF aK Bq
noncomputable abbrev XT:Shared->Bool:=fun s=>PySem.W.xlAt qV [] s&&PySem.W.recOk [] s
theorem C0:∀ w:World,(HT.endsT PySem.Challenge.pw_wholeamounts_s07_kept w 8314).map (fun x=>(HT.chkT PySem.Challenge.pw_wholeamounts_s07_kept x,aK.map (HT.getT x.2)))=some (true,(KF w.params).map fun p=>some p.2):=fun w=>by kernel_rfl
theorem C3:∀ w:World,(HT.endsT PySem.Challenge.pw_wholeamounts_s07_kept w 8314).map (fun x=>HT.seen1 qV lO (importedModules PySem.Challenge.pw_wholeamounts_s07_kept.main.body) XT x.2.abs)=some ((PySem.W.openGood qV lO).1):=fun w=>by kernel_rfl
theorem C4:∀ w:World,(HT.endsT PySem.Challenge.pw_wholeamounts_s07_kept w 8314).map (fun x=>HT.seen2 qV lO (importedModules PySem.Challenge.pw_wholeamounts_s07_kept.main.body) XT x.2.abs)=some ((PySem.W.openGood qV lO).2.1,true):=fun w=>by kernel_rfl
theorem C7:∀ w:World,(HT.endsT PySem.Challenge.pw_wholeamounts_s07_kept w 8314).map (fun x=>HT.seen5 qV lO (importedModules PySem.Challenge.pw_wholeamounts_s07_kept.main.body) XT x.2.abs)=some (true):=fun w=>by kernel_rfl
theorem C5:∀ w:World,(HT.endsT PySem.Challenge.pw_wholeamounts_s07_kept w 8314).map (fun x=>HT.seen3 qV lO (importedModules PySem.Challenge.pw_wholeamounts_s07_kept.main.body) XT x.2.abs)=some ((PySem.W.openGood qV lO).2.2.2.2.1,(PySem.W.openGood qV lO).2.2.2.2.2.1):=fun w=>by kernel_rfl
theorem C6:∀ w:World,(HT.endsT PySem.Challenge.pw_wholeamounts_s07_kept w 8314).map (fun x=>HT.seen4 qV lO (importedModules PySem.Challenge.pw_wholeamounts_s07_kept.main.body) XT x.2.abs)=some ((PySem.W.openGood qV lO).2.2.2.2.2.2):=fun w=>by kernel_rfl
theorem left:PySem.W.LeftO PySem.Challenge.pw_wholeamounts_s07_kept qV lO XT HK.obs HK.val 8314:=HT.left_of C0 C3 C4 C7 C5 C6
end BK
end
section
namespace L2
open PySem PySem.Spec PyProof.Rows
abbrev Key:=Sum Int Str
def iQ:Key->Value->Bool
 |.inl k,v=>Value.isInt k v
 |.inr x,v=>Value.isStrOf x v
def Lg(w:World):Key->Int
 |.inl k=>hashInt k
 |.inr x=>hashStr w x
theorem rq:∀ {k:Key}{v:Value},iQ k v=true->(∃ i t,k=Sum.inl i/\v=Value.int i t)\/(∃ x t,k=Sum.inr x/\v=Value.str x t)
 |.inl i,v,h=>by
  obtain⟨t,e⟩:=Value.isInt_shape (k:=i) (v:=v) h;exact .inl ⟨i,t,rfl,e⟩
 |.inr x,v,h=>by
  obtain⟨t,e⟩:=Value.isStrOf_shape (x:=x) (v:=v) h;exact .inr ⟨x,t,rfl,e⟩
theorem Zbo(i:Int)(t:Tok):iQ (.inl i) (.int i t)=true:=by simp [iQ,Value.isInt]
theorem Zbm(x:Str)(t:Tok):iQ (.inr x) (.str x t)=true:=by simp [iQ,Value.isStrOf]
theorem xF(a b:Int):decide ((Sum.inl a:Key)=Sum.inl b)=(a==b):=by
 by_cases e:a=b
 ·subst e;simp
 ·have h:¬ (Sum.inl a:Key)=Sum.inl b:=fun q=>e (Sum.inl.inj q);rw [aw h];exact(aP.mpr e).symm
theorem xI(a b:Str):decide ((Sum.inr a:Key)=Sum.inr b)=decide (a=b):=by
 by_cases e:a=b
 ·subst e;simp
 ·have h:¬ (Sum.inr a:Key)=Sum.inr b:=fun q=>e (Sum.inr.inj q);rw [aw h,aw e]
theorem xG(a:Int)(b:Str):decide ((Sum.inl a:Key)=Sum.inr b)=false:=aw (fun q=>nomatch q)
theorem xH(a:Str)(b:Int):decide ((Sum.inr a:Key)=Sum.inl b)=false:=aw (fun q=>nomatch q)
def gS(prog:Program)(w:World):PySem.KeyKind prog w Key where
 is:=iQ
 hash:=Lg w
 inj:=fun v a b ha hb=>by
  rcases rq ha with⟨i,t,rfl,rfl⟩ |⟨x,t,rfl,rfl⟩
  ·rcases rq hb with⟨j,u,rfl,e⟩ |⟨y,u,rfl,e⟩
   ·injection e with e1 _;rw [e1]
   ·exact nomatch e
  ·rcases rq hb with⟨j,u,rfl,e⟩ |⟨y,u,rfl,e⟩
   ·exact nomatch e
   ·injection e with e1 _;rw [e1]
 byValue:=fun k v h=>by
  rcases rq h with⟨i,t,rfl,rfl⟩ |⟨x,t,rfl,rfl⟩<;>rfl
 pyHash:=fun hv h=>by
  rcases rq hv with⟨i,t,rfl,rfl⟩ |⟨x,t,rfl,rfl⟩
  ·exact wpAny_pyHash_int h
  ·exact wpAny_pyHash_str h
 eqBool:=fun hu hv h=>by
  rcases rq hu with⟨i,t,rfl,rfl⟩ |⟨x,t,rfl,rfl⟩
  ·rcases rq hv with⟨j,u,rfl,rfl⟩ |⟨y,u,rfl,rfl⟩
   ·rw [xF]at h;exact wpAny_eqBool_int h
   ·rw [xG]at h;exact SeqAt.EqAt.int_str i t y u _ _ _ _ h
  ·rcases rq hv with⟨j,u,rfl,rfl⟩ |⟨y,u,rfl,rfl⟩
   ·rw [xH]at h;exact SeqAt.EqAt.str_int x t j u _ _ _ _ h
   ·rw [xI]at h;exact wpAny_eqBool_str h
 «strs»:=fun k x t v h=>by
  rcases rq h with⟨i,u,rfl,e⟩ |⟨y,u,rfl,e⟩
  ·exact nomatch e
  ·injection e with e1 _
   subst e1;cases v<;>rfl
theorem Z9V(prog:Program)(w:World)(i:Int)(t:Tok):(gS prog w).is (.inl i) (.int i t)=true:=Zbo i t
theorem Z9W(prog:Program)(w:World)(x:Str)(t:Tok):(gS prog w).is (.inr x) (.str x t)=true:=Zbm x t
end L2
namespace L2
open PySem PySem.Spec PyProof.Rows
inductive V where
 |non |bl (b:Bool) |int (i:Int) |str (x:Str) |byt (b:Array UInt8) |flt (b:UInt64) |ref (a:Addr) |ty (n:String)
 deriving DecidableEq
def RelV:V->Value->Prop
 |.non,u=>u=Value.none
 |.bl b,u=>u=Value.bool b
 |.int i,u=>∃ t,u=Value.int i t
 |.str x,u=>∃ t,u=Value.str x t
 |.byt b,u=>∃ t,u=Value.bytes b t
 |.flt b,u=>∃ t,u=Value.float b t
 |.ref a,u=>u=Value.ref a
 |.ty n,u=>u=Value.type n
abbrev Vals:List V->List Value->Prop:=Paired RelV
theorem Vals.length{xs:List V}{us:List Value}(r:Vals xs us):xs.length=us.length:=Paired.length r
theorem Vals.get:∀ {xs:List V}{us:List Value}{i:Nat}{x:V},Vals xs us->xs[i]?=some x->∃ u,us[i]?=some u/\RelV x u
 |_,_,_,_,.nil,e=>by simp at e
 |_,_,0,_,.cons r _,e=>by simp at e;subst e;exact⟨_,rfl,r⟩
 |_,_,i+1,x,.cons _ t,e=>by
  obtain⟨u,h1,h2⟩:=Vals.get (i:=i) (x:=x) t (by simpa using e)
  exact⟨u,by simpa using h1,h2⟩
theorem Vals.set{x:V}{u:Value}(r:RelV x u):∀ {xs:List V}{us:List Value}(i:Nat),Vals xs us->Vals (xs.set i x) (us.set i u)
 |_,_,_,.nil=>.nil
 |_,_,0,.cons _ t=>.cons r t
 |_,_,i+1,.cons q t=>.cons q (Vals.set r i t)
theorem Vals.append:∀ {xs ys:List V}{us ws:List Value},Vals xs us->Vals ys ws->Vals (xs++ys) (us++ws)
 |_,_,_,_,.nil,s=>s
 |_,_,_,_,.cons r t,s=>.cons r (Vals.append t s)
theorem Vals.take:∀ {xs:List V}{us:List Value}(n:Nat),Vals xs us->Vals (xs.take n) (us.take n)
 |_,_,0,_=>.nil
 |_,_,_+1,.nil=>.nil
 |_,_,n+1,.cons r t=>.cons r (Vals.take n t)
theorem Vals.drop:∀ {xs:List V}{us:List Value}(n:Nat),Vals xs us->Vals (xs.drop n) (us.drop n)
 |_,_,0,r=>r
 |_,_,_+1,.nil=>.nil
 |_,_,n+1,.cons _ t=>Vals.drop n t
def RelO:Option V->Option Value->Prop
 |some v,some u=>RelV v u
 |none,none=>True
 |_,_=>False
def KV{κ:Type}:List (κ×V)->List (κ×Value)->Prop:=Paired fun(p:κ×V)(q:κ×Value)=>p.1=q.1/\RelV p.2 q.2
def kV:Key->V
 |.inl i=>.int i
 |.inr x=>.str x
inductive HO where
 |lst (xs:List V)
 |tup (xs:List V)
 |dK (ah:List (Key×V)) |dT (ah:List (List Key×V))
 |set (S:Int->Bool)(n:Nat)
 |ins (C dx:Addr)(fs:List (Str×V))
 |own (x:Addr)
 |xd (fs:List (Str×V))
 |met (f x:Addr)
 |rng (lo hi:Int)
 |frz (o:Obj)(u:HO)
 |tbl (ps:Array Value)
 |ext (φ:Heap->Prop)
abbrev Hp:=Addr->Option HO
def upd(H:Hp)(a:Addr)(o:HO):Hp:=fun b=>if b=a then some o else H b
theorem Z2j{H:Hp}{a:Addr}{o:HO}:upd H a o a=some o:=by unfold upd;rw [ae rfl]
theorem aj{H:Hp}{a b:Addr}{o:HO}(h:b≠a):upd H a o b=H b:=by unfold upd;rw [ac h]
theorem j4{H:Hp}{a:Addr}{o u:HO}:upd (upd H a o) a u=upd H a u:=by
 funext b;unfold upd;split<;>rfl
theorem az{H:Hp}{a b:Addr}{o u:HO}(h:H a=some o)(h':H b=some u)(d:o≠u):a≠b:=by
 intro e;subst e;rw [h]at h';exact d (Option.some.inj h')
theorem ba{H:Hp}{a b:Addr}{o:HO}(h:H a=some o)(h':H b=none):a≠b:=by
 intro e;subst e;rw [h]at h';cases h'
section
variable(P:Program)(w:World)
def ObjOk(H:Hp)(h:Heap)(a:Addr):HO->Prop
 |.lst xs=>xs.length<=sizeLine/\∃ (its:List Value)(n:Nat),Vals xs its/\h.get? a=some { cls:=.type "list",data:=.seq its.toArray n }
 |.tup xs=>xs.length<=sizeLine/\∃ its:List Value,Vals xs its/\IsTup h a its.toArray
 |.dK ah=>ah.length<=sizeLine/\(a==sysModules)=false/\∃ vs,KV ah vs/\h.DictOf (gS P w) a vs
 |.dT ah=>ah.length<=sizeLine/\(a==sysModules)=false/\∃ xs:List (List Key×Addr×Value),
   Paired (fun(p:List Key×V)(q:List Key×Addr×Value)=>p.1=q.1/\H q.2.1=some (.tup (p.1.map kV))/\RelV p.2 q.2.2) ah xs /\
   ∃ o es ep,h.get? a=some o/\o.ExactDict/\o.data=.dict es ep/\es.toList=xs.map (entryOfKey (tupleKind (gS P w)))/\(xs.map (·.1)).Nodup
 |.set S n=>h.SetOf (intKind P w) a S n
 |.ins C dx fs=>H dx=some (.own a)/\fs.length<=1000/\dx≠a/\h.get? a=some (PySem.W.instObj C dx) /\
   ∃ mA,h.Ns1 dx mA/\(∀ f,RelO (fs.lookup f) (mA f))/\PySem.Within mA (fs.map (·.1))
 |.own _=>∃ o,h.get? a=some o
 |.xd fs=>∃ mA,h.Ns1 a mA/\∀ f,RelO (fs.lookup f) (mA f)
 |.rng lo hi=>∃ t u v,h.get? a=some { cls:=.type "range",data:=.fields #[.int lo t,.int hi u,.int 1 v] }
 |.frz o u=>h.get? a=some o/\ObjOk H h a u
 |.tbl ps=>h.get? a=some { cls:=.none,data:=.fields ps }
 |.met f x=>h.get? a=some (PySem.W.methodObj (.ref f) (.ref x))
 |.ext φ=>φ h/\(∃ o,h.get? a=some o)/\∀ h1 h2:Heap,φ h1->(∀ o,h1.get? a=some o->h2.get? a=some o)->φ h2
def HOk(H:Hp)(h:Heap):Prop:=∀ a o,H a=some o->ObjOk P w H h a o
end
section
variable{P:Program}{w:World}{H H':Hp}{h h':Heap}{a:Addr}{o:HO}
theorem ObjOk.lt(x:ObjOk P w H h a o):a<h.objs.size:=by
 cases o with
 |lst xs=>obtain⟨_,_,_,_,e⟩:=x;exact cz e
 |tup xs=>obtain⟨_,_,_,p⟩:=x;exact p.lt
 |dK ah=>obtain⟨_,_,_,_,o,_,_,e,_⟩:=x;exact cz e
 |dT ah=>obtain⟨_,_,_,_,o,_,_,e,_⟩:=x;exact cz e
 |set S n=>obtain⟨o,_,_,_,e,_⟩:=x;exact cz e
 |ins C dx fs=>obtain⟨_,_,_,e,_⟩:=x;exact cz e
 |own y=>obtain⟨_,e⟩:=x;exact cz e
 |xd fs=>obtain⟨_,⟨_,_,_,e,_⟩,_⟩:=x;exact cz e
 |rng lo hi=>obtain⟨_,_,_,e⟩:=x;exact cz e
 |frz ob u=>obtain⟨e,_⟩:=x;exact cz e
 |tbl ps=>exact cz (show h.get? a=some _ from x)
 |met f y=>exact cz (show h.get? a=some _ from x)
 |ext φ=>obtain⟨_,⟨_,e⟩,_⟩:=x;exact cz e
theorem Paired.mapP{α β:Type}{F G:α->β->Prop}:∀ {l₁:List α}{l₂:List β},Paired F l₁ l₂->(∀ a b,F a b->G a b)->Paired G l₁ l₂
 |_,_,.nil,_=>.nil
 |_,_,.cons r t,f=>.cons (f _ _ r) (Paired.mapP t f)
theorem ObjOk.stay(x:ObjOk P w H h a o)(k:∀ b u,(b=a\/H b=some (.own a))->h.get? b=some u->h'.get? b=some u)
  (ho:∀ b,H b=some (.own a)->H' b=some (.own a))(ht:∀ b xs,H b=some (.tup xs)->H' b=some (.tup xs)):ObjOk P w H' h' a o:=by
 induction o with
 |lst xs=>obtain⟨z,its,n,r,e⟩:=x;exact⟨z,its,n,r,k _ _ (.inl rfl) e⟩
 |tup xs=>obtain⟨z,its,r,ob,e,c⟩:=x;exact⟨z,its,r,ob,k _ _ (.inl rfl) e,c⟩
 |dK ah=>obtain⟨z,y,vs,r,ob,es,ep,e,c⟩:=x;exact⟨z,y,vs,r,ob,es,ep,k _ _ (.inl rfl) e,c⟩
 |dT ah =>
  obtain⟨z,y,xs,r,ob,es,ep,e,c⟩:=x;exact⟨z,y,xs,Paired.mapP r fun p q z=>⟨z.1,ht _ _ z.2.1,z.2.2⟩,ob,es,ep,k _ _ (.inl rfl) e,c⟩
 |set S n=>obtain⟨ob,es,ep,t,e,c⟩:=x;exact⟨ob,es,ep,t,k _ _ (.inl rfl) e,c⟩
 |ins C dx fs =>
  obtain⟨d,z,ne,e,mA,⟨od,es,ep,e2,c⟩,r⟩:=x;exact⟨ho _ d,z,ne,k _ _ (.inl rfl) e,mA,⟨od,es,ep,k _ _ (.inr d) e2,c⟩,r⟩
 |own y=>obtain⟨ob,e⟩:=x;exact⟨ob,k _ _ (.inl rfl) e⟩
 |xd fs=>obtain⟨mA,⟨od,es,ep,e,c⟩,r⟩:=x;exact⟨mA,⟨od,es,ep,k _ _ (.inl rfl) e,c⟩,r⟩
 |rng lo hi=>obtain⟨t,u,v,e⟩:=x;exact⟨t,u,v,k _ _ (.inl rfl) e⟩
 |frz ob u ih=>obtain⟨e,q⟩:=x;exact⟨k _ _ (.inl rfl) e,ih q⟩
 |tbl ps =>
  have e:h.get? a=some { cls:=.none,data:=.fields ps }:=x;show h'.get? a=some { cls:=.none,data:=.fields ps };exact k a _ (.inl rfl) e
 |met f y =>
  have e:h.get? a=some (PySem.W.methodObj (.ref f) (.ref y)):=x;show h'.get? a=some (PySem.W.methodObj (.ref f) (.ref y));exact k a _ (.inl rfl) e
 |ext φ=>obtain⟨p,⟨o,e⟩,st⟩:=x;exact⟨st _ _ p fun o q=>k _ _ (.inl rfl) q,⟨o,k _ _ (.inl rfl) e⟩,st⟩
theorem HOk.lt(x:HOk P w H h)(e:H a=some o):a<h.objs.size:=(x a o e).lt
theorem HOk.fresh(x:HOk P w H h)(e:h.objs.size<=a):H a=none:=by
 cases q:H a with
 |none=>rfl
 |some u=>exact absurd (iD (x.lt q) e) (il _)
theorem HOk.kept(x:HOk P w H h)(k:∀ b u,h.get? b=some u->h'.get? b=some u):HOk P w H h':=fun a o e =>
 (x a o e).stay (fun b u _ q=>k b u q) (fun _ q=>q) fun _ _ q=>q
theorem HOk.laid(x:HOk P w H h)(k:∀ b u,h.get? b=some u->h'.get? b=some u)(hp:h.objs.size<=a)(new:ObjOk P w (upd H a o) h' a o):HOk P w (upd H a o) h':=fun b u e=>by
 have hn:=x.fresh hp;by_cases hb:b=a
 ·subst hb;rw [Z2j]at e;cases e;exact new
 ·rw [aj hb]at e;exact(x b u e).stay (fun c v _ q=>k c v q) (fun c q=>by rw [aj (ba q hn)];exact q) fun c xs q=>by rw [aj (ba q hn)];exact q
end
def Rd(H:Hp)(a:Addr)(u:HO):Prop:=H a=some u\/∃ o,H a=some (.frz o u)
theorem Rd.ok{P:Program}{w:World}{H:Hp}{h:Heap}{a:Addr}{u:HO}(r:Rd H a u)(x:HOk P w H h):ObjOk P w H h a u:=by
 rcases r with r |⟨o,r⟩
 ·exact x a u r
 ·obtain⟨_,q⟩:=x a _ r;exact q
def Ax:Option HO->Prop
 |some (.lst _)=>True
 |some (.dK _)=>True
 |some (.dT _)=>True
 |some (.set _ _)=>True
 |some (.ins _ _ _)=>True
 |some (.ext _)=>True
 |_=>False
section
variable{P:Program}{w:World}{H:Hp}{h h':Heap}{x e:Addr}{o':HO}
theorem HOk.write(ok:HOk P w H h)(mu:Ax (H x))(he:e=x\/H e=some (.own x))(k:∀ b u,b≠e->h.get? b=some u->h'.get? b=some u)(zQ:∃ u,h'.get? e=some u)
  (new:ObjOk P w (upd H x o') h' x o'):HOk P w (upd H x o') h':=fun b u q=>by
 have Di:∀ c y,H c=some (.own y)->c≠x:=fun c y r z=>by subst z;rw [r]at mu;exact mu
 have Lx:∀ c xs,H c=some (.tup xs)->c≠x:=fun c xs r z=>by subst z;rw [r]at mu;exact mu
 by_cases hb:b=x
 ·subst hb;rw [Z2j]at q;cases q;exact new
 ·rw [aj hb]at q;by_cases wQ:b=e
  ·have q':H b=some (.own x):=by
    rcases he with z |z
    ·exact absurd (wQ.trans z) hb
    ·rw [wQ];exact z
   rw [q]at q';cases q';obtain⟨v,hv⟩:=zQ;exact⟨v,by rw [wQ];exact hv⟩
  ·refine(ok b u q).stay (fun c v hc r=>k c v ?_ r) (fun c r=>by rw [aj (Di c b r)];exact r) fun c xs r=>by rw [aj (Lx c xs r)];exact r
   rcases hc with rfl |hc
   ·exact wQ
   ·rintro rfl;rcases he with z |z
    ·exact Di c b hc z
    ·rw [hc]at z;cases z;exact hb rfl
end
structure Un(fs ex:List Addr)(H H':Hp)(h h':Heap):Prop where
 keep:∀ b o,h.get? b=some o->H b=none->b∉fs->b∉ex->h'.get? b=some o
 slot:∀ b o,h.get? b=some o->H b=none->b∈fs->b∉ex->∃ sl,h'.get? b=some { o with slots:=sl }
 free:∀ b o,h.get? b=some o->H b=none->b∉ex->H' b=none
 there:∀ b o,h.get? b=some o->b∉ex->∃ o',h'.get? b=some o'
 tups:∀ b xs,H b=some (.tup xs)->H' b=some (.tup xs)
 frzs:∀ b o u,H b=some (.frz o u)->H' b=some (.frz o u)
 tbls:∀ b ps,H b=some (.tbl ps)->∃ c8,H' b=some (.tbl (ps++c8))
section
variable{fs u0 ex ex':List Addr}{H H1 H2:Hp}{h h1 h2 h':Heap}{a x e:Addr}{o:HO}
theorem Un.any(u:Un fs ex H H1 h h1){b:Addr}{ob:Obj}(q:h.get? b=some ob)(n:H b=none)(hx:b∉ex):∃ sl,h1.get? b=some { ob with slots:=sl }:=by
 by_cases hb:b∈fs
 ·exact u.slot b ob q n hb hx
 ·exact⟨ob.slots,u.keep b ob q n hb hx⟩
theorem Un.kept(k:∀ b u,h.get? b=some u->h'.get? b=some u):Un fs ex H H h h':=
 ⟨fun b ob q _ _ _=>k b ob q,fun b ob q _ _ _=>⟨ob.slots,k b ob q⟩,fun _ _ _ n _=>n,fun b ob q _=>⟨ob,k b ob q⟩,fun _ _ q=>q,fun _ _ _ q=>q,fun _ ps q=>⟨#[],by rw [q];simp⟩⟩
theorem Un.refl:Un fs ex H H h h:=Un.kept fun _ _ q=>q
theorem Un.laid(k:∀ b u,h.get? b=some u->h'.get? b=some u)(hp:h.objs.size<=a)(hn:H a=none):Un fs ex H (upd H a o) h h' where
 keep:=fun b u q _ _ _=>k b u q
 slot:=fun b u q _ _ _=>⟨u.slots,k b u q⟩
 free:=fun b u q n _=>by rw [aj (eG (iD (cz q) hp))];exact n
 there:=fun b u q _=>⟨u,k b u q⟩
 tups:=fun b xs q=>by rw [aj (ba q hn)];exact q
 frzs:=fun b u xs q=>by rw [aj (ba q hn)];exact q
 tbls:=fun b ps q=>⟨#[],by rw [aj (ba q hn),q];simp⟩
theorem Un.write(mu:Ax (H x))(he:e=x\/H e=some (.own x))(k:∀ b u,b≠e->h.get? b=some u->h'.get? b=some u)(zQ:∃ u,h'.get? e=some u):Un fs ex H (upd H x o) h h':=by
 have hx:∀ b,H b=none->b≠x:=fun b n z=>by subst z;rw [n]at mu;exact mu
 have hb:∀ b,H b=none->b≠e:=fun b n z=>by
  subst z;rcases he with r |r
  ·exact hx b n r
  ·rw [n]at r;cases r
 have hm:∀ b u,H b=some u->¬ Ax (some u)->b≠x:=fun b u q nm z=>by subst z;rw [q]at mu;exact nm mu
 refine⟨fun b u q n _ _=>k b u (hb b n) q,fun b u q n _ _=>⟨u.slots,k b u (hb b n) q⟩,fun b u q n _=>by rw [aj (hx b n)];exact n,fun b u q _=>?_,
  fun b xs q=>by rw [aj (hm b _ q fun z=>z)];exact q,fun b u xs q=>by rw [aj (hm b _ q fun z=>z)];exact q,fun b ps q=>⟨#[],by rw [aj (hm b _ q fun z=>z),q];simp⟩⟩
 by_cases wQ:b=e
 ·subst wQ;exact zQ
 ·exact⟨u,k b u wQ q⟩
end
def Gk(h:Heap)(H:Hp):List Addr:=(List.range h.objs.size).filter fun a=>(H a).isSome
def dZ(h:Heap)(H:Hp):Heap:=PySem.W.hideAll h (Gk h H)
theorem OB(h:Heap)(H:Hp):(dZ h H).objs.size=h.objs.size:=PySem.W.hideAll_size _ _
theorem Pq{h:Heap}{H:Hp}{b:Addr}{o:Obj}(e:h.get? b=some o)(n:H b=none):(dZ h H).get? b=some o:=
 PySem.W.hideAll_get _ e fun hm=>by
  have q:(H b).isSome=true:=(List.mem_filter.mp hm).2;rw [n]at q;simp at q
theorem Fz{h:Heap}{H:Hp}{b:Addr}{o:Obj}(e:(dZ h H).get? b=some o):h.get? b=some o/\H b=none:=by
 have e':h.get? b=some o:=PySem.W.of_hideAll (Gk h H) e;refine⟨e',?_⟩;cases q:H b with
 |none=>rfl
 |some x =>
  have hm:b∈Gk h H:=List.mem_filter.mpr ⟨AM.mpr (cz e'),by simp [q]⟩
  have z:(dZ h H).get? b=none:=PySem.W.hideAll_none (Gk h H) hm;rw [z]at e;cases e
end L2
namespace L2
open PySem PySem.Spec PyProof.Rows
structure Aw(K:aq)(mg:Str->Option Value)(base:Heap):Prop where
 kin:K.In base
 glob:base.Ns mainGlobals mg
 blt:∃ mb,base.Ns builtinsNs mb/\∀ x:Str,x≠"__name__"->mb x=bootBuiltins x
 nolimit:base.NoLimit
structure Cx where
 prog:Program
 w:World
 K:aq
 mg:Str->Option Value
 base:Heap
 A:Around
 N:List Str
 s_0:Shared
 H_0:Hp
 env:Env
 outer:List Env
 stack:List Env
 ex:List Addr
 fn:Str->Bool
 calm:Bool
 pn:List (Addr×Obj)
 xe:Value->Shared->Prop
def cc(l:List Env):List Addr:=l.filterMap (·.frame)
abbrev Cx.fs(X:Cx):List Addr:=cc X.outer
def zb(sc:Scope)(x:Str):Prop:=sc.names.lookup x=some .local\/sc.names.lookup x=some .cell\/sc.names.lookup x=some .free
def ES(sc:Scope)(x:Str):Prop:=sc.names.lookup x=some .local\/sc.names.lookup x=some .cell
def Gz(env:Env)(h:Heap)(m:Str->Option Value)(x:Str)(u:Value):Prop:=
 (env.kindOf x=some .local/\m x=some u)\/((env.kindOf x=some .cell\/env.kindOf x=some .free)/\∃ c,env.cells.lookup x=some c/\h.IsCell c (some u))
structure Cx.Ok(X:Cx):Prop where
 mod:Aw X.K X.mg X.base
 kind:X.env.scope.kind=.function
 glob:X.env.globals=mainGlobals
 blt:X.env.builtins=builtinsNs
 above:X.s_0.heap.objs.size<=X.env.locals
 inj:∀ x y c,X.env.cells.lookup x=some c->X.env.cells.lookup y=some c->x=y
 has:∀ x,(X.env.kindOf x=some .cell\/X.env.kindOf x=some .free)->∃ c,X.env.cells.lookup x=some c
 cab:∀ x c,X.fn x=true->X.env.cells.lookup x=some c->X.s_0.heap.objs.size<=c
 hd:X.calm=true->X.A.handled=none
 frames:X.A.frames=some X.stack
 stk:X.stack=X.outer\/(X.stack=X.env::X.outer/\X.env.frame=some X.env.locals)
 exf:∀ b∈X.ex,b≠X.env.locals/\∀ x c,X.env.cells.lookup x=some c->c≠b
 bs:∀ b o,X.base.get? b=some o->X.s_0.heap.get? b=some o/\X.H_0 b=none
 bsz:X.base.objs.size<=X.s_0.heap.objs.size
 noex:∀ b o,X.base.get? b=some o->b∉X.ex
 exfs:∀ b∈X.ex,b∉X.fs
 funs:X.s_0.heap.FunFrames X.base X.outer
 frf:∀ b∈X.fs,X.H_0 b=none
structure Inv(X:Cx)(pins:List (Addr×Obj))(σ:List (Option V))(H:Hp)(s:Shared):Prop where
 ok:X.Ok
 os:s.os=X.s_0.os
 bare:AllBare s.gens
 base:Un X.fs X.ex X.H_0 H X.s_0.heap s.heap
 loc:∃ m,s.heap.Ns X.env.locals m/\∀ (i:Nat)(x:Str)(v:V),X.N[i]?=some x->σ[i]?=some (some v)->zb X.env.scope x->∃ u,RelV v u/\Gz X.env s.heap m x u
 cell:∀ x c,X.env.cells.lookup x=some c->∃ v,s.heap.IsCell c v
 free:H X.env.locals=none
 freeC:∀ x c,X.env.cells.lookup x=some c->H c=none
 pin:∀ p∈X.pn++pins,s.heap.get? p.1=some p.2/\H p.1=none/\p.1≠X.env.locals/\p.1∉X.fs/\∀ v,p.2.data≠.cell v
 hok:HOk X.prog X.w H s.heap
 len:σ.length=X.N.length
section
variable{X:Cx}{pins:List (Addr×Obj)}{σ:List (Option V)}{H H':Hp}{s:Shared}{h':Heap}
theorem Cx.Ok.nofr(ok:X.Ok){b:Addr}{o:Obj}(e:X.base.get? b=some o):b∉X.fs:=fun hb=>by
 have:=(ok.funs.mem hb).1;rw [e]at this;cases this
theorem Inv.bs(I:Inv X pins σ H s):∀ b o,X.base.get? b=some o->s.heap.get? b=some o/\H b=none:=fun b o e =>
 ⟨I.base.keep b o (I.ok.bs b o e).1 (I.ok.bs b o e).2 (I.ok.nofr e) (I.ok.noex b o e),I.base.free b o (I.ok.bs b o e).1 (I.ok.bs b o e).2 (I.ok.noex b o e)⟩
theorem Inv.bk(I:Inv X pins σ H s):∀ b o,X.base.get? b=some o->s.heap.get? b=some o:=fun b o e=>(I.bs b o e).1
theorem Inv.mod(I:Inv X pins σ H s):Aw X.K X.mg X.base:=I.ok.mod
theorem Inv.kIn(I:Inv X pins σ H s):X.K.In s.heap:=I.ok.mod.kin.keeps I.bk
theorem Inv.nolimit(I:Inv X pins σ H s):s.heap.NoLimit:=I.ok.mod.nolimit.keeps I.bk
theorem Inv.fr(I:Inv X pins σ H s):∃ m,Fr X.base X.env.locals s.heap m:=
 let ⟨m,hn,_⟩:=I.loc
 ⟨m,hn,I.bk,iE I.ok.bsz I.ok.above⟩
theorem Inv.lt(I:Inv X pins σ H s):X.env.locals<s.heap.objs.size:=by obtain⟨_,hn,_⟩:=I.loc;exact hn.lt
theorem Inv.sz(I:Inv X pins σ H s):X.s_0.heap.objs.size<=s.heap.objs.size:=iE I.ok.above (vT I.lt)
theorem Inv.nofs(I:Inv X pins σ H s){a:Addr}(h:s.heap.objs.size<=a):a∉X.fs:=fun hb=>by
 obtain⟨_,o,ho,_⟩:=I.ok.funs.mem hb;exact absurd (iD (cz ho) (iE I.sz h)) (il _)
theorem Inv.cne(I:Inv X pins σ H s):∀ x c,X.env.cells.lookup x=some c->c≠X.env.locals:=fun x c e z=>by
 obtain⟨v,o,ho,hd⟩:=I.cell x c e;obtain⟨m,⟨o',es,ep,kT,wT,_⟩,_⟩:=I.loc;rw [z,kT]at ho;cases ho;rw [wT]at hd;cases hd
theorem Inv.funs(I:Inv X pins σ H s):s.heap.FunFrames X.base X.outer:=by
 have all:∀ (l:List Env),(∀ b∈cc l,b∈X.fs)->X.s_0.heap.FunFrames X.base l->s.heap.FunFrames X.base l:=by
  intro l
  induction l with
  |nil=>intro _ _;trivial
  |cons env r ih =>
   intro hs hl;obtain⟨hk,⟨L,o,hf,hn,ho,hd⟩,hr⟩:=hl;have hL:L∈X.fs:=hs L (by unfold cc;rw [zd,hf];exact cZ)
   obtain⟨sl,e⟩:=I.base.slot L o ho (I.ok.frf L hL) hL fun z=>I.ok.exfs L z hL;exact⟨hk,⟨L,_,hf,hn,e,hd⟩,ih (fun b hb=>hs b (by unfold cc;rw [zd,hf];exact dk _ hb)) hr⟩
 exact all X.outer (fun _ hb=>hb) I.ok.funs
theorem Inv.stack(I:Inv X pins σ H s):s.heap.FunFrames X.base X.stack:=by
 rcases I.ok.stk with e |⟨e,hf⟩
 ·rw [e];exact I.funs
 ·rw [e];obtain⟨m,hn,_⟩:=I.loc;refine .cons (by rw [I.ok.kind];decide) hf hn ?_ I.funs
  exact AN (iE I.ok.bsz I.ok.above)
theorem Inv.stkSub(I:Inv X pins σ H s):∀ b∈cc X.stack,b∈X.env.locals::X.fs:=fun b hb=>by
 rcases I.ok.stk with e |⟨e,hf⟩
 ·rw [e]at hb;exact dk _ hb
 ·rw [e]at hb;unfold cc at hb;rw [zd,hf]at hb;exact hb
theorem Inv.stkFree(I:Inv X pins σ H s):∀ b∈cc X.stack,H b=none:=fun b hb=>by
 rcases bw.mp (I.stkSub b hb)with e |hb
 ·rw [e];exact I.free
 ·obtain⟨_,o,ho,_⟩:=I.ok.funs.mem hb;exact I.base.free b o ho (I.ok.frf b hb) fun z=>I.ok.exfs b z hb
theorem Inv.step{g':Array GenState}{t':Nat}{d':Drawn}{ch:List Addr}(I:Inv X pins σ H s)
  (kR:∀ b∈ch,(b∈X.ex\/X.s_0.heap.objs.size<=b)/\b≠X.env.locals/\(∀ x c,X.env.cells.lookup x=some c->c≠b)/\∀ p∈X.pn++pins,p.1≠b)
  (keep:∀ b o,b≠X.env.locals->b∉X.fs->b∉ch->s.heap.get? b=some o->H b=none->h'.get? b=some o)
  (slot:∀ b o,b≠X.env.locals->b∈X.fs->b∉ch->s.heap.get? b=some o->H b=none->∃ sl,h'.get? b=some { o with slots:=sl })(free:∀ b o,b∉ch->s.heap.get? b=some o->H b=none->H' b=none)
  (there:∀ b o,b∉ch->s.heap.get? b=some o->∃ o',h'.get? b=some o')
  (tups:∀ b xs,H b=some (.tup xs)->H' b=some (.tup xs))(frzs:∀ b o u,H b=some (.frz o u)->H' b=some (.frz o u))(tbls:∀ b ps,H b=some (.tbl ps)->∃ c8,H' b=some (.tbl (ps++c8)))
  (ns:∀ m,s.heap.Ns X.env.locals m->h'.Ns X.env.locals m)(hok:HOk X.prog X.w H' h')(hg:AllBare g'):
  Inv X pins σ H' { s with heap:=h',gens:=g',drawn:=d',toks:=t' }:=by
 have Ad:∀ b o,X.s_0.heap.get? b=some o->b≠X.env.locals:=fun b o e=>eG (iD (cz e) I.ok.above);have xR:∀ b o,X.s_0.heap.get? b=some o->b∉X.ex->b∉ch:=fun b o e hx hb=>by
  rcases(kR b hb).1 with z |z
  ·exact hx z
  ·exact absurd (iD (cz e) z) (il _)
 have uV:∀ x c,X.env.cells.lookup x=some c->∀ v,s.heap.IsCell c v->h'.IsCell c v:=fun x c e v ⟨o,ho,hd⟩=>by
  have lT:c∉ch:=fun z=>(kR c z).2.2.1 x c e rfl;by_cases hc:c∈X.fs
  ·obtain⟨sl,q⟩:=slot c o (I.cne x c e) hc lT ho (I.freeC x c e);exact⟨_,q,hd⟩
  ·exact⟨o,keep c o (I.cne x c e) hc lT ho (I.freeC x c e),hd⟩
 refine⟨I.ok,I.os,hg,⟨fun b o e n hb hx=>?_,fun b o e n hb hx=>?_,fun b o e n hx=>?_,fun b o e hx=>?_,fun b xs e=>tups b xs (I.base.tups b xs e),fun b o xs e=>frzs b o xs (I.base.frzs b o xs e),fun b ps e=>?_⟩,?_,fun x c e=>?_,?_,fun x c e=>?_,fun p hp=>?_,hok,I.len⟩
 ·exact keep b o (Ad b o e) hb (xR b o e hx) (I.base.keep b o e n hb hx) (I.base.free b o e n hx)
 ·obtain⟨sl,e1⟩:=I.base.slot b o e n hb hx;obtain⟨tZ,e2⟩:=slot b _ (Ad b o e) hb (xR b o e hx) e1 (I.base.free b o e n hx);exact⟨tZ,e2⟩
 ·obtain⟨o',e1⟩:=I.base.there b o e hx;exact free b o' (xR b o e hx) e1 (I.base.free b o e n hx)
 ·obtain⟨o',e1⟩:=I.base.there b o e hx;exact there b o' (xR b o e hx) e1
 ·obtain⟨m1,e1⟩:=I.base.tbls b ps e;obtain⟨m2,e2⟩:=tbls b _ e1;exact⟨m1++m2,by rw [e2,Array.append_assoc]⟩
 ·obtain⟨m,hn,hl⟩:=I.loc;refine⟨m,ns m hn,fun i x v e1 e2 e3=>?_⟩;obtain⟨u,r,l⟩:=hl i x v e1 e2 e3;refine⟨u,r,?_⟩;rcases l with l |⟨k,c,e,z⟩
  ·exact .inl l
  ·exact .inr ⟨k,c,e,uV x c e _ z⟩
 ·obtain⟨v,z⟩:=I.cell x c e;exact⟨v,uV x c e v z⟩
 ·obtain⟨m,⟨o,_,_,ho,_⟩,_⟩:=I.loc;exact free _ o (fun z=>(kR _ z).2.1 rfl) ho I.free
 ·obtain⟨v,o,ho,hd⟩:=I.cell x c e;exact free c o (fun z=>(kR c z).2.2.1 x c e rfl) ho (I.freeC x c e)
 ·obtain⟨e,n,ne,nf,d⟩:=I.pin p hp;have lT:p.1∉ch:=fun z=>(kR p.1 z).2.2.2 p hp rfl;exact⟨keep p.1 p.2 ne nf lT e n,free p.1 p.2 lT e n,ne,nf,d⟩
theorem Inv.un{t':Nat}(I:Inv X pins σ H s)(u:Un X.fs [] H H' s.heap h')(hok:HOk X.prog X.w H' h'):Inv X pins σ H' { s with heap:=h',toks:=t' }:=by
 obtain⟨m,⟨o,es,ep,ho,r⟩,_⟩:=id I.loc;obtain⟨sl,hL⟩:=u.any ho I.free (by simp)
 exact I.step (g':=s.gens) (d':=s.drawn) (ch:=[]) (fun _ z=>nomatch z) (fun b o _ hb _ e n=>u.keep b o e n hb (by simp)) (fun b o _ hb _ e n=>u.slot b o e n hb (by simp)) (fun b o _ e n=>u.free b o e n (by simp)) (fun b o _ e=>u.there b o e (by simp)) u.tups u.frzs u.tbls (fun m' hm=>by
  obtain⟨o',FR,JJ,kT,r'⟩:=hm;rw [ho]at kT;cases kT;exact⟨_,FR,JJ,hL,r'⟩) hok I.bare
theorem Inv.call{g':Array GenState}{t':Nat}{d':Drawn}{ch:List Addr}(I:Inv X pins σ H s)(u:Un (cc X.stack) ch H H' s.heap h')(hok:HOk X.prog X.w H' h')(hg:AllBare g')
  (kR:∀ b∈ch,(b∈X.ex\/X.s_0.heap.objs.size<=b)/\b≠X.env.locals/\(∀ x c,X.env.cells.lookup x=some c->c≠b)/\∀ p∈X.pn++pins,p.1≠b):
  Inv X pins σ H' { s with heap:=h',gens:=g',drawn:=d',toks:=t' }:=by
 obtain⟨m,⟨o,es,ep,ho,r⟩,_⟩:=id I.loc;obtain⟨sl,hL⟩:=u.any ho I.free fun z=>(kR _ z).2.1 rfl;exact I.step (ch:=ch) kR (fun b o hL hb hc e n=>u.keep b o e n (fun z=>(bw.mp (I.stkSub b z)).elim hL hb) hc) (fun b o _ _ hc e n=>u.any e n hc) (fun b o hc e n=>u.free b o e n hc) (fun b o hc e=>u.there b o e hc) u.tups u.frzs u.tbls (fun m' hm=>by
  obtain⟨o',FR,JJ,kT,r'⟩:=hm;rw [ho]at kT;cases kT;exact⟨_,FR,JJ,hL,r'⟩) hok hg
theorem Inv.turned{t':Nat}{it:Addr}(I:Inv X pins σ H s)(k:∀ b o,b≠it->s.heap.get? b=some o->h'.get? b=some o)(hn:H it=none)(hL:it≠X.env.locals)
  (h1:it∈X.ex\/X.s_0.heap.objs.size<=it)(h2:∀ x c,X.env.cells.lookup x=some c->c≠it)(h3:∀ p∈X.pn++pins,p.1≠it):Inv X pins σ H { s with heap:=h',toks:=t' }:=by
 have vk:∀ b u,H b=some u->b≠it:=fun b u e z=>by rw [z,hn]at e;cases e
 refine I.step (g':=s.gens) (d':=s.drawn) (ch:=[it]) (fun b hb=>?_) (fun b o _ _ hc e _=>k b o (fun z=>hc (by simp [z])) e) (fun b o _ _ hc e _=>⟨o.slots,k b o (fun z=>hc (by simp [z])) e⟩) (fun _ _ _ _ n=>n)
  (fun b o hc e=>⟨o,k b o (fun z=>hc (by simp [z])) e⟩) (fun _ _ e=>e) (fun _ _ _ e=>e) (fun b ps e=>⟨#[],by rw [e];simp⟩) (fun m hm=>?_) (fun b u e=>?_) I.bare
 ·have e:b=it:=by simpa using hb
  subst e;exact⟨h1,hL,h2,h3⟩
 ·obtain⟨o,es,ep,ho,r⟩:=hm;exact⟨o,es,ep,k _ o (Ne.symm hL) ho,r⟩
 ·refine(I.hok b u e).stay (fun c v hc q=>k c v ?_ q) (fun _ q=>q) fun _ _ q=>q;rcases hc with z |z
  ·rw [z];exact vk b u e
  ·exact vk c _ z
theorem Inv.tok(I:Inv X pins σ H s)(t:Nat):Inv X pins σ H { s with toks:=t }:=I.un (h':=s.heap) (t':=t) Un.refl I.hok
theorem Inv.kept{t':Nat}(I:Inv X pins σ H s)(k:∀ b u,s.heap.get? b=some u->h'.get? b=some u):Inv X pins σ H { s with heap:=h',toks:=t' }:=I.un (Un.kept k) (I.hok.kept k)
theorem Inv.laid{a:Addr}{o:HO}{t':Nat}(I:Inv X pins σ H s)(k:∀ b u,s.heap.get? b=some u->h'.get? b=some u)(hp:s.heap.objs.size<=a)(new:ObjOk X.prog X.w (upd H a o) h' a o):
  Inv X pins σ (upd H a o) { s with heap:=h',toks:=t' }:=I.un (Un.laid k hp (I.hok.fresh hp)) (I.hok.laid k hp new)
theorem Inv.write{x e:Addr}{o:HO}{t':Nat}(I:Inv X pins σ H s)(mu:Ax (H x))(he:e=x\/H e=some (.own x))(k:∀ b u,b≠e->s.heap.get? b=some u->h'.get? b=some u)(zQ:∃ u,h'.get? e=some u)
  (new:ObjOk X.prog X.w (upd H x o) h' x o):Inv X pins σ (upd H x o) { s with heap:=h',toks:=t' }:=I.un (Un.write mu he k zQ) (I.hok.write mu he k zQ new)
theorem Inv.weak{σ':List (Option V)}(I:Inv X pins σ H s)(hl:σ'.length=σ.length)(w:∀ (i:Nat) v,σ'[i]?=some (some v)->σ[i]?=some (some v)):Inv X pins σ' H s:=
 ⟨I.ok,I.os,I.bare,I.base,by obtain⟨m,hn,Kv⟩:=I.loc;exact⟨m,hn,fun i x v e1 e2 e3=>Kv i x v e1 (w i v e2) e3⟩,I.cell,I.free,I.freeC,I.pin,I.hok,hl.trans I.len⟩
theorem Inv.pins_of{iT:List (Addr×Obj)}(I:Inv X pins σ H s)(h:∀ p∈iT,s.heap.get? p.1=some p.2/\H p.1=none/\p.1≠X.env.locals/\p.1∉X.fs/\∀ v,p.2.data≠.cell v):Inv X iT σ H s:=
 ⟨I.ok,I.os,I.bare,I.base,I.loc,I.cell,I.free,I.freeC,fun p hp=>(dz.mp hp).elim (fun z=>I.pin p (jY _ z)) (h p),I.hok,I.len⟩
theorem IB{N:List Str}(hN:N.Nodup){i j:Nat}{x:Str}(a:N[i]?=some x)(b:N[j]?=some x):i=j:=by
 obtain⟨h1,e1⟩:=eg.mp a;obtain⟨h2,e2⟩:=eg.mp b;exact(List.getElem_inj hN).mp (e1.trans e2.symm)
theorem ID{M:Model}{A:Around}{E:Value->Shared->Prop}{i:Nat}{x:Str}{v:V}{u:Value}{Q:Unit->Shared->Prop}(I:Inv X pins σ H s)(hN:X.N.Nodup)(hi:X.N[i]?=some x)(hx:ES X.env.scope x)(r:RelV v u)
  (h:∀ s',Inv X pins (σ.set i (some v)) H s'->(∃ a,Heap.SameBut a s.heap s'.heap/\(a=X.env.locals\/X.env.cells.lookup x=some a))->Q () s')(hf:autoParam (X.fn x=true\/X.env.scope.names.lookup x=some .local) aF._auto_1):wpAny M A (storeName X.env x u) Q E s:=by
 obtain⟨m,hn,hl⟩:=id I.loc;have wS:(X.env.scope.kind==.class ||(X.env.scope.kind==.module&&X.env.locals != X.env.globals))=false:=by rw [I.ok.kind];rfl
 have QP:i<σ.length:=by rw [I.len];exact(eg.mp hi).1
 have cne:=I.cne;have lv:∀ {a:Addr}{h':Heap},(∃ o,s.heap.get? a=some o/\H a=none)->Heap.SameBut a s.heap h'->HOk X.prog X.w H h':=fun{a h'} ha hs b ob e=>by
  obtain⟨_,_,eE⟩:=ha;refine(I.hok b ob e).stay (fun c w' hc q=>(hs.2 c ?_).trans q) (fun _ q=>q) fun _ _ q=>q;rintro rfl;rcases hc with rfl |hc
  ·rw [eE]at e;cases e
  ·rw [eE]at hc;cases hc
 rcases hx with hk |hk
 ·refine wpAny_storeName_local hk hn (fun h' QU hs=>?_) wS;obtain⟨oL,_,_,zT,_⟩:=id hn;refine h _ ⟨I.ok,I.os,I.bare,⟨fun b o e n hb hx=>?_,fun b o e n hb hx=>?_,I.base.free,fun b o e hx=>?_,I.base.tups,I.base.frzs,I.base.tbls⟩,⟨_,QU,fun j y v' e1 e2 e3=>?_⟩,fun y c e=>?_,I.free,I.freeC,fun p hp=>?_,lv ⟨oL,zT,I.free⟩ hs,by simpa using I.len⟩ ⟨_,hs,.inl rfl⟩
  ·exact(hs.2 b (eG (iD (cz e) I.ok.above))).trans (I.base.keep b o e n hb hx)
  ·obtain⟨sl,e1⟩:=I.base.slot b o e n hb hx;exact⟨sl,(hs.2 b (eG (iD (cz e) I.ok.above))).trans e1⟩
  ·obtain⟨o',e1⟩:=I.base.there b o e hx;exact⟨o',(hs.2 b (eG (iD (cz e) I.ok.above))).trans e1⟩
  ·by_cases hj:j=i
   ·subst hj;rw [hi]at e1;cases e1;rw [AO QP]at e2;cases e2;exact⟨u,r,.inl ⟨hk,by simp⟩⟩
   ·rw [EY (Ne.symm hj)]at e2;obtain⟨u',r',q⟩:=hl j y v' e1 e2 e3;refine⟨u',r',?_⟩;rcases q with⟨k,e⟩ |⟨k,c,e,z⟩
    ·refine .inl ⟨k,?_⟩;have:y≠x:=fun e=>hj (IB hN e1 (e ▸ hi));simp [this,e]
    ·exact .inr ⟨k,c,e,z.sameBut hs (cne y c e)⟩
  ·obtain⟨w',z⟩:=I.cell y c e;exact⟨w',z.sameBut hs (cne y c e)⟩
  ·obtain⟨e,n,ne,nf,d⟩:=I.pin p hp;exact⟨(hs.2 p.1 ne).trans e,n,ne,nf,d⟩
 ·have Cb:X.fn x=true:=by
   rcases hf with z |z
   ·exact z
   ·rw [z]at hk;cases hk
  obtain⟨c,hc⟩:=I.ok.has x (.inl hk);obtain⟨w',z⟩:=I.cell x c hc;refine wpAny_storeName_cell I.ok.kind hk hc z (fun h' QH hs=>?_);obtain⟨oc,QW,KL⟩:=id z;refine h { s with heap:=h' } ⟨I.ok,I.os,I.bare,⟨fun b o e n hb hx=>?_,fun b o e n hb hx=>?_,I.base.free,fun b o e hx=>?_,I.base.tups,I.base.frzs,I.base.tbls⟩,⟨m,hn.sameBut hs (Ne.symm (cne x c hc)),fun j y v' e1 e2 e3=>?_⟩,fun y c' e=>?_,I.free,I.freeC,fun p hp=>?_,lv ⟨oc,QW,I.freeC x c hc⟩ hs,by simpa using I.len⟩ ⟨c,hs,.inr hc⟩
  ·exact(hs.2 b (eG (iD (cz e) (I.ok.cab x c Cb hc)))).trans (I.base.keep b o e n hb hx)
  ·obtain⟨sl,e1⟩:=I.base.slot b o e n hb hx;exact⟨sl,(hs.2 b (eG (iD (cz e) (I.ok.cab x c Cb hc)))).trans e1⟩
  ·obtain⟨o',e1⟩:=I.base.there b o e hx;exact⟨o',(hs.2 b (eG (iD (cz e) (I.ok.cab x c Cb hc)))).trans e1⟩
  ·by_cases hj:j=i
   ·subst hj;rw [hi]at e1;cases e1;rw [AO QP]at e2;cases e2;exact⟨u,r,.inr ⟨.inl hk,c,hc,QH⟩⟩
   ·rw [EY (Ne.symm hj)]at e2;obtain⟨u',r',q⟩:=hl j y v' e1 e2 e3;refine⟨u',r',?_⟩;rcases q with q |⟨k,c',e,z'⟩
    ·exact .inl q
    ·refine .inr ⟨k,c',e,z'.sameBut hs ?_⟩;rintro rfl;exact hj (IB hN e1 (I.ok.inj _ _ _ e hc ▸ hi))
  ·by_cases QI:c'=c
   ·subst QI;exact⟨_,QH⟩
   ·obtain⟨w2,z2⟩:=I.cell y c' e;exact⟨w2,z2.sameBut hs QI⟩
  ·obtain⟨e,n,ne,nf,d⟩:=I.pin p hp;refine⟨(hs.2 p.1 ?_).trans e,n,ne,nf,d⟩;intro q;rw [q,QW]at e;have q':oc=p.2:=Option.some.inj e;exact d w' (by rw [<-q'];exact KL)
theorem Fn{M:Model}{A:Around}{E:Value->Shared->Prop}{i:Nat}{x:Str}{v:V}{u:Value}{Q:Unit->Shared->Prop}(I:Inv X pins σ H s)(hN:X.N.Nodup)(hi:X.N[i]?=some x)(hx:ES X.env.scope x)(r:RelV v u)
  (h:∀ s',Inv X pins (σ.set i (some v)) H s'->Q () s')(hf:autoParam (X.fn x=true\/X.env.scope.names.lookup x=some .local) aF._auto_1):wpAny M A (storeName X.env x u) Q E s:=
 ID I hN hi hx r (fun s' I' _=>h s' I') hf
theorem Inv.call'{s':Shared}{ch:List Addr}(I:Inv X pins σ H s)(ho:s'.os=s.os)(u:Un (cc X.stack) ch H H' s.heap s'.heap)(hok:HOk X.prog X.w H' s'.heap)(hg:AllBare s'.gens)
  (kR:∀ b∈ch,(b∈X.ex\/X.s_0.heap.objs.size<=b)/\b≠X.env.locals/\(∀ x c,X.env.cells.lookup x=some c->c≠b)/\∀ p∈X.pn++pins,p.1≠b):Inv X pins σ H' s':=by
 obtain⟨h',g',d',t',o'⟩:=s';have e:o'=s.os:=ho;subst e;exact I.call (g':=g') (t':=t') (d':=d') u hok hg kR
end
abbrev XK:=Value->Option Addr->Hp->Prop
abbrev St:=List (Option V)
abbrev VK:=V->Hp->Prop
abbrev TE:=St->Hp->VK->Prop
abbrev TT:=St->Hp->(Bool->Hp->Prop)->Prop
abbrev TA:=St->Hp->(List V->Hp->Prop)->Prop
structure dI where
 nx:St->Hp->Prop
 rt:VK
 bk:St->Hp->Prop:=fun _ _=>False
 ct:St->Hp->Prop:=fun _ _=>False
abbrev TS:=dI->St->Hp->Prop
def EP(X:Cx)(pins:List (Addr×Obj))(σ:St)(Q:VK)(u:Value)(s':Shared):Prop:=∃ v H',Inv X pins σ H' s'/\RelV v u/\Q v H'
def TP(X:Cx)(pins:List (Addr×Obj))(σ:St)(Q:Bool->Hp->Prop)(b:Bool)(s':Shared):Prop:=∃ H',Inv X pins σ H' s'/\Q b H'
def AP(X:Cx)(pins:List (Addr×Obj))(σ:St)(Q:List V->Hp->Prop)(us:List Value)(s':Shared):Prop:=∃ vs H',Inv X pins σ H' s'/\Vals vs us/\Q vs H'
def SP(X:Cx)(pins:List (Addr×Obj))(D:dI)(f:Flow)(s':Shared):Prop:=
 match f with
 |.next=>∃ σ' H',Inv X pins σ' H' s'/\D.nx σ' H'
 |.brk=>∃ σ' H',Inv X pins σ' H' s'/\D.bk σ' H'
 |.cont=>∃ σ' H',Inv X pins σ' H' s'/\D.ct σ' H'
 |.ret u=>∃ v σ' H',Inv X pins σ' H' s'/\RelV v u/\D.rt v H'
def PE(X:Cx)(e:Expr)(t:TE):Prop:=
 ∀ (pins:List (Addr×Obj))(s:Shared)(σ:St)(H:Hp)(Q:VK),Inv X pins σ H s->t σ H Q->wpAny (model X.prog X.w) X.A (eval e X.env) (EP X pins σ Q) X.xe s
def PT(X:Cx)(e:Expr)(t:TT):Prop:=
 ∀ (pins:List (Addr×Obj))(s:Shared)(σ:St)(H:Hp)(Q:Bool->Hp->Prop),Inv X pins σ H s->t σ H Q->wpAny (model X.prog X.w) X.A (isTrue e X.env (eval e X.env)) (TP X pins σ Q) X.xe s
def PW(X:Cx)(e:Expr)(t:TT):Prop:=
 ∀ (ii:Sem Value)(pins:List (Addr×Obj))(s:Shared)(σ:St)(H:Hp)(Q:Bool->Hp->Prop),Inv X pins σ H s->t σ H Q->wpAny (model X.prog X.w) X.A (isTrue e X.env ii) (TP X pins σ Q) X.xe s
theorem PW.pt{X:Cx}{e:Expr}{t:TT}(h:PW X e t):PT X e t:=h _
def PA(X:Cx)(es:List Expr)(t:TA):Prop:=
 ∀ (pos:Pos)(pins:List (Addr×Obj))(s:Shared)(σ:St)(H:Hp)(Q:List V->Hp->Prop),Inv X pins σ H s->t σ H Q->wpAny (model X.prog X.w) X.A (spliced (backTo pos (starEach es X.env))) (AP X pins σ Q) X.xe s
def PS(X:Cx)(st:Stmt)(t:TS):Prop:=
 ∀ (pins:List (Addr×Obj))(s:Shared)(σ:St)(H:Hp)(D:dI),Inv X pins σ H s->t D σ H->wpAny (model X.prog X.w) X.A (exec st X.env) (SP X pins D) X.xe s
def PSs(X:Cx)(st:List Stmt)(t:TS):Prop:=
 ∀ (pins:List (Addr×Obj))(s:Shared)(σ:St)(H:Hp)(D:dI),Inv X pins σ H s->t D σ H->wpAny (model X.prog X.w) X.A (execs st X.env) (SP X pins D) X.xe s
theorem aQ{α:Type}{t:Sem α}{Q Q':α->Shared->Prop}{M:Model}{A:Around}{E:Value->Shared->Prop}{s:Shared}(h:wpAny M A t Q E s)(hQ:∀ a s,Q a s->Q' a s):wpAny M A t Q' E s:=ax h hQ fun _ _ x=>x
end L2
namespace L2
open PySem PySem.Spec PyProof.Rows
section
variable{X:Cx}
theorem bin{a b:Expr}{ta tb:TE}(ha:PE X a ta)(hb:PE X b tb){pins:List (Addr×Obj)}{s:Shared}{σ:St}{H:Hp}{R:V->V->Hp->Prop}(I:Inv X pins σ H s)(h:ta σ H fun x H1=>tb σ H1 fun y H2=>R x y H2)
  {α:Type}{Q:α->Shared->Prop}{f:Value->Value->Sem α}
  (hf:∀ v u s2 x y H2,Inv X pins σ H2 s2->RelV x v->RelV y u->R x y H2->wpAny (model X.prog X.w) X.A (f v u) Q X.xe s2):
  wpAny (model X.prog X.w) X.A (eval a X.env) (fun v s₁=>wpAny (model X.prog X.w) X.A (eval b X.env) (fun u s₂=>wpAny (model X.prog X.w) X.A (f v u) Q X.xe s₂) X.xe s₁) X.xe s:=by
 refine aQ (ha pins s σ H _ I h) fun v s1 ⟨x,H1,I1,r1,q1⟩=>?_;refine aQ (hb pins s1 σ H1 _ I1 q1) fun u s2 ⟨y,H2,I2,r2,q2⟩=>?_;exact hf v u s2 x y H2 I2 r1 r2 q2
def EB(i:Nat):TE:=fun σ H Q=>∃ v,σ[i]?=some (some v)/\Q v H
def tC(v:V):TE:=fun _ H Q=>Q v H
theorem pf{i:Nat}{x:Str}{pos:Pos}(hN:X.N[i]?=some x)(hv:zb X.env.scope x)(hd:autoParam ((x==("__debug__":Str))=false) aD._auto_1)(ji:autoParam ((x==("__classdict__":Str))=false) aD._auto_1):PE X (.Name x pos) (EB i):=by
 intro pins s σ H Q I h;obtain⟨v,e,h⟩:=h;obtain⟨m,hn,hl⟩:=I.loc;obtain⟨u,r,l⟩:=hl i x v hN e hv;have fin:EP X pins σ Q u s:=⟨v,H,I,r,h⟩;rcases l with⟨hk,hm⟩ |⟨hk,c,hc,hcell⟩
 ·exact cp (aY I.ok.kind hk hn hm fin) hd
 ·rcases hk with hk |hk
  ·exact cp (wpAny_loadName_cell I.ok.kind hk hc hcell fin) hd
  ·exact cp (wpAny_loadName_free I.ok.kind hk hc hcell fin ji) hd
theorem bz{i j pos}:PE X (.Constant (.int i) j pos) (tC (.int i)):=fun _ _ _ H _ I h=>wpAny_Constant_int ⟨.int i,H,I.tok _,⟨_,rfl⟩,h⟩
theorem dG{b j pos}:PE X (.Constant (.bool b) j pos) (tC (.bl b)):=fun _ _ _ H _ I h=>Constant_bool ⟨.bl b,H,I,rfl,h⟩
def Gl(X:Cx)(x:Str):Prop:=X.env.kindOf x=some .globalImplicit
theorem mf{E:Value->Shared->Prop}{pins:List (Addr×Obj)}{s:Shared}{σ:St}{H:Hp}{x:Str}{u:Value}{pos:Pos}{Q:Value->Shared->Prop}(I:Inv X pins σ H s)(hg:Gl X x)(hm:X.mg x=some u)(h:Q u s)
  (hd:autoParam ((x==("__debug__":Str))=false) aD._auto_1):wpAny (model X.prog X.w) X.A (eval (.Name x pos) X.env) Q E s:=
 Calls.Name_function_global I.ok.kind hg (Calls.loadGlobal_global (by rw [I.ok.glob];exact I.mod.glob.keeps I.bk) hm h) hd
theorem Bl{E:Value->Shared->Prop}{pins:List (Addr×Obj)}{s:Shared}{σ:St}{H:Hp}{x:Str}{u:Value}{pos:Pos}{Q:Value->Shared->Prop}(I:Inv X pins σ H s)(hg:Gl X x)(hm:X.mg x=none)(hv:bootBuiltins x=some u)(h:Q u s)
  (hn:autoParam (x≠"__name__") aD._auto_1)(hd:autoParam ((x==("__debug__":Str))=false) aD._auto_1):wpAny (model X.prog X.w) X.A (eval (.Name x pos) X.env) Q E s:=by
 obtain⟨mb,h1,h2⟩:=I.mod.blt;exact Calls.Name_function_global I.ok.kind hg (Calls.loadGlobal_builtin (by rw [I.ok.glob];exact I.mod.glob.keeps I.bk) hm (by rw [I.ok.blt];exact h1.keeps I.bk) ((h2 x hn).trans hv) h) hd
theorem Bb{x:Str}{v:V}{u:Value}{pos:Pos}(hg:Gl X x)(hm:X.mg x=some u)(r:RelV v u)(hd:autoParam ((x==("__debug__":Str))=false) aD._auto_1):PE X (.Name x pos) (tC v):=
 fun _ _ _ H _ I h=>mf I hg hm ⟨v,H,I,r,h⟩ hd
variable{a b:Expr}{ta tb:TE}{pos:Pos}
def PC(X:Cx)(op:CmpOp)(a b:Expr)(t:TE):Prop:=
 ∀ (pins:List (Addr×Obj))(s:Shared)(σ:St)(H:Hp)(Q:VK),Inv X pins σ H s->t σ H Q ->
  wpAny (model X.prog X.w) X.A (eval a X.env) (fun v s₁=>wpAny (model X.prog X.w) X.A (eval b X.env) (fun u s₂=>wpAny (model X.prog X.w) X.A (compareOp op v u) (EP X pins σ Q) X.xe s₂) X.xe s₁) X.xe s
def tB(t:TE):TT:=fun σ H Q=>t σ H fun x H1=>∃ c,x=.bl c/\Q c H1
theorem FE{op:CmpOp}{t:TE}(h:PC X op a b t)(h1:behindInMarks op b=false:=by first |exact nobehind _ (by decide) (by decide) |rfl):PT X (.Compare a [op] [b] pos) (tB t):=by
 intro pins s σ H Q I hw;refine wpAny_isTrue_Compare1 (aQ (h pins s σ H _ I hw) fun v s1 h1=>aQ h1 fun u s2 h2=>aQ h2 fun c s3 ⟨x,H1,I1,r1,q1⟩=>?_) h1;obtain⟨d,rfl,q⟩:=q1;cases r1;exact di ⟨H1,I1,q⟩
theorem zF{e:Expr}{t:TE}(h:PE X e t)(he:autoParam (∀ ii,isTrue e X.env ii=(do let v <-ii;standAt e.pos;holding [v] (truthy v))) aI._auto_1):PT X e (tB t):=by
 intro pins s σ H Q I hw;refine isTrue_plain (aQ (h pins s σ H _ I hw) fun v s1 ⟨x,H1,I1,r1,q1⟩=>?_) (he _);obtain⟨d,rfl,q⟩:=q1;cases r1;exact di ⟨H1,I1,q⟩
variable{tA Gh:TT}{d9:List Expr}
def Mi(t u:TT):TT:=fun σ H Q=>t σ H fun c H1=>if c=true then u σ H1 Q else Q false H1
def tOr(t u:TT):TT:=fun σ H Q=>t σ H fun c H1=>if c=true then Q true H1 else u σ H1 Q
def Mq(t:TT):TT:=fun σ H Q=>t σ H fun c H1=>Q (!c) H1
theorem Fy(ha:PT X a tA):PW X (.BoolOp .And [a] pos) tA:=by
 intro wh pins s σ H Q I h;refine isTrue_and (aQ (ha pins s σ H Q I h) fun c s1 e=>?_);cases c with
 |true=>exact isTrue_and_nil e
 |false=>exact e
theorem FI(ha:PT X a tA):PW X (.BoolOp .Or [a] pos) tA:=by
 intro wh pins s σ H Q I h;refine isTrue_or (aQ (ha pins s σ H Q I h) fun c s1 e=>?_);cases c with
 |false=>exact isTrue_or_nil e
 |true=>exact e
theorem Bp(ha:PT X a tA)(hb:PW X (.BoolOp .And (b::d9) pos) Gh):PW X (.BoolOp .And (a::b::d9) pos) (Mi tA Gh):=by
 intro wh pins s σ H Q I h;refine isTrue_and (aQ (ha pins s σ H _ I h) fun c s1 ⟨H1,I1,q1⟩=>?_);cases c with
 |true=>exact hb wh pins s1 σ H1 Q I1 q1
 |false=>exact⟨H1,I1,q1⟩
theorem jA(ha:PT X a tA)(hb:PW X (.BoolOp .Or (b::d9) pos) Gh):PW X (.BoolOp .Or (a::b::d9) pos) (tOr tA Gh):=by
 intro wh pins s σ H Q I h;refine isTrue_or (aQ (ha pins s σ H _ I h) fun c s1 ⟨H1,I1,q1⟩=>?_);cases c with
 |true=>exact⟨H1,I1,q1⟩
 |false=>exact hb wh pins s1 σ H1 Q I1 q1
theorem Jl(ha:PT X a tA):PT X (.UnaryOp .Not a pos) (Mq tA):=by
 intro pins s σ H Q I h;exact isTrue_not (ha pins s σ H (fun c H1=>Q (!c) H1) I h)
def Eh(ta tb:TE):TE:=fun σ H Q=>ta σ H fun x H1=>∃ c,x=.bl c/\if c=true then tb σ H1 Q else Q (.bl false) H1
def Ev(ta:TE):TE:=fun σ H Q=>ta σ H fun x H1=>∃ c,x=.bl c/\Q (.bl (!c)) H1
theorem FJ{op}{t:TE}(h:PE X a t):PE X (.BoolOp op [a] pos) t:=fun pins s σ H Q I hw=>BoolOp_one (h pins s σ H Q I hw)
theorem Bj(ha:PE X a ta)(hb:PE X (.BoolOp .And (b::d9) pos) tb):PE X (.BoolOp .And (a::b::d9) pos) (Eh ta tb):=by
 intro pins s σ H Q I h;refine BoolOp_and (aQ (ha pins s σ H _ I h) fun v s1 ⟨x,H1,I1,r1,q1⟩=>?_);obtain⟨c,rfl,q1⟩:=q1;cases r1;refine di ?_;cases c with
 |true=>exact hb pins s1 σ H1 Q I1 q1
 |false=>exact⟨.bl false,H1,I1,rfl,q1⟩
theorem pb(ha:PE X a ta):PE X (.UnaryOp .Not a pos) (Ev ta):=by
 intro pins s σ H Q I h;refine UnaryOp_ (aQ (ha pins s σ H _ I h) fun v s1 ⟨x,H1,I1,r1,q1⟩=>?_);obtain⟨c,rfl,q1⟩:=q1;cases r1;exact not_of (di ⟨.bl (!c),H1,I1,rfl,q1⟩)
def tIf(t:TT)(ta tb:TE):TE:=fun σ H Q=>t σ H fun c H1=>if c=true then ta σ H1 Q else tb σ H1 Q
theorem oY{c:Expr}(hc:PT X c tA)(ha:PE X a ta)(hb:PE X b tb):PE X (.IfExp c a b pos) (tIf tA ta tb):=by
 intro pins s σ H Q I h;refine wpAny_IfExp (aQ (hc pins s σ H _ I h) fun d s1 ⟨H1,I1,q1⟩=>?_);cases d with
 |true=>exact ha pins s1 σ H1 Q I1 q1
 |false=>exact hb pins s1 σ H1 Q I1 q1
end
end L2
namespace L2
open PySem PySem.Spec PyProof.Rows
def SqL(K:aq)(H:Hp)(a:Addr)(xs:List V):Prop:=
 Rd H a (.lst xs) \/
  ∃ (o:Obj)(its:Array Value)(n:Nat),K.lookup a=some o/\o.cls=.type "list"/\o.dict=none/\o.data=.seq its n/\its.size<=sizeLine/\Vals xs its.toList
def SqT(K:aq)(H:Hp)(a:Addr)(xs:List V):Prop:=
 Rd H a (.tup xs) \/
  ∃ (o:Obj)(its:Array Value)(n:Nat),K.lookup a=some o/\o.cls=.type "tuple"/\o.data=.seq its n/\its.size<=sizeLine/\Vals xs its.toList
noncomputable def Jy:Value->Option V
 |.none=>some .non
 |.bool b=>some (.bl b)
 |.int i _=>some (.int i)
 |.str x _=>some (.str x)
 |.bytes b _=>some (.byt b)
 |.float b _=>some (.flt b)
 |.ref a=>some (.ref a)
 |.type n=>some (.ty n)
 |_=>none
theorem RelV.abs{x:V}{u:Value}(r:RelV x u):Jy u=some x:=by
 cases x with
 |non=>cases r;rfl
 |bl _=>cases r;rfl
 |int _=>obtain⟨t,rfl⟩:=r;rfl
 |str _=>obtain⟨t,rfl⟩:=r;rfl
 |byt _=>obtain⟨t,rfl⟩:=r;rfl
 |flt _=>obtain⟨t,rfl⟩:=r;rfl
 |ref _=>cases r;rfl
 |ty _=>cases r;rfl
theorem RelV.inj{x y:V}{u:Value}(r:RelV x u)(q:RelV y u):x=y:=Option.some.inj (r.abs.symm.trans q.abs)
theorem Vals.inj:∀ {xs ys:List V}{us:List Value},Vals xs us->Vals ys us->xs=ys
 |_,_,_,.nil,.nil=>rfl
 |_,_,_,.cons r t,.cons r' t'=>by rw [r.inj r',Vals.inj t t']
section
variable{X:Cx}{pins:List (Addr×Obj)}{σ:St}{H:Hp}{s:Shared}{a:Addr}{xs ys:List V}
theorem SqL.of{K:aq}(h:H a=some (.lst xs)):SqL K H a xs:=.inl (.inl h)
theorem SqT.of{K:aq}(h:H a=some (.tup xs)):SqT K H a xs:=.inl (.inl h)
theorem Inv.list(I:Inv X pins σ H s)(h:SqL X.K H a xs):∃ its:List Value,Vals xs its/\PlainL s.heap a its.toArray/\xs.length<=sizeLine:=by
 rcases h with h |⟨o,its,n,hk,hc,hd,hs,hz,r⟩
 ·obtain⟨z,its,n,r,e⟩:=h.ok I.hok;exact⟨its,r,⟨_,n,e,rfl,rfl,rfl⟩,z⟩
 ·refine⟨its.toList,r,⟨o,n,I.kIn a o hk,hc,hd,by simpa using hs⟩,?_⟩
  have e:=r.length;simp only [AL]at e;omega
theorem Inv.tuple(I:Inv X pins σ H s)(h:SqT X.K H a xs):∃ its:List Value,Vals xs its/\IsTup s.heap a its.toArray/\xs.length<=sizeLine:=by
 rcases h with h |⟨o,its,n,hk,hc,hs,hz,r⟩
 ·obtain⟨z,its,r,p⟩:=h.ok I.hok;exact⟨its,r,p,z⟩
 ·refine⟨its.toList,r,⟨o,I.kIn a o hk,hc,n,by simpa using hs⟩,?_⟩
  have e:=r.length;simp only [AL]at e;omega
theorem Inv.list_inj(I:Inv X pins σ H s)(h:SqL X.K H a xs)(h':SqL X.K H a ys):xs=ys:=by
 obtain⟨its,r,⟨o,n,e,_,_,d⟩,_⟩:=I.list h;obtain⟨its',r',⟨o',n',e',_,_,d'⟩,_⟩:=I.list h';rw [e]at e';cases e';rw [d]at d';injection d' with d1 _
 have:its=its':=by simpa using au Array.toList d1
 subst this;exact r.inj r'
theorem Inv.tuple_inj(I:Inv X pins σ H s)(h:SqT X.K H a xs)(h':SqT X.K H a ys):xs=ys:=by
 obtain⟨its,r,⟨o,e,_,n,d⟩,_⟩:=I.tuple h;obtain⟨its',r',⟨o',e',_,n',d'⟩,_⟩:=I.tuple h';rw [e]at e';cases e';rw [d]at d';injection d' with d1 _
 have:its=its':=by simpa using au Array.toList d1
 subst this;exact r.inj r'
end
abbrev Cx.wish(X:Cx)(E:Value->Shared->Prop):Cx:={ X with xe:=E }
abbrev Cx.nox(X:Cx):Cx:=X.wish fun _ _=>False
theorem Cx.Ok.wish{X:Cx}(ok:X.Ok)(E:Value->Shared->Prop):(X.wish E).Ok:=
 ⟨ok.mod,ok.kind,ok.glob,ok.blt,ok.above,ok.inj,ok.has,ok.cab,ok.hd,ok.frames,ok.stk,ok.exf,ok.bs,ok.bsz,ok.noex,ok.exfs,ok.funs,ok.frf⟩
theorem Cx.Ok.unwish{X:Cx}{E:Value->Shared->Prop}(ok:(X.wish E).Ok):X.Ok:=
 ⟨ok.mod,ok.kind,ok.glob,ok.blt,ok.above,ok.inj,ok.has,ok.cab,ok.hd,ok.frames,ok.stk,ok.exf,ok.bs,ok.bsz,ok.noex,ok.exfs,ok.funs,ok.frf⟩
section
variable{X:Cx}{pins:List (Addr×Obj)}{σ:St}{H:Hp}{s:Shared}{E:Value->Shared->Prop}
theorem Inv.wish(I:Inv X pins σ H s)(E:Value->Shared->Prop):Inv (X.wish E) pins σ H s:=⟨I.ok.wish E,I.os,I.bare,I.base,I.loc,I.cell,I.free,I.freeC,I.pin,I.hok,I.len⟩
theorem Inv.unwish(I:Inv (X.wish E) pins σ H s):Inv X pins σ H s:=⟨I.ok.unwish,I.os,I.bare,I.base,I.loc,I.cell,I.free,I.freeC,I.pin,I.hok,I.len⟩
theorem SP.unwish{D:dI}{f:Flow}{s':Shared}(h:SP (X.wish E) pins D f s'):SP X pins D f s':=by
 cases f with
 |next=>obtain⟨σ',H',I,q⟩:=h;exact⟨σ',H',I.unwish,q⟩
 |brk=>obtain⟨σ',H',I,q⟩:=h;exact⟨σ',H',I.unwish,q⟩
 |cont=>obtain⟨σ',H',I,q⟩:=h;exact⟨σ',H',I.unwish,q⟩
 |ret u=>obtain⟨v,σ',H',I,r,q⟩:=h;exact⟨v,σ',H',I.unwish,r,q⟩
theorem PSs.nox{st:List Stmt}{t:TS}(h:PSs X.nox st t):PSs X st t:=fun pins s σ H D I hw =>
 ax (h pins s σ H D (I.wish _) hw) (fun _ _ q=>q.unwish) fun _ _ z=>False.elim z
end
section
variable{X:Cx}{st:Stmt}{d9:List Stmt}{t u:TS}{e:Expr}{te:TE}{pos:Pos}
def Et:TS:=fun D σ H=>D.nx σ H
def Ms(t u:TS):TS:=fun D σ H=>t { D with nx:=u D } σ H
theorem io:PSs X [] Et:=fun _ _ σ H _ I h=>dW ⟨σ,H,I,h⟩
theorem aO(h1:PS X st t)(h2:PSs X d9 u):PSs X (st::d9) (Ms t u):=by
 intro pins s σ H D I h;refine cJ (aQ (h1 pins s σ H { D with nx:=u D } I h) fun f s1 q=>?_)
 cases f with
 |next =>
  obtain⟨σ',H',I',q⟩:=q;exact h2 pins s1 σ' H' D I' q
 |ret v=>exact q
 |brk=>exact q
 |cont=>exact q
theorem bh(h1:PS X st t):PSs X [st] t:=by
 intro pins s σ H D I h;refine cJ (aQ (h1 pins s σ H D I h) fun f s1 q=>?_);cases f with
 |next=>exact dW q
 |ret v=>exact q
 |brk=>exact q
 |cont=>exact q
theorem Inv.quiet{pins:List (Addr×Obj)}{σ:St}{H:Hp}{s:Shared}(I:Inv X pins σ H s):interactive X.env=false:=by simp [interactive,I.ok.kind]
def En(te:TE):TS:=fun D σ H=>te σ H fun _ H1=>D.nx σ H1
theorem gT(he:PE X e te)(hs:autoParam (swapsWith e none pos.line X.env=pure false) aR._auto_1):PS X (.Expr e pos) (En te):=by
 intro pins s σ H D I h;exact wpAny_Expr_any (aQ (he pins s σ H _ I h) fun v s1 ⟨x,H1,I1,r1,q1⟩=>⟨σ,H1,I1,q1⟩) I.quiet hs
def Mr(te:TE):TS:=fun D σ H=>te σ H D.rt
theorem dL(he:PE X e te):PS X (.Return (some e) pos) (Mr te):=by
 intro pins s σ H D I h;exact wpAny_Return_some (aQ (he pins s σ H _ I h) fun v s1 ⟨x,H1,I1,r1,q1⟩=>⟨x,σ,H1,I1,r1,q1⟩)
def Mo(c:TT)(t u:TS):TS:=fun D σ H=>c σ H fun b H1=>if b=true then t D σ H1 else u D σ H1
theorem b8{c:Expr}{a b:List Stmt}{tc:TT}(hc:PT X c tc)(ha:PSs X a t)(hb:PSs X b u):PS X (.If c a b pos) (Mo tc t u):=by
 intro pins s σ H D I h;refine wpAny_If (aQ (hc pins s σ H _ I h) fun d s1 ⟨H1,I1,q1⟩=>?_);cases d with
 |true=>exact ha pins s1 σ H1 D I1 q1
 |false=>exact hb pins s1 σ H1 D I1 q1
end
abbrev TG:=V->St->Hp->(St->Hp->Prop)->Prop
abbrev uF:=List V->St->Hp->(St->Hp->Prop)->Prop
def PG(X:Cx)(gm:Expr)(t:TG):Prop:=
 ∀ (pins:List (Addr×Obj))(s:Shared)(σ:St)(H:Hp)(v:V)(u:Value)(Q:St->Hp->Prop),Inv X pins σ H s->RelV v u->t v σ H Q ->
  wpAny (model X.prog X.w) X.A (assign gm X.env u) (fun _ s'=>∃ σ' H',Inv X pins σ' H' s'/\Q σ' H') X.xe s
def Az(X:Cx)(ts:List Expr)(t:uF):Prop:=
 ∀ (pins:List (Addr×Obj))(s:Shared)(σ:St)(H:Hp)(vs:List V)(us:List Value)(Q:St->Hp->Prop),Inv X pins σ H s->Vals vs us->t vs σ H Q ->
  wpAny (model X.prog X.w) X.A (assignInOrder ((assignEach ts X.env).map (·.2)) us) (fun _ s'=>∃ σ' H',Inv X pins σ' H' s'/\Q σ' H') X.xe s
abbrev mI:=V->V->V->Hp->(Hp->Prop)->Prop
def vP(X:Cx)(t:mI):Prop:=
 ∀ (pins:List (Addr×Obj))(s:Shared)(σ:St)(H:Hp)(o i v:V)(ov iv u:Value)(Q:Hp->Prop),Inv X pins σ H s->RelV o ov->RelV i iv->RelV v u->t o i v H Q ->
  wpAny (model X.prog X.w) X.A (setItem ov iv u) (fun _ s'=>∃ H',Inv X pins σ H' s'/\Q H') X.xe s
abbrev EV:=V->V->Hp->VK->Prop
def NC(X:Cx)(op:Operator)(t:EV):Prop:=
 ∀ (pins:List (Addr×Obj))(s:Shared)(σ:St)(H:Hp)(x y:V)(v u:Value)(Q:VK),Inv X pins σ H s->RelV x v->RelV y u->t x y H Q ->
  wpAny (model X.prog X.w) X.A (inplaceOp op v u) (EP X pins σ Q) X.xe s
section
variable{X:Cx}{pos:Pos}
def iI(i:Nat):TG:=fun v σ H Q=>Q (σ.set i (some v)) H
theorem eU{i:Nat}{x:Str}(hN:X.N.Nodup)(hi:X.N[i]?=some x)(hx:ES X.env.scope x)(hf:autoParam (X.fn x=true\/X.env.scope.names.lookup x=some .local) aF._auto_1):PG X (.Name x pos) (iI i):=by
 intro pins s σ H v u Q I r h;exact yW (Fn I hN hi hx r (fun s' I'=>⟨_,H,I',h⟩) hf)
def JS:uF:=fun vs σ H Q=>vs=[]/\Q σ H
def BN(t:TG)(u:uF):uF:=fun vs σ H Q=>∃ v r,vs=v::r/\t v σ H fun σ' H'=>u r σ' H' Q
theorem we:Az X [] JS:=by
 intro pins s σ H vs us Q I r h;obtain⟨e,h⟩:=h;subst e;cases r;exact assignInOrder_nil ⟨σ,H,I,h⟩
theorem kz{e:Expr}{es:List Expr}{t:TG}{u:uF}(h1:PG X e t)(h2:Az X es u)
  (hs:autoParam ((assignEach (e::es) X.env).map (·.2)=assign e X.env::(assignEach es X.env).map (·.2)) aR._auto_1):Az X (e::es) (BN t u):=by
 intro pins s σ H vs us Q I r h;obtain⟨v,vr,e1,h⟩:=h;subst e1;cases r with
 |cons r rr =>
  rw [hs];refine assignInOrder_cons (aQ (h1 pins s σ H _ _ _ I r h) fun _ s1 ⟨σ1,H1,I1,q1⟩=>?_);exact h2 pins s1 σ1 H1 _ _ Q I1 rr q1
def BO(K:aq)(n:Nat)(t:uF):TG:=fun v σ H Q=>∃ a xs,v=.ref a/\SqT K H a xs/\xs.length=n/\t xs σ H Q
theorem zB{es:List Expr}{k:Nat}{t:uF}{n:Nat}(hc:X.calm=true)(h:Az X es t)
  (hn:autoParam ((assignEach es X.env).length=n) aR._auto_1)(cq:autoParam ((assignEach es X.env).findIdx? (·.1)=none) aR._auto_1):PG X (.Tuple es k pos) (BO X.K n t):=by
 intro pins s σ H v u Q I r hw;obtain⟨a,xs,e1,hq,hl,hw⟩:=hw;subst e1;cases r;obtain⟨its,rv,ht,hz⟩:=I.tuple hq;refine assign_Tuple_tuple (I.ok.hd hc) ht (by simp [hn,<-hl,rv.length]) cq fun h' hx=>?_
 have I1:Inv X pins σ H { s with heap:=h' }:=I.kept (t':=s.toks) fun b o e=>hx b o (eG (cz e)) e
 exact h pins _ σ H xs _ Q I1 (by simpa using rv) hw
def JT(to ti:TE)(t:mI):TG:=fun v σ H Q=>to σ H fun o H1=>ti σ H1 fun i H2=>t o i v H2 fun H3=>Q σ H3
theorem yo{o i:Expr}{to ti:TE}{t:mI}(ho:PE X o to)(hi:PE X i ti)(hs:vP X t)
  (ha:autoParam (∀ v,assign (.Subscript o i pos) X.env v=(do
    let ov <-holding [v] (eval o X.env)
    let iv <-holding [v,ov] (eval i X.env)
    standAt pos
    holding [v,ov,iv] (setItem ov iv v)
    release [v,ov,iv] [])) aI._auto_1):PG X (.Subscript o i pos) (JT to ti t):=by
 intro pins s σ H v u Q I r h;rw [ha];refine aa (bx (aQ (ho pins s σ H _ I h) fun ov s1 ⟨x,H1,I1,r1,q1⟩=>?_));refine aa (bx (aQ (hi pins s1 σ H1 _ I1 q1) fun iv s2 ⟨y,H2,I2,r2,q2⟩=>?_));refine aa (bp (aa (bx (aQ (hs pins s2 σ H2 x y v ov iv u _ I2 r1 r2 r q2) fun _ s3 ⟨H3,I3,q3⟩=>?_))));exact wpAny_release ⟨σ,H3,I3,q3⟩
def uh(te:TE)(g:TG):TS:=fun D σ H=>te σ H fun x H1=>g x σ H1 D.nx
theorem yt{tg e:Expr}{te:TE}{g:TG}(he:PE X e te)(hg:PG X tg g)(hs:autoParam (swapsWithSole [tg] e pos.line X.env=pure false) aR._auto_1)(hw:autoParam (swappedStores [tg] e X.env=pure none) aR._auto_1)
  (h1:autoParam ((assignEach [tg] X.env).map (·.2)=[assign tg X.env]) aR._auto_1):PS X (.Assign [tg] e pos) (uh te g):=by
 intro pins s σ H D I h;refine wpAny_Assign_stores (aQ (he pins s σ H _ I h) fun v s1 ⟨x,H1,I1,r1,q1⟩=>?_) hs hw;rw [h1];exact aQ (hg pins s1 σ H1 x v _ I1 r1 q1) fun _ s2 q=>q
theorem dj{i:Nat}{x:Str}{e:Expr}{te:TE}{eX:Pos}(hN:X.N.Nodup)(hi:X.N[i]?=some x)(hx:ES X.env.scope x)(he:PE X e te)(hs:autoParam (swapsWith e (some (.Name x eX)) pos.line X.env=pure false) aR._auto_1)(hf:autoParam (X.fn x=true\/X.env.scope.names.lookup x=some .local) aF._auto_1):
  PS X (.Assign [.Name x eX] e pos) (uh te (iI i)):=by
 intro pins s σ H D I h;refine wpAny_Assign_Name (aQ (he pins s σ H _ I h) fun v s1 ⟨y,H1,I1,r1,q1⟩=>?_) hs;exact Fn I1 hN hi hx r1 (fun s2 I2=>⟨_,H1,I2,q1⟩) hf
def Ei(to ti te:TE)(uk:V->V->Hp->VK->Prop)(Gj:EV)(uv:mI):TS:=fun D σ H=>to σ H fun o H1=>ti σ H1 fun i H2=>uk o i H2 fun x H3=>te σ H3 fun y H4=>Gj x y H4 fun z H5=>uv o i z H5 fun H6=>D.nx σ H6
def Ay(X:Cx)(t:V->V->Hp->VK->Prop):Prop:=
 ∀ (pins:List (Addr×Obj))(s:Shared)(σ:St)(H:Hp)(o i:V)(ov iv:Value)(Q:VK),Inv X pins σ H s->RelV o ov->RelV i iv->t o i H Q ->
  wpAny (model X.prog X.w) X.A (getItem ov iv) (EP X pins σ Q) X.xe s
theorem O5{o i e:Expr}{to ti te:TE}{uk:V->V->Hp->VK->Prop}{Gj:EV}{uv:mI}{op:Operator}{dO:Pos}(ho:PE X o to)(hi:PE X i ti)(hg:Ay X uk)(he:PE X e te)(hp:NC X op Gj)(hs:vP X uv)
  (ha:∀ ov iv new,augStore i ov iv new=(do holding [new,ov,iv] (setItem ov iv new);release [new,ov,iv] [];pure .next):=by intros;rfl):PS X (.AugAssign (.Subscript o i dO) op e pos) (Ei to ti te uk Gj uv):=by
 intro pins s σ H D I h;refine wpAny_AugAssign_SubscriptAny (aQ (ho pins s σ H _ I h) fun ov s1 ⟨x1,H1,I1,r1,q1⟩=>?_) ha;refine aQ (hi pins s1 σ H1 _ I1 q1) fun iv s2 ⟨x2,H2,I2,r2,q2⟩=>?_;refine aQ (hg pins s2 σ H2 x1 x2 ov iv _ I2 r1 r2 q2) fun iu s3 ⟨x3,H3,I3,r3,q3⟩=>?_;refine aQ (he pins s3 σ H3 _ I3 q3) fun v s4 ⟨x4,H4,I4,r4,q4⟩=>?_;refine aQ (hp pins s4 σ H4 x3 x4 iu v _ I4 r3 r4 q4) fun new s5 ⟨x5,H5,I5,r5,q5⟩=>?_;exact aQ (hs pins s5 σ H5 x1 x2 x5 ov iv new _ I5 r1 r2 r5 q5) fun _ s6 ⟨H6,I6,q6⟩=>⟨σ,H6,I6,q6⟩
def ipI(f:Int->Int->Int):EV:=fun x y H Q=>∃ i j,x=.int i/\y=.int j/\Q (.int (f i j)) H
theorem ow:NC X .Add (ipI fun i j=>i+j):=by
 intro pins s σ H x y v u Q I r1 r2 h;obtain⟨i,j,e1,e2,q⟩:=h;subst e1;subst e2;obtain⟨t,rfl⟩:=r1;obtain⟨t',rfl⟩:=r2;exact iadd_int ⟨.int _,H,I.tok _,⟨_,rfl⟩,q⟩
end
section
variable{X:Cx}{pos:Pos}
def Jk(c:TT)(tb:TS):TS:=fun D σ H=>∃ W:Nat->St->Hp->Prop,(∃ m,W m σ H)/\∀ m σ H,W m σ H ->
 c σ H fun b H1=>if b=true then ∃ N:St->Hp->Prop,(∀ σ' H',N σ' H'->∃ m',m' < m/\W m' σ' H')/\tb { D with nx:=N,ct:=N,bk:=D.nx } σ H1 else D.nx σ H1
theorem Fq{c:Expr}{body:List Stmt}{tc:TT}{tb:TS}(hp:PassesOwn (model X.prog X.w) X.A X.env X.xe)(hc:PT X c tc)(hb:PSs X body tb):PS X (.While c body [] pos) (Jk tc tb):=by
 intro pins s σ H D I h;obtain⟨W,⟨m0,w0⟩,turn⟩:=h;refine wpAny_While (codeAny_whileLoop (fun n s'=>∃ σ' H',Inv X pins σ' H' s'/\W n σ' H') ?_ m0 ⟨σ,H,I,w0⟩);rintro n s1 ⟨σ1,H1,I1,w1⟩;refine cU hp (aQ (hc pins s1 σ1 H1 _ I1 (turn n σ1 H1 w1)) fun b s2 ⟨H2,I2,q2⟩=>?_);cases b with
 |true =>
  obtain⟨N,hN,q2⟩:=q2;rw [ae rfl];refine cU hp (aQ (hb pins s2 σ1 H2 _ I2 q2) fun f s3 q3=>?_);cases f with
  |next =>
   obtain⟨σ3,H3,I3,n3⟩:=q3;obtain⟨m',hm,w3⟩:=hN σ3 H3 n3;exact⟨m',hm,σ3,H3,I3,w3⟩
  |cont =>
   obtain⟨σ3,H3,I3,n3⟩:=q3;obtain⟨m',hm,w3⟩:=hN σ3 H3 n3;exact⟨m',hm,σ3,H3,I3,w3⟩
  |brk=>exact q3
  |ret v=>exact q3
 |false =>
  rw [ac fi];exact dW ⟨σ1,H2,I2,q2⟩
end
structure It where
 go:Nat->Hp->Prop
 yld:Nat->Hp->V->Hp->Prop
 stop:Nat->Hp->Prop
def eN(X:Cx)(pins:List (Addr×Obj))(H:Hp)(b:Addr):Prop:=
 H b=none/\b≠X.env.locals/\b∉X.fs/\(b∈X.ex\/X.s_0.heap.objs.size<=b)/\(∀ x c,X.env.cells.lookup x=some c->c≠b)/\∀ p∈X.pn++pins,p.1≠b
theorem Inv.fpOk{X:Cx}{pins:List (Addr×Obj)}{σ:St}{H H':Hp}{s:Shared}{b:Addr}(I:Inv X pins σ H s)(hb:s.heap.objs.size<=b)(hn:H' b=none):eN X pins H' b:=by
 refine⟨hn,ko (iD I.lt hb),I.nofs hb,.inr (iE I.sz hb),fun x c e z=>?_,fun p hp z=>?_⟩
 ·obtain⟨v,q⟩:=I.cell x c e;exact absurd (iD q.lt (by rw [z];exact hb)) (il _)
 ·exact absurd (iD (cz (I.pin p hp).1) (by rw [z];exact hb)) (il _)
structure iZ(P:Program)(w:World)(K:aq)(tg:Expr)(J:It)(fp:List Addr)(it:Addr)(tn:Nat->Heap->Prop):Prop where
 mem:it∈fp
 obj:∀ i h,tn i h->∀ b∈fp,∃ o,h.get? b=some o/\∀ v,o.data≠.cell v
 keep:∀ i h h',tn i h->(∀ b∈fp,∀ o,h.get? b=some o->h'.get? b=some o)->tn i h'
 item:∀ (X:Cx),X.prog=P->X.w=w->X.K=K->X.calm=true->∀ (i:Nat)(pins:List (Addr×Obj))(s:Shared)(σ:St)(H:Hp)(E:Value->Shared->Prop),Inv X pins σ H s->(∀ b∈fp,eN X pins H b)->tn i s.heap->J.go i H ->
  wpAny (model P w) X.A (pyNext (.ref it)) (fun r s1=>∃ u,r=some u /\
   wpAny (model P w) X.A (letOwnedTupleGo tg (.ref it) u) (fun _ s2=>∃ x H',Inv X pins σ H' s2/\RelV x u/\J.yld i H x H'/\tn (i+1) s2.heap/\∀ b∈fp,H' b=none) E s1) E s
 done:∀ (X:Cx),X.prog=P->X.w=w->X.K=K->X.calm=true->∀ (i:Nat)(pins:List (Addr×Obj))(s:Shared)(σ:St)(H:Hp)(E:Value->Shared->Prop),Inv X pins σ H s->(∀ b∈fp,eN X pins H b)->tn i s.heap->J.stop i H ->
  wpAny (model P w) X.A (pyNext (.ref it)) (fun r s1=>r=none/\Inv X pins σ H s1) E s
 self:∀ (A:Around)(i:Nat)(s:Shared)(Q:Value->Shared->Prop)(E:Value->Shared->Prop),tn i s.heap->Q (.ref it) s->wpAny (model P w) A (pyIter (.ref it)) Q E s
abbrev TI:=St->Hp->(It->Hp->Prop)->Prop
def ET(X:Cx)(pins:List (Addr×Obj))(σ:St)(tg:Expr)(R:It->Hp->Prop)(F2:Value)(s2:Shared):Prop:=
 ∃ (it:Addr)(fp:List Addr)(tn:Nat->Heap->Prop)(J:It)(H':Hp),F2=.ref it/\Inv X pins σ H' s2/\iZ X.prog X.w X.K tg J fp it tn/\tn 0 s2.heap/\(∀ b∈fp,eN X pins H' b)/\R J H'
def PI(X:Cx)(tg iter:Expr)(wi:TI):Prop:=
 ∀ (pins:List (Addr×Obj))(s:Shared)(σ:St)(H:Hp)(R:It->Hp->Prop),Inv X pins σ H s->wi σ H R ->
  wpAny (model X.prog X.w) X.A (eval iter X.env) (fun v s1=>wpAny (model X.prog X.w) X.A (pyIter v) (ET X pins σ tg R) X.xe s1) X.xe s
theorem kN{M:Model}{A:Around}{E:Value->Shared->Prop}{s:Shared}{tg:Expr}{it:Addr}{u:Value}{o:Obj}{n:String}{vs:Array Value}{Q:Unit->Shared->Prop}(ho:s.heap.get? it=some o)(hc:o.cls=.type n)(hd:o.data=.fields vs)
  (hn:["enumerate","zip","dict_itemiterator","dict_reverseitemiterator","odict_iterator","itertools.zip_longest","itertools.pairwise"].contains n=false)(hQ:Q () s):wpAny M A (letOwnedTupleGo tg (.ref it) u) Q E s:=by
 unfold letOwnedTupleGo;cases tg<;>first
  |exact af hQ
  |(cases u<;>first
     |exact af hQ
     |(refine aa (wpAny_load ho ?_)
       rw [hc,hd];show wpAny M A (if (["enumerate","zip","dict_itemiterator","dict_reverseitemiterator","odict_iterator","itertools.zip_longest","itertools.pairwise"].contains n&&vs[0]?==some (rawInt _))=true then _ else _) Q E s;rw [ac (by intro h;rw [hn,Bool.false_and]at h;cases h)]
       exact af hQ))
def uA(K:aq)(a:Addr):It:=
 ⟨fun i H=>∃ xs x,SqL K H a xs/\xs[i]?=some x,fun i H x H'=>H'=H/\∀ xs,SqL K H a xs->xs[i]?=some x,fun i H=>∃ xs,SqL K H a xs/\xs.length<=i⟩
def At(K:aq)(a:Addr):It:=
 ⟨fun i H=>∃ xs x,SqT K H a xs/\xs[i]?=some x,fun i H x H'=>H'=H/\∀ xs,SqT K H a xs->xs[i]?=some x,fun i H=>∃ xs,SqT K H a xs/\xs.length<=i⟩
def qR(lo:Int)(n:Nat):It:=⟨fun i _=>i<n,fun i H x H'=>H'=H/\x=.int (lo+i),fun i _=>n<=i⟩
theorem ZbD{P:Program}{w:World}{K:aq}{tg:Expr}(a it:Addr):iZ P w K tg (uA K a) [it] it (fun i h=>h.IsListIter it a i) where
 mem:=by simp
 obj:=fun i h st b hb=>by
  have e:b=it:=by simpa using hb
  subst e;obtain⟨o,e,c,d⟩:=st;exact⟨o,e,fun v z=>by rw [d]at z;cases z⟩
 keep:=fun i h h' st k=>st.at fun o e=>k it (by simp) o e
 item:=by
  intro X hP hw hK hc i pins s σ H E I hf st hg;subst hP hw hK;obtain⟨xs,x,hq,hx⟩:=hg;obtain⟨its,rv,p,hz⟩:=I.list hq;obtain⟨u,hu,ru⟩:=rv.get hx;obtain⟨f0,f1,f2,f3,f4,f5⟩:=hf it (by simp)
  refine wpAny_pyNext_list_item st p.isList (x:=u) (by simpa using hu) fun h' jG sb=>?_
  have I1:Inv X pins σ H { s with heap:=h' }:=I.turned (t':=s.toks) (fun b o hb e=>(sb.2 b hb).trans e) f0 f1 f3 f4 f5
  obtain⟨o,e,c,d⟩:=id jG;exact⟨u,rfl,kN (s:={ s with heap:=h' }) e c d (by decide) ⟨x,H,I1,ru,⟨rfl,fun ys hy=>by rw [I.list_inj hy hq];exact hx⟩,jG,fun b hb=>(hf b hb).1⟩⟩
 done:=by
  intro X hP hw hK hc i pins s σ H E I hf st hg;subst hP hw hK;obtain⟨xs,hq,hx⟩:=hg;obtain⟨its,rv,p,hz⟩:=I.list hq;obtain⟨f0,f1,f2,f3,f4,f5⟩:=hf it (by simp)
  have hl:=rv.length;exact wpAny_pyNext_list_end (I.ok.hd hc) st p.isList (by simp;omega) fun h' eb=>⟨rfl,I.turned (t':=s.toks) (fun b o hb e=>eb b o hb e) f0 f1 f3 f4 f5⟩
 self:=fun _ _ _ _ _ st h=>wpAny_pyIter_listiter st h
theorem Zbf{P:Program}{w:World}{K:aq}{tg:Expr}(a it:Addr):iZ P w K tg (At K a) [it] it (fun i h=>h.IsTupleIter it a i) where
 mem:=by simp
 obj:=fun i h st b hb=>by
  have e:b=it:=by simpa using hb
  subst e;obtain⟨o,e,c,d⟩:=st;exact⟨o,e,fun v z=>by rw [d]at z;cases z⟩
 keep:=fun i h h' st k=>st.at fun o e=>k it (by simp) o e
 item:=by
  intro X hP hw hK hc i pins s σ H E I hf st hg;subst hP hw hK;obtain⟨xs,x,hq,hx⟩:=hg;obtain⟨its,rv,p,hz⟩:=I.tuple hq;obtain⟨u,hu,ru⟩:=rv.get hx;obtain⟨f0,f1,f2,f3,f4,f5⟩:=hf it (by simp)
  refine wpAny_pyNext_tuple_item st (show s.heap.IsTuple a its.toArray from p) (x:=u) (by simpa using hu) fun h' jG sb=>?_
  have I1:Inv X pins σ H { s with heap:=h' }:=I.turned (t':=s.toks) (fun b o hb e=>(sb.2 b hb).trans e) f0 f1 f3 f4 f5
  obtain⟨o,e,c,d⟩:=id jG;exact⟨u,rfl,kN (s:={ s with heap:=h' }) e c d (by decide) ⟨x,H,I1,ru,⟨rfl,fun ys hy=>by rw [I.tuple_inj hy hq];exact hx⟩,jG,fun b hb=>(hf b hb).1⟩⟩
 done:=by
  intro X hP hw hK hc i pins s σ H E I hf st hg;subst hP hw hK;obtain⟨xs,hq,hx⟩:=hg;obtain⟨its,rv,p,hz⟩:=I.tuple hq;obtain⟨f0,f1,f2,f3,f4,f5⟩:=hf it (by simp)
  have hl:=rv.length;exact wpAny_pyNext_tuple_end (I.ok.hd hc) st (show s.heap.IsTuple a its.toArray from p) (by simp;omega) fun h' eb=>⟨rfl,I.turned (t':=s.toks) (fun b o hb e=>eb b o hb e) f0 f1 f3 f4 f5⟩
 self:=fun _ _ _ _ _ st h=>wpAny_pyIter_tupleiter st h
theorem ZaW{P:Program}{w:World}{K:aq}{tg:Expr}(it:Addr)(lo:Int)(n:Nat):iZ P w K tg (qR lo n) [it] it (fun i h=>IsRangeIter h it (lo+(i:Nat)*1) ((n:Int)-(i:Nat)) 1) where
 mem:=by simp
 obj:=fun i h st b hb=>by
  have e:b=it:=by simpa using hb
  subst e;exact⟨_,st,fun v z=>by
   have z':Data.fields _=Data.cell v:=z;cases z'⟩
 keep:=fun i h h' st k=>k it (by simp) _ st
 item:=by
  intro X hP hw hK hc i pins s σ H E I hf st hg;subst hP hw hK;obtain⟨f0,f1,f2,f3,f4,f5⟩:=hf it (by simp)
  have W:=Walks.range (prog:=X.prog) (w:=X.w) (I.ok.hd hc) it lo 1 n;refine W.item i s _ _ hg st fun v h' tk hv jG kk=>?_;obtain⟨t,rfl⟩:=hv;have I1:Inv X pins σ H { s with heap:=h',toks:=tk }:=I.turned (fun b o hb e=>kk b o (by simpa using hb) e) f0 f1 f3 f4 f5
  refine⟨_,rfl,kN (s:={ s with heap:=h',toks:=tk }) (n:="range_iterator") jG rfl rfl (by decide) ⟨.int (lo+i),H,I1,⟨t,?_⟩,⟨rfl,rfl⟩,jG,fun b hb=>(hf b hb).1⟩⟩
  rw [Int.mul_one]
 done:=by
  intro X hP hw hK hc i pins s σ H E I hf st hg;subst hP hw hK;obtain⟨f0,f1,f2,f3,f4,f5⟩:=hf it (by simp)
  exact wpAny_pyNext_range_end (I.ok.hd hc) st (by have:n<=i:=hg;omega) fun h' eb=>⟨rfl,I.turned (t':=s.toks) (fun b o hb e=>eb b o hb e) f0 f1 f3 f4 f5⟩
 self:=fun _ _ _ _ _ st h=>wpAny_pyIter_rangeiter st h
end L2
namespace L2
open PySem PySem.Spec PyProof.Rows
section
variable{X:Cx}{tg:Expr}
def ve(K:aq)(tl:TE):TI:=fun σ H R=>tl σ H fun x H1=>∃ a,x=.ref a/\(∃ xs,SqL K H1 a xs)/\R (uA K a) H1
def Lc(K:aq)(tl:TE):TI:=fun σ H R=>tl σ H fun x H1=>∃ a,x=.ref a/\(∃ xs,SqT K H1 a xs)/\R (At K a) H1
theorem qy{l:Expr}{tl:TE}(hl:PE X l tl):PI X tg l (ve X.K tl):=by
 intro pins s σ H R I h;refine aQ (hl pins s σ H _ I h) fun v s1 ⟨x,H1,I1,r1,q1⟩=>?_;obtain⟨a,e,⟨xs,hq⟩,q⟩:=q1;subst e;cases r1;obtain⟨its,rv,p,hz⟩:=I1.list hq;refine wpAny_pyIter_list p.isList ?_;refine⟨s1.heap.objs.size,[s1.heap.objs.size],_,_,H1,rfl,I1.kept (t':=s1.toks) fun b o e=>dE _ e,ZbD a _,⟨_,fj _ rfl,rfl,rfl⟩,fun b hb=>?_,q⟩;have e:b=s1.heap.objs.size:=by simpa using hb
 subst e;exact I1.fpOk (bO _) (I1.hok.fresh (bO _))
theorem pw{l:Expr}{tl:TE}(hl:PE X l tl):PI X tg l (Lc X.K tl):=by
 intro pins s σ H R I h;refine aQ (hl pins s σ H _ I h) fun v s1 ⟨x,H1,I1,r1,q1⟩=>?_;obtain⟨a,e,⟨xs,hq⟩,q⟩:=q1;subst e;cases r1;obtain⟨its,rv,p,hz⟩:=I1.tuple hq;refine wpAny_pyIter_tuple (show s1.heap.IsTuple a its.toArray from p) ?_;refine⟨s1.heap.objs.size,[s1.heap.objs.size],_,_,H1,rfl,I1.kept (t':=s1.toks) fun b o e=>dE _ e,Zbf a _,⟨_,fj _ rfl,rfl,rfl⟩,fun b hb=>?_,q⟩;have e:b=s1.heap.objs.size:=by simpa using hb
 subst e;exact I1.fpOk (bO _) (I1.hok.fresh (bO _))
theorem pE{pins:List (Addr×Obj)}{σ:St}{H:Hp}{s:Shared}{R:It->Hp->Prop}{E:Value->Shared->Prop}{lo hi:Int}{t u v:Tok}{tk:Nat}(I:Inv X pins σ H s)(h1:-(2 ^ 62)<=lo)(h2:lo<2 ^ 62)(h3:-(2 ^ 62)<=hi)(h4:hi<2 ^ 62)
  (q:R (qR lo (hi-lo).toNat) H):wpAny (model X.prog X.w) X.A (pyIter (.ref s.heap.objs.size)) (ET X pins σ tg R) E { s with heap:=s.heap.push { cls:=.type "range",data:=.fields #[.int lo t,.int hi u,.int 1 v] },toks:=tk }:=by
 refine wpAny_pyIter_range (IsRange.new ..) (small_one h1 h2 h3 h4) ?_;have I1:Inv X pins σ H { s with heap:=s.heap.push { cls:=.type "range",data:=.fields #[.int lo t,.int hi u,.int 1 v] },toks:=tk }:=I.kept fun b o e=>dE _ e
 refine⟨(s.heap.push { cls:=.type "range",data:=.fields #[.int lo t,.int hi u,.int 1 v] }).objs.size,[(s.heap.push { cls:=.type "range",data:=.fields #[.int lo t,.int hi u,.int 1 v] }).objs.size],_,_,H,rfl,
  I1.kept (t':=tk) fun b o e=>dE _ e,ZaW _ lo (hi-lo).toNat,?_,fun b hb=>?_,q⟩
 ·have e1:lo+((0:Nat):Int)*1=lo:=by simp
  have e2:(((hi-lo).toNat:Nat):Int)-((0:Nat):Int)=Builtin.Range.rangeSize lo hi 1:=by rw [rangeSize_one];split<;>omega
  show IsRangeIter _ _ (lo+((0:Nat):Int)*1) ((((hi-lo).toNat:Nat):Int)-((0:Nat):Int)) 1;rw [e1,e2];exact fj _ rfl
 ·have e:b=(s.heap.push { cls:=.type "range",data:=.fields #[.int lo t,.int hi u,.int 1 v] }).objs.size:=by simpa using hb
  subst e;exact I1.fpOk (bO _) (I1.hok.fresh (bO _))
def CP(ta:TA):TI:=fun σ H R=>ta σ H fun vs H1=>∃ j:Int,vs=[.int j]/\-(2 ^ 62)<=j/\j<2 ^ 62/\R (qR 0 j.toNat) H1
theorem AZ{a:Expr}{ta:TA}{p pos:Pos}(hg:Gl X "range")(hm:X.mg "range" = none)(ha:PA X [a] ta)(hs:autoParam (starEach [a] X.env=[(false,eval a X.env)]) aR._auto_1):PI X tg (.Call (.Name "range" p) [a] [] pos) (CP ta):=by
 intro pins s σ H R I h;refine Call_ (Bl I hg hm boot_range (PyProof.Rows.callWith_type1 (aQ (ha pos pins s σ H _ I h) fun us s1 ⟨vs,H1,I1,r1,q1⟩=>?_) hs rfl));obtain⟨j,e,q1,q2,q⟩:=q1;subst e;cases r1 with
 |cons r rr =>
  cases rr;obtain⟨t,rfl⟩:=r;exact call_range_1 (pE I1 (by omega) (by omega) q1 q2 (by simpa using q))
def Mn(wi:TI)(g:TG)(tb:TS):TS:=fun D σ H=>wi σ H fun J H1=>∃ W:Nat->Nat->St->Hp->Prop,(∃ m,W 0 m σ H1)/\∀ i m σ H,W i m σ H ->
 (J.stop i H/\D.nx σ H)\/(J.go i H/\∃ N:St->Hp->Prop,(∀ σ' H',N σ' H'->∃ m',m' < m/\W (i+1) m' σ' H')/\∀ x H',J.yld i H x H'->g x σ H' fun σ2 H2=>tb { D with nx:=N,ct:=N,bk:=D.nx } σ2 H2)
def zD(fp:List Addr)(h:Heap):List (Addr×Obj):=fp.filterMap fun b=>(h.get? b).map fun o=>(b,o)
theorem Fg{fp:List Addr}{h:Heap}{b:Addr}{o:Obj}(hb:b∈fp)(e:h.get? b=some o):(b,o)∈zD fp h:=List.mem_filterMap.mpr ⟨b,hb,by rw [e];rfl⟩
theorem ZbK{fp:List Addr}{h:Heap}{p:Addr×Obj}(hp:p∈zD fp h):p.1∈fp/\h.get? p.1=some p.2:=by
 obtain⟨b,hb,e⟩:=List.mem_filterMap.mp hp;cases q:h.get? b with
 |none=>rw [q]at e;cases e
 |some o =>
  rw [q]at e;have e':(b,o)=p:=Option.some.inj e;subst e';exact⟨hb,q⟩
theorem Inv.pinned{pins:List (Addr×Obj)}{σ:St}{H:Hp}{s:Shared}{fp:List Addr}(I:Inv X pins σ H s)(hf:∀ b∈fp,eN X pins H b)(ho:∀ b∈fp,∃ o,s.heap.get? b=some o/\∀ v,o.data≠.cell v):Inv X (pins++zD fp s.heap) σ H s:=
 I.pins_of fun p hp=>(dz.mp hp).elim (fun z=>I.pin p (kq _ z)) fun z=>by
  obtain⟨hb,e⟩:=ZbK z;obtain⟨f0,f1,f2,_⟩:=hf p.1 hb;obtain⟨o,e',d⟩:=ho p.1 hb;rw [e]at e';cases e';exact⟨e,f0,f1,f2,d⟩
theorem Inv.unpinned{pins pl:List (Addr×Obj)}{σ:St}{H:Hp}{s:Shared}(I:Inv X (pins++pl) σ H s):Inv X pins σ H s:=I.pins_of fun p hp=>I.pin p (kq _ (jY _ hp))
theorem lI{iter:Expr}{body:List Stmt}{wi:TI}{g:TG}{tb:TS}{pos:Pos}(hp:PassesOwn (model X.prog X.w) X.A X.env X.xe)(hc:X.calm=true)(hi:PI X tg iter wi)(hg:PG X tg g)(hb:PSs X body tb)
  (hs:autoParam (∀ x,foldedSetIterable iter X.env x=pure x) aI._auto_1):PS X (.For tg iter body [] pos) (Mn wi g tb):=by
 intro pins s σ H D I h;refine wpAny_For (aQ (hi pins s σ H _ I h) fun v s1 h1=>aQ h1 fun F2 s2 h2=>?_) hs;obtain⟨it,fp,tn,J,H2,e,I2,T,uc,f2,W,⟨m0,w0⟩,turn⟩:=h2;subst e;have ie:∀ {H':Hp},(∀ b∈fp,H' b=none)->∀ b∈fp,eN X pins H' b:=fun hn b hb=>⟨hn b hb,(f2 b hb).2⟩;refine codeAny_forLoop_any (fun n s'=>∃ i σ' H',Inv X pins σ' H' s'/\tn i s'.heap/\(∀ b∈fp,H' b=none)/\W i n σ' H') ?_ m0 ⟨0,σ,H2,I2,uc,fun b hb=>(f2 b hb).1,w0⟩;rintro n s3 ⟨i,σ3,H3,I3,Aj,BL,w3⟩;rcases turn i n σ3 H3 w3 with⟨stop,qn⟩ |⟨go,N,hN,step⟩
 ·refine cU hp (aQ (T.done X rfl rfl rfl hc i pins s3 σ3 H3 X.xe I3 (ie BL) Aj stop) fun r s4 ⟨hr,I4⟩=>?_);subst hr;exact dW ⟨σ3,H3,I4,qn⟩
 ·refine cU hp (aQ (T.item X rfl rfl rfl hc i pins s3 σ3 H3 X.xe I3 (ie BL) Aj go) fun r s4 ⟨u,hr,h4⟩=>?_);subst hr;refine cU hp (aQ h4 fun _ s5 zz=>?_);obtain⟨x,H5,I5,r5,y5,ue,fr5⟩:=zz;have I5':=I5.pinned (ie fr5) (T.obj _ _ ue);refine cU hp (aQ (hg _ s5 σ3 H5 x u _ I5' r5 (step x H5 y5)) fun _ s6 ⟨σ6,H6,I6,q6⟩=>?_);refine cU hp (aQ (hb _ s6 σ6 H6 _ I6 q6) fun f s7 q7=>?_);have again:∀ {σ7:St}{H7:Hp},Inv X (pins++zD fp s5.heap) σ7 H7 s7->N σ7 H7->∃ m,m<n/\∃ i σ' H',Inv X pins σ' H' s7/\tn i s7.heap/\(∀ b∈fp,H' b=none)/\W i m σ' H':=fun{σ7 H7} I7 n7=>by
   obtain⟨m',hm,w7⟩:=hN σ7 H7 n7;refine⟨m',hm,i+1,σ7,H7,I7.unpinned,T.keep _ _ _ ue fun b hb o e=>(I7.pin (b,o) (kq _ (kq _ (Fg hb e)))).1,fun b hb=>?_,w7⟩;obtain⟨o,e,d⟩:=T.obj _ _ ue b hb;exact(I7.pin (b,o) (kq _ (kq _ (Fg hb e)))).2.1
  cases f with
  |next=>obtain⟨σ7,H7,I7,n7⟩:=q7;exact again I7 n7
  |cont=>obtain⟨σ7,H7,I7,n7⟩:=q7;exact again I7 n7
  |brk=>obtain⟨σ7,H7,I7,q7⟩:=q7;exact⟨σ7,H7,I7.unpinned,q7⟩
  |ret v=>obtain⟨x7,σ7,H7,I7,r7,q7⟩:=q7;exact⟨x7,σ7,H7,I7.unpinned,r7,q7⟩
end
theorem Fi{K:aq}{a:Addr}{xs:List V}{g:TG}{tb:TS}{D:dI}{σ:St}{H:Hp}(Pv:Nat->St->Hp->Prop)(h0:Pv 0 σ H)(hl:∀ i σ H,i<=xs.length->Pv i σ H->SqL K H a xs)
  (hs:∀ i x σ H,xs[i]?=some x->Pv i σ H->g x σ H fun σ2 H2=>tb { D with nx:=Pv (i+1),ct:=Pv (i+1),bk:=D.nx } σ2 H2)(hd:∀ σ H,Pv xs.length σ H->D.nx σ H):
  ∃ W:Nat->Nat->St->Hp->Prop,(∃ m,W 0 m σ H)/\∀ i m σ H,W i m σ H ->
   ((uA K a).stop i H/\D.nx σ H)\/((uA K a).go i H/\∃ N:St->Hp->Prop,(∀ σ' H',N σ' H'->∃ m',m' < m/\W (i+1) m' σ' H')/\∀ x H',(uA K a).yld i H x H'->g x σ H' fun σ2 H2=>tb { D with nx:=N,ct:=N,bk:=D.nx } σ2 H2):=by
 refine⟨fun i m σ H=>m=xs.length-i/\i<=xs.length/\Pv i σ H,⟨xs.length,by simp,fk _,h0⟩,?_⟩
 rintro i m σ H ⟨rfl,hi,p⟩;have q:=hl i σ H hi p;by_cases cg:i<xs.length
 ·refine .inr ⟨⟨xs,xs[i],q,by simp [cg]⟩,Pv (i+1),fun σ' H' p'=>⟨xs.length-(i+1),by omega,rfl,cg,p'⟩,fun x H' y=>?_⟩
  obtain⟨e,y⟩:=y;subst e;exact hs i x σ _ (y xs q) p
 ·have e:i=xs.length:=by omega
  subst e;exact .inl ⟨⟨xs,q,bO _⟩,hd σ H p⟩
theorem Py{K:aq}{a:Addr}{xs:List V}{g:TG}{tb:TS}{D:dI}{σ:St}{H:Hp}(Pv:Nat->St->Hp->Prop)(h0:Pv 0 σ H)(hl:∀ i σ H,i<=xs.length->Pv i σ H->SqT K H a xs)
  (hs:∀ i x σ H,xs[i]?=some x->Pv i σ H->g x σ H fun σ2 H2=>tb { D with nx:=Pv (i+1),ct:=Pv (i+1),bk:=D.nx } σ2 H2)(hd:∀ σ H,Pv xs.length σ H->D.nx σ H):
  ∃ W:Nat->Nat->St->Hp->Prop,(∃ m,W 0 m σ H)/\∀ i m σ H,W i m σ H ->
   ((At K a).stop i H/\D.nx σ H)\/((At K a).go i H/\∃ N:St->Hp->Prop,(∀ σ' H',N σ' H'->∃ m',m' < m/\W (i+1) m' σ' H')/\∀ x H',(At K a).yld i H x H'->g x σ H' fun σ2 H2=>tb { D with nx:=N,ct:=N,bk:=D.nx } σ2 H2):=by
 refine⟨fun i m σ H=>m=xs.length-i/\i<=xs.length/\Pv i σ H,⟨xs.length,by simp,fk _,h0⟩,?_⟩
 rintro i m σ H ⟨rfl,hi,p⟩;have q:=hl i σ H hi p;by_cases cg:i<xs.length
 ·refine .inr ⟨⟨xs,xs[i],q,by simp [cg]⟩,Pv (i+1),fun σ' H' p'=>⟨xs.length-(i+1),by omega,rfl,cg,p'⟩,fun x H' y=>?_⟩
  obtain⟨e,y⟩:=y;subst e;exact hs i x σ _ (y xs q) p
 ·have e:i=xs.length:=by omega
  subst e;exact .inl ⟨⟨xs,q,bO _⟩,hd σ H p⟩
theorem ZbO{lo:Int}{n:Nat}{g:TG}{tb:TS}{D:dI}{σ:St}{H:Hp}(Pv:Nat->St->Hp->Prop)(h0:Pv 0 σ H)
  (hs:∀ i σ H,i<n->Pv i σ H->g (.int (lo+i)) σ H fun σ2 H2=>tb { D with nx:=Pv (i+1),ct:=Pv (i+1),bk:=D.nx } σ2 H2)(hd:∀ σ H,Pv n σ H->D.nx σ H):
  ∃ W:Nat->Nat->St->Hp->Prop,(∃ m,W 0 m σ H)/\∀ i m σ H,W i m σ H ->
   ((qR lo n).stop i H/\D.nx σ H)\/((qR lo n).go i H/\∃ N:St->Hp->Prop,(∀ σ' H',N σ' H'->∃ m',m' < m/\W (i+1) m' σ' H')/\∀ x H',(qR lo n).yld i H x H'->g x σ H' fun σ2 H2=>tb { D with nx:=N,ct:=N,bk:=D.nx } σ2 H2):=by
 refine⟨fun i m σ H=>m=n-i/\i<=n/\Pv i σ H,⟨n,by simp,fk _,h0⟩,?_⟩
 rintro i m σ H ⟨rfl,hi,p⟩;by_cases cg:i<n
 ·refine .inr ⟨cg,Pv (i+1),fun σ' H' p'=>⟨n-(i+1),by omega,rfl,cg,p'⟩,fun x H' y=>?_⟩
  obtain⟨e,y⟩:=y;subst e y;exact hs i σ _ cg p
 ·have e:i=n:=by omega
  subst e;exact .inl ⟨bO _,hd σ H p⟩
theorem Ji{c:TT}{tb:TS}{D:dI}{σ:St}{H:Hp}(Pv:St->Hp->Prop)(μ:St->Hp->Nat)(h0:Pv σ H)
  (hs:∀ σ H,Pv σ H->c σ H fun b H1=>if b=true then tb { D with nx:=fun σ' H'=>Pv σ' H'/\μ σ' H' < μ σ H,ct:=fun σ' H'=>Pv σ' H'/\μ σ' H' < μ σ H,bk:=D.nx } σ H1 else D.nx σ H1)
  (mono:∀ σ H Q Q',(∀ b H1,Q b H1->Q' b H1)->c σ H Q->c σ H Q'):Jk c tb D σ H:=by
 refine⟨fun m σ H=>m=μ σ H/\Pv σ H,⟨_,rfl,h0⟩,?_⟩;rintro m σ H ⟨rfl,p⟩;refine mono σ H _ _ (fun b H1 q=>?_) (hs σ H p);cases b with
 |true=>exact⟨_,fun σ' H' ⟨p',l⟩=>⟨_,l,rfl,p'⟩,q⟩
 |false=>exact q
end L2
namespace L2
open PySem PySem.Spec PyProof.Rows
abbrev R2:=V->V->Hp->VK->Prop
def iC(X:Cx)(f:Value->Value->Sem Value)(r:R2):Prop:=
 ∀ (pins:List (Addr×Obj))(s:Shared)(σ:St)(H:Hp)(x y:V)(v u:Value)(Q:VK),Inv X pins σ H s->RelV x v->RelV y u->r x y H Q ->
  wpAny (model X.prog X.w) X.A (f v u) (EP X pins σ Q) X.xe s
def GY(X:Cx)(f:Value->Sem Value)(r:V->Hp->VK->Prop):Prop:=
 ∀ (pins:List (Addr×Obj))(s:Shared)(σ:St)(H:Hp)(x:V)(v:Value)(Q:VK),Inv X pins σ H s->RelV x v->r x H Q ->
  wpAny (model X.prog X.w) X.A (f v) (EP X pins σ Q) X.xe s
def jl(X:Cx)(f:Value)(r:List V->Hp->VK->Prop):Prop:=
 ∀ (pins:List (Addr×Obj))(s:Shared)(σ:St)(H:Hp)(xs:List V)(us:List Value)(Q:VK),Inv X pins σ H s->Vals xs us->r xs H Q ->
  wpAny (model X.prog X.w) X.A (call f us) (EP X pins σ Q) X.xe s
def GX(X:Cx)(r:V->Hp->(Bool->Hp->Prop)->Prop):Prop:=
 ∀ (pins:List (Addr×Obj))(s:Shared)(σ:St)(H:Hp)(x:V)(v:Value)(Q:Bool->Hp->Prop),Inv X pins σ H s->RelV x v->r x H Q ->
  wpAny (model X.prog X.w) X.A (truthy v) (TP X pins σ Q) X.xe s
def Gi(r:R2)(ta tb:TE):TE:=fun σ H Q=>ta σ H fun x H1=>tb σ H1 fun y H2=>r x y H2 Q
def tUn(r:V->Hp->VK->Prop)(ta:TE):TE:=fun σ H Q=>ta σ H fun x H1=>r x H1 Q
def rI(C:Int->Int->Prop)(g:Int->Int->V):R2:=fun x y H Q=>∃ i j,x=.int i/\y=.int j/\C i j/\Q (g i j) H
def vt(g:Int->Int->V):R2:=fun x y H Q=>∃ i j,x=.int i/\y=.int j/\Q (g i j) H
def rU(g:Int->V):V->Hp->VK->Prop:=fun x H Q=>∃ i,x=.int i/\Q (g i) H
section
variable{X:Cx}{a b c:Expr}{ta tb tc:TE}{pos:Pos}
theorem wu(ha:PE X a ta)(hb:PE X b tb){pins:List (Addr×Obj)}{s:Shared}{σ:St}{H:Hp}{R:V->V->Hp->Prop}(I:Inv X pins σ H s)
  (h:ta σ H fun x H1=>tb σ H1 fun y H2=>R x y H2){Q:Value->Shared->Prop}{f:Value->Value->Sem Value}
  (hf:∀ v u s2 x y H2,Inv X pins σ H2 s2->RelV x v->RelV y u->R x y H2->wpAny (model X.prog X.w) X.A (f v u) Q X.xe s2):
  wpAny (model X.prog X.w) X.A (eval a X.env) (fun v s₁=>wpAny (model X.prog X.w) X.A (eval b X.env) (fun u s₂=>wpAny (model X.prog X.w) X.A (f v u) Q X.xe s₂) X.xe s₁) X.xe s:=by
 refine aQ (ha pins s σ H _ I h) fun v s1 ⟨x,H1,I1,r1,q1⟩=>?_;refine aQ (hb pins s1 σ H1 _ I1 q1) fun u s2 ⟨y,H2,I2,r2,q2⟩=>?_;exact hf v u s2 x y H2 I2 r1 r2 q2
theorem a0{op:Operator}{r:R2}(ho:iC X (binaryOp op) r)(ha:PE X a ta)(hb:PE X b tb):PE X (.BinOp a op b pos) (Gi r ta tb):=by
 intro pins s σ H Q I h;exact wpAny_BinOp (wu ha hb I h fun v u s2 x y H2 I2 rx ry q=>ho pins s2 σ H2 x y v u Q I2 rx ry q)
theorem lh{op:UnaryOp}{r:V->Hp->VK->Prop}(ho:GY X (unaryOp op) r)(ha:PE X a ta):PE X (.UnaryOp op a pos) (tUn r ta):=by
 intro pins s σ H Q I h;exact UnaryOp_ (aQ (ha pins s σ H _ I h) fun v s1 ⟨x,H1,I1,r1,q1⟩=>ho pins s1 σ H1 x v Q I1 r1 q1)
theorem Rn{f:Value->Value->Sem Value}{C:Int->Int->Prop}{g:Int->Int->Int}
  (rule:∀ (i j:Int)(t u:Tok)(s:Shared)(Q:Value->Shared->Prop)(E:Value->Shared->Prop),C i j->Q (.int (g i j) s.toks) { s with toks:=s.toks+1 }->wpAny (model X.prog X.w) X.A (f (.int i t) (.int j u)) Q E s):
  iC X f (rI C fun i j=>.int (g i j)):=by
 intro pins s σ H x y v u Q I rx ry h;obtain⟨i,j,rfl,rfl,hc,q⟩:=h;obtain⟨t,rfl⟩:=rx;obtain⟨t',rfl⟩:=ry;exact rule i j t t' s _ _ hc ⟨.int (g i j),H,I.tok _,⟨_,rfl⟩,q⟩
theorem Dz{f:Value->Value->Sem Value}{g:Int->Int->Int}
  (rule:∀ (i j:Int)(t u:Tok)(s:Shared)(Q:Value->Shared->Prop)(E:Value->Shared->Prop),Q (.int (g i j) s.toks) { s with toks:=s.toks+1 }->wpAny (model X.prog X.w) X.A (f (.int i t) (.int j u)) Q E s):
  iC X f (vt fun i j=>.int (g i j)):=by
 intro pins s σ H x y v u Q I rx ry h;obtain⟨i,j,rfl,rfl,q⟩:=h;obtain⟨t,rfl⟩:=rx;obtain⟨t',rfl⟩:=ry;exact rule i j t t' s _ _ ⟨.int (g i j),H,I.tok _,⟨_,rfl⟩,q⟩
theorem tK{f:Value->Value->Sem Value}{g:Int->Int->Bool}
  (rule:∀ (i j:Int)(t u:Tok)(s:Shared)(Q:Value->Shared->Prop)(E:Value->Shared->Prop),Q (.bool (g i j)) s->wpAny (model X.prog X.w) X.A (f (.int i t) (.int j u)) Q E s):
  iC X f (vt fun i j=>.bl (g i j)):=by
 intro pins s σ H x y v u Q I rx ry h;obtain⟨i,j,rfl,rfl,q⟩:=h;obtain⟨t,rfl⟩:=rx;obtain⟨t',rfl⟩:=ry;exact rule i j t t' s _ _ ⟨.bl (g i j),H,I,rfl,q⟩
def CMul(i j:Int):Prop:=(-(2 ^ 64)<i/\i<2 ^ 64)\/(-(2 ^ 64)<j/\j<2 ^ 64)
theorem CMul.ok{i j:Int}(h:CMul i j):IntMulOk i j:=by
 rcases h with⟨h1,h2⟩ |⟨h1,h2⟩
 ·exact .of_left (intBits_le_64 h1 h2)
 ·exact .of_right (intBits_le_64 h1 h2)
theorem kJ:iC X (binaryOp .Add) (vt fun i j=>.int (i+j)):=Dz fun _ _ _ _ _ _ _ q=>add_int q
theorem uO:iC X (binaryOp .Sub) (vt fun i j=>.int (i-j)):=Dz fun _ _ _ _ _ _ _ q=>sub_int q
theorem zE:iC X (binaryOp .Mult) (rI CMul fun i j=>.int (i*j)):=Rn fun _ _ _ _ _ _ _ hc q=>mul_int q hc.ok
theorem unI{f:Value->Sem Value}{g:Int->Int}
  (rule:∀ (i:Int)(t:Tok)(s:Shared)(Q:Value->Shared->Prop)(E:Value->Shared->Prop),Q (.int (g i) s.toks) { s with toks:=s.toks+1 }->wpAny (model X.prog X.w) X.A (f (.int i t)) Q E s):
  GY X f (rU fun i=>.int (g i)):=by
 intro pins s σ H x v Q I rx h;obtain⟨i,rfl,q⟩:=h;obtain⟨t,rfl⟩:=rx;exact rule i t s _ _ ⟨.int (g i),H,I.tok _,⟨_,rfl⟩,q⟩
theorem FL:GY X (unaryOp .USub) (rU fun i=>.int (-i)):=unI fun _ _ _ _ _ q=>neg_int q
end
def DY:V->V->Bool
 |.non,.non=>true |.non,.int _=>true |.int _,.non=>true |.non,.bl _=>true |.bl _,.non=>true |.non,.str _=>true |.str _,.non=>true
 |.int _,.int _=>true |.bl _,.bl _=>true |.str _,.str _=>true |.byt _,.byt _=>true
 |.int _,.str _=>true |.str _,.int _=>true |.bl _,.str _=>true |.str _,.bl _=>true
 |_,_=>false
def rEq:R2:=fun x y H Q=>DY x y=true/\Q (.bl (decide (x=y))) H
def rNe:R2:=fun x y H Q=>DY x y=true/\Q (.bl (!decide (x=y))) H
theorem PM{i j:Int}:decide (V.int i=V.int j)=(i==j):=by
 rw [EZ];simp
theorem nJ{i j:Bool}:decide (V.bl i=V.bl j)=(i==j):=by
 rw [EZ];simp
theorem P5{i j:Str}:decide (V.str i=V.str j)=(i==j):=by
 rw [EZ];simp
theorem Qb{i j:Array UInt8}:decide (V.byt i=V.byt j)=(i.toList==j.toList):=by
 rw [EZ];cases i;cases j;simp
section
variable{X:Cx}{a b c:Expr}{ta tb tc:TE}{pos:Pos}
theorem eY{pins:List (Addr×Obj)}{σ:St}{H:Hp}{s:Shared}{Q:VK}{k k':Bool}(I:Inv X pins σ H s)(q:Q (.bl k) H)(e:k=k'):EP X pins σ Q (.bool k') s:=by
 subst e;exact⟨.bl k,H,I,rfl,q⟩
theorem iR:iC X (compareOp .Eq) rEq:=by
 intro pins s σ H x y v u Q I rx ry h;obtain⟨hs,q⟩:=h;cases x with
 |non =>
  cases rx;cases y with
  |non=>cases ry;exact PySem.EqNone.eq_none_none (eY I q (by simp))
  |bl j=>cases ry;exact PySem.EqNone.eq_none_bool (eY I q (by simp))
  |int j=>obtain⟨t',rfl⟩:=ry;exact PySem.EqNone.eq_none_int (eY I q (by simp))
  |str j=>obtain⟨t',rfl⟩:=ry;exact PySem.EqNone.eq_none_str (eY I q (by simp))
  |_=>exact absurd (show false=true from hs) fi
 |bl i =>
  cases rx;cases y with
  |non=>cases ry;exact PySem.EqNone.eq_bool_none (eY I q (by simp))
  |bl j=>cases ry;exact eq_bool (eY I q nJ)
  |str j=>obtain⟨t',rfl⟩:=ry;exact PySem.EqMixed.eq_bool_str (eY I q (by simp))
  |_=>exact absurd (show false=true from hs) fi
 |int i =>
  obtain⟨t,rfl⟩:=rx;cases y with
  |non=>cases ry;exact PySem.EqNone.eq_int_none (eY I q (by simp))
  |int j=>obtain⟨t',rfl⟩:=ry;exact eq_int (eY I q PM)
  |str j=>obtain⟨t',rfl⟩:=ry;exact PySem.EqMixed.eq_int_str (eY I q (by simp))
  |_=>exact absurd (show false=true from hs) fi
 |str i =>
  obtain⟨t,rfl⟩:=rx;cases y with
  |non=>cases ry;exact PySem.EqNone.eq_str_none (eY I q (by simp))
  |bl j=>cases ry;exact PySem.EqMixed.eq_str_bool (eY I q (by simp))
  |int j=>obtain⟨t',rfl⟩:=ry;exact PySem.EqMixed.eq_str_int (eY I q (by simp))
  |str j=>obtain⟨t',rfl⟩:=ry;exact eq_str (eY I q P5)
  |_=>exact absurd (show false=true from hs) fi
 |byt i =>
  obtain⟨t,rfl⟩:=rx;cases y with
  |byt j=>obtain⟨t',rfl⟩:=ry;exact PySem.W.eq_bytes (eY I q Qb)
  |_=>exact absurd (show false=true from hs) fi
 |_=>cases y<;>exact absurd (show false=true from hs) fi
theorem d5:iC X (compareOp .NotEq) rNe:=by
 intro pins s σ H x y v u Q I rx ry h;obtain⟨hs,q⟩:=h;cases x with
 |non =>
  cases rx;cases y with
  |non=>cases ry;exact PySem.EqNone.ne_none_none (eY I q (by simp))
  |bl j=>cases ry;exact PySem.EqNone.ne_none_bool (eY I q (by simp))
  |int j=>obtain⟨t',rfl⟩:=ry;exact PySem.EqNone.ne_none_int (eY I q (by simp))
  |str j=>obtain⟨t',rfl⟩:=ry;exact PySem.EqNone.ne_none_str (eY I q (by simp))
  |_=>exact absurd (show false=true from hs) fi
 |bl i =>
  cases rx;cases y with
  |non=>cases ry;exact PySem.EqNone.ne_bool_none (eY I q (by simp))
  |bl j=>cases ry;exact ne_bool (eY I q (au not nJ))
  |str j=>obtain⟨t',rfl⟩:=ry;exact PySem.EqMixed.ne_bool_str (eY I q (by simp))
  |_=>exact absurd (show false=true from hs) fi
 |int i =>
  obtain⟨t,rfl⟩:=rx;cases y with
  |non=>cases ry;exact PySem.EqNone.ne_int_none (eY I q (by simp))
  |int j=>obtain⟨t',rfl⟩:=ry;exact ne_int (eY I q (au not PM))
  |str j=>obtain⟨t',rfl⟩:=ry;exact PySem.EqMixed.ne_int_str (eY I q (by simp))
  |_=>exact absurd (show false=true from hs) fi
 |str i =>
  obtain⟨t,rfl⟩:=rx;cases y with
  |non=>cases ry;exact PySem.EqNone.ne_str_none (eY I q (by simp))
  |bl j=>cases ry;exact PySem.EqMixed.ne_str_bool (eY I q (by simp))
  |int j=>obtain⟨t',rfl⟩:=ry;exact PySem.EqMixed.ne_str_int (eY I q (by simp))
  |str j=>obtain⟨t',rfl⟩:=ry;exact ne_str (eY I q (au not P5))
  |_=>exact absurd (show false=true from hs) fi
 |byt i =>
  obtain⟨t,rfl⟩:=rx;cases y with
  |byt j=>obtain⟨t',rfl⟩:=ry;exact PySem.W.ne_bytes (eY I q (au not Qb))
  |_=>exact absurd (show false=true from hs) fi
 |_=>cases y<;>exact absurd (show false=true from hs) fi
theorem vp:iC X (compareOp .Lt) (vt fun i j=>.bl (decide (i<j))):=tK fun _ _ _ _ _ _ _ q=>lt_int q
theorem oV:iC X (compareOp .LtE) (vt fun i j=>.bl (decide (i<=j))):=tK fun _ _ _ _ _ _ _ q=>le_int q
theorem lf:iC X (compareOp .Gt) (vt fun i j=>.bl (decide (j<i))):=tK fun _ _ _ _ _ _ _ q=>gt_int q
theorem vo:iC X (compareOp .GtE) (vt fun i j=>.bl (decide (j<=i))):=tK fun _ _ _ _ _ _ _ q=>ge_int q
theorem eT(b:Expr){op:CmpOp}(h:autoParam (op≠.In) aD._auto_1)(h2:autoParam (op≠.NotIn) aD._auto_1):behindInMarks op b=false:=by
 have e1:(op==CmpOp.In)=false:=by cases op<;>first |rfl |exact absurd rfl h
 have e2:(op==CmpOp.NotIn)=false:=by cases op<;>first |rfl |exact absurd rfl h2
 cases b<;>simp [behindInMarks,e1,e2]
theorem wb{op:CmpOp}{r:R2}(ho:iC X (compareOp op) r)(ha:PE X a ta)(hb:PE X b tb)(hm:behindInMarks op b=false):PE X (.Compare a [op] [b] pos) (Gi r ta tb):=by
 intro pins s σ H Q I h;exact wpAny_Compare1 (wu ha hb I h fun v u s2 x y H2 I2 rx ry q=>ho pins s2 σ H2 x y v u Q I2 rx ry q) hm
def Ez(t:TE):TT:=fun σ H Q=>t σ H fun x H'=>∃ k,x=.bl k/\Q k H'
theorem gr{op:CmpOp}{r:R2}(ho:iC X (compareOp op) r)(ha:PE X a ta)(hb:PE X b tb)(hm:behindInMarks op b=false):PT X (.Compare a [op] [b] pos) (Ez (Gi r ta tb)):=by
 intro pins s σ H Q I h;refine wpAny_isTrue_Compare1 (aQ (ha pins s σ H _ I h) fun v s1 ⟨x,H1,I1,r1,q1⟩=>aQ (hb pins s1 σ H1 _ I1 q1) fun u s2 ⟨y,H2,I2,r2,q2⟩ =>
  aQ (ho pins s2 σ H2 x y v u _ I2 r1 r2 q2) fun c s3 ⟨z,H3,I3,r3,k,e,q3⟩=>?_) hm
 subst e;cases r3;exact di ⟨H3,I3,q3⟩
def AA(K:aq)(x:V)(H:Hp)(k:Bool):Prop:=
 match x with
 |.non=>k=false
 |.bl b=>k=b
 |.int i=>k=(i != 0)
 |.str y=>y.length<=sizeLine/\k=((y.length:Int) != 0)
 |.byt y=>y.size<=sizeLine/\k=((y.size:Int) != 0)
 |.ref p=>(∃ xs,SqL K H p xs/\k = !xs.isEmpty)\/(∃ xs,SqT K H p xs/\k = !xs.isEmpty)\/∃ ah,H p=some (.dK ah)/\k = !ah.isEmpty
 |_=>False
theorem ZaP{κ:Type}{ah:List (κ×V)}{vs:List (κ×Value)}(r:KV ah vs):(!vs.isEmpty) = !ah.isEmpty:=by
 cases r<;>rfl
theorem Od{xs:List V}{its:List Value}(r:Vals xs its):(!its.toArray.isEmpty) = !xs.isEmpty:=by
 cases r<;>simp
theorem zC:(sizeLine:Nat)<2 ^ 63:=by rw [ak];decide
theorem yS:GX X (fun x H Q=>∃ k,AA X.K x H k/\Q k H):=by
 intro pins s σ H x v Q I rx h;obtain⟨k,e,q⟩:=h;have hl:=zC;have hs:sizeLine=16777216:=ak;cases x with
 |non =>
  cases rx;have e':k=false:=e;subst e';exact truthy_none ⟨H,I,q⟩
 |bl b =>
  cases rx;have e':k=b:=e;subst e';exact di ⟨H,I,q⟩
 |int i =>
  obtain⟨t,rfl⟩:=rx;have e':k=(i != 0):=e;subst e';exact PySem.P.truthy_int ⟨H,I,q⟩
 |str y =>
  obtain⟨t,rfl⟩:=rx;obtain⟨hy,e'⟩:y.length<=sizeLine/\k=((y.length:Int) != 0):=e;subst e';exact PySem.P.truthy_str (by omega) ⟨H,I.tok _,q⟩
 |byt y =>
  obtain⟨t,rfl⟩:=rx;obtain⟨hy,e'⟩:y.size<=sizeLine/\k=((y.size:Int) != 0):=e;subst e';exact PySem.W.truthy_bytes (by omega) ⟨H,I.tok _,q⟩
 |ref p =>
  cases rx;have e':(∃ xs,SqL X.K H p xs/\k = !xs.isEmpty)\/(∃ xs,SqT X.K H p xs/\k = !xs.isEmpty)\/∃ ah,H p=some (.dK ah)/\k = !ah.isEmpty:=e;rcases e' with⟨xs,hx,e'⟩ |⟨xs,hx,e'⟩ |⟨ah,hx,e'⟩
  ·subst e';obtain⟨its,r,pl,hz⟩:=I.list hx;have bQ:=r.length;exact wpAny_truthy_list pl.isList (by simp only [fZ];omega) ⟨H,I.tok _,by rw [Od r];exact q⟩
  ·subst e';obtain⟨its,r,pl,hz⟩:=I.tuple hx;have bQ:=r.length;exact truthy_tuple pl (by simp only [fZ];omega) ⟨H,I.tok _,by rw [Od r];exact q⟩
  ·subst e';obtain⟨hz,hS,vs,r,m⟩:ah.length<=sizeLine/\(p==sysModules)=false/\∃ vs,KV ah vs/\s.heap.DictOf (gS X.prog X.w) p vs:=I.hok p _ hx;have bQ:ah.length=vs.length:=Paired.length r;exact wpAny_truthy_dict hS m (by omega) ⟨H,I.tok _,by rw [ZaP r];exact q⟩
 |_=>exact(show False from e).elim
theorem pA(ha:PE X a ta)(he:∀ ii,isTrue a X.env ii=(do let v <-ii;standAt a.pos;holding [v] (truthy v))):
  PT X a (fun σ H Q=>ta σ H fun x H'=>∃ k,AA X.K x H' k/\Q k H'):=by
 intro pins s σ H Q I h;exact isTrue_plain (aQ (ha pins s σ H _ I h) fun v s1 ⟨x,H1,I1,r1,q1⟩=>yS pins s1 σ H1 x v Q I1 r1 q1) (he _)
theorem EG{x:V}{us:List Value}(r:Vals [x] us):∃ u,us=[u]/\RelV x u:=by
 cases r with
 |cons r1 r2=>cases r2;exact⟨_,rfl,r1⟩
end
end L2
namespace L2
open PySem PySem.Spec PyProof.Rows
structure ObjM(h:Heap)(x dx C:Addr)(mA:Str->Option Value):Prop where
 obj:h.get? x=some (PySem.W.instObj C dx)
 ns:h.Ns1 dx mA
 ne:dx≠x
theorem OL{h:Heap}{dx:Addr}{mA:Str->Option Value}(n:h.Ns1 dx mA):∃ od,h.get? dx=some od/\∀ name,PySem.W.lookIn name od=some (mA name):=by
 obtain⟨o,es,ep,ho,hd,hk,_,hm⟩:=n;refine⟨o,ho,fun name=>?_⟩;have e:=hm name;unfold nsFind findBy at e;rw [<-Array.find?_toList]at e;unfold PySem.W.lookIn;rw [hd];dsimp only;split
 ·rename_i y q;rw [q]at e;exact au some e
 ·rename_i q;rw [q]at e;have a:es.toList.any (·.refKey)=false:=by
   rw [List.any_eq_false];intro y hy;obtain⟨z,t,Ku⟩:=hk y (Array.mem_toList_iff.mp hy);simp [DictEntry.refKey,Ku]
  have a':¬ es.toList.any (·.refKey)=true:=by rw [a];exact fi
  rw [ac a'];exact au some e
theorem ObjM.look{h:Heap}{x dx C:Addr}{mA:Str->Option Value}(I:ObjM h x dx C mA):∃ od,PySem.W.InstAt h x (PySem.W.instObj C dx) C (some od)/\∀ name,PySem.W.lookIn name od=some (mA name):=
 let ⟨od,ho,hl⟩:=OL I.ns
 ⟨od,⟨I.obj,rfl,rfl,ho⟩,hl⟩
section
variable{prog:Program}{w:World}{A:Around}{E:Value->Shared->Prop}{s:Shared}{K:aq}{x dx C f:Addr}{mA:Str->Option Value}{name:Str}{v:Value}
theorem sy{JK:Bool}{Q:Value->Shared->Prop}(X:K.In s.heap)(I:ObjM s.heap x dx C mA)(hg:PySem.W.plainGet K C name=true)(hh:PySem.W.hasDictIn K C=true)
  (ha:PySem.W.findIn K (.ref C) name=some none)(hv:mA name=some v)(hv':PySem.W.handedIn v=true)(h:Q v { s with toks:=s.toks+1 }):
  wpAny (model prog w) A (getAttr (.ref x) name JK) Q E s:=by
 obtain⟨od,J,hl⟩:=I.look;exact PySem.W.get_value X J (G5 hg).1 (PySem.W.findObj_own hh ha rfl (by rw [hl,hv])) hv' h
theorem oa{pl:Sem Bool}{Q:Value×List Value->Shared->Prop}(X:K.In s.heap)(I:ObjM s.heap x dx C mA)(hg:PySem.W.plainGet K C name=true)
  (hf:PySem.W.findIn K (.ref C) name=some (some (.ref f)))(ht:PySem.W.isFn K (.ref f)=true)(hv:mA name=none)(h:Q (.ref f,[.ref x]) s):
  wpAny (model prog w) A (getMethod (.ref x) name pl) Q E s:=by
 obtain⟨od,J,hl⟩:=I.look;exact PySem.W.method_fn X J (G5 hg).1 (G5 hg).2 hf (aJ.mp ht) (by show(PySem.W.lookIn name od).map (·.isSome)=some false;rw [hl,hv];rfl) h
theorem tX{ns:List Str}{Q:Unit->Shared->Prop}(X:K.In s.heap)(I:ObjM s.heap x dx C mA)
  (hs:PySem.W.findIn K (.ref C) "__setattr__" = some (some (.builtin "object.__setattr__")))(hp:PySem.W.plainOver K C=true)(ht:PySem.W.takerIn K C name=some none)(hh:PySem.W.hasDictIn K C=true)
  (hw:PySem.Within mA ns)(hsz:ns.length<=sizeLine)
  (h:∀ h',ObjM h' x dx C (fun y=>if y=name then some v else mA y)->Heap.SameBut dx s.heap h'->Q () { s with heap:=h',toks:=s.toks+2 }):
  wpAny (model prog w) A (setAttr (.ref x) name v) Q E s:=by
 obtain⟨od,J,hl⟩:=I.look;refine PySem.W.set_plain X J hs (PySem.W.osa_open (s:={ s with toks:=s.toks+1 }) (r:=none) X J hp ht fun b=>?_)
 obtain⟨cd,hc,wT⟩:=PySem.W.any_some hh;have hx:s.heap.get? x=some ⟨.ref C,some dx,.plain,#[]⟩:=I.obj;refine aa (af (aa (aa (wpAny_loadPart hx (aa (PySem.W.Looks.here (s:={ s with toks:=s.toks+1 }) (PySem.W.looks_clsIn X hc) ?_))))))
 rw [wT];refine af (a:=some dx) (aa (af (aa ?_)));refine wpAny_nsSet1 (s:={ s with toks:=s.toks+1 }) I.ns fun h' QV hs2=>?_
 obtain⟨oD,esD,epD,hoD,hdD,hcD⟩:=QV.count (PySem.Within.cons name v hw);refine aa (wpAny_lookBehind hoD (by rw [hdD];exact pastItsLine_dict (iE hcD (by rw [gC];omega))) ?_)
 exact af (h _ ⟨(hs2.2 _ (Ne.symm I.ne)).trans I.obj,QV,I.ne⟩ hs2)
theorem oG{R:Result->Shared->Prop}{vs:List Value}{kw:List (Str×Value)}(X:K.In s.heap)(hm:PySem.W.makesIn K C=true)
  (hi:PySem.W.findIn K (.ref C) "__init__" = some (some (.ref f)))(hf:PySem.W.typeIn K (.ref f)=some (.type "function"))
  (h:codeAny (model prog w) (A.under (.builtin "type.__call__" ⟨.ref C::vs,kw⟩)) (.call (.ref f) ⟨.ref (s.heap.objs.size+1)::vs,kw⟩) (PySem.W.InitBack (s.heap.objs.size+1) R)
    { s with heap:=(s.heap.push PySem.W.emptyDict).push (PySem.W.instObj C s.heap.objs.size) }):
  codeAny (model prog w) A (.call (.ref C) ⟨vs,kw⟩) R s:=by
 obtain⟨hh,g,d,t,os⟩:=s;exact PySem.W.make_core (PySem.W.makes_of X hm) (G6 X hi) (fun self=>PySem.W.bind_fn X self hf) (.inl rfl) h
end
noncomputable def dy(f:Str)(v:V):List (Str×V)->List (Str×V)
 |[]=>[(f,v)]
 |(g,x)::r=>if g=f then(g,v)::r else(g,x)::dy f v r
theorem NI(f g:Str)(v:V):∀ fs:List (Str×V),(dy f v fs).lookup g=if g=f then some v else fs.lookup g
 |[]=>by
  show List.lookup g [(f,v)]=_;by_cases h:g=f
  ·have hb:(g==f)=true:=aJ.mpr h;simp only [List.lookup,hb,ae h]
  ·have hb:(g==f)=false:=aP.mpr h;simp only [List.lookup,hb,ac h]
 |(k,x)::r=>by
  have ih:=NI f g v r;rw [show dy f v ((k,x)::r)=(if k=f then(k,v)::r else(k,x)::dy f v r)from rfl];by_cases hk:k=f
  ·rw [ae hk];by_cases h:g=k
   ·have hb:(g==k)=true:=aJ.mpr h;simp only [List.lookup,hb,ae (h.trans hk)]
   ·have hb:(g==k)=false:=aP.mpr h;simp only [List.lookup,hb,ac (fun e:g=f=>h (e.trans hk.symm))]
  ·rw [ac hk];by_cases h:g=k
   ·have hb:(g==k)=true:=aJ.mpr h;simp only [List.lookup,hb,ac (fun e:g=f=>hk (h.symm.trans e))]
   ·have hb:(g==k)=false:=aP.mpr h;simp only [List.lookup,hb];exact ih
theorem IN(f:Str)(v:V):∀ fs:List (Str×V),f∈(dy f v fs).map (·.1)/\∀ g,g∈fs.map (·.1)->g∈(dy f v fs).map (·.1)
 |[]=>⟨by simp [dy],fun g h=>by simp at h⟩
 |(k,x)::r=>by
  obtain⟨i1,i2⟩:=IN f v r;rw [show dy f v ((k,x)::r)=(if k=f then(k,v)::r else(k,x)::dy f v r)from rfl];by_cases hk:k=f
  ·rw [ae hk];subst hk;exact⟨by simp,fun g h=>by simpa using h⟩
  ·rw [ac hk];refine⟨?_,fun g h=>?_⟩
   ·rw [ej];exact dk _ i1
   ·rw [ej]at h ⊢;rcases bw.mp h with e |e
    ·exact bw.mpr (.inl e)
    ·exact dk _ (i2 g e)
theorem NG(f:Str)(v:V):∀ fs:List (Str×V),(dy f v fs).length<=fs.length+1
 |[]=>by simp [dy]
 |(k,x)::r=>by
  have ih:=NG f v r;rw [show dy f v ((k,x)::r)=(if k=f then(k,v)::r else(k,x)::dy f v r)from rfl];by_cases hk:k=f
  ·rw [ae hk,gC,gC];omega
  ·rw [ac hk,gC,gC];omega
theorem RelO.some_of{v:V}{o:Option Value}(r:RelO (some v) o):∃ u,o=some u/\RelV v u:=by
 cases o with
 |none=>exact(show False from r).elim
 |some u=>exact⟨u,rfl,r⟩
theorem RelO.none_of{o:Option Value}(r:RelO none o):o=none:=by
 cases o with
 |none=>rfl
 |some u=>exact(show False from r).elim
theorem OE{v:V}{u:Value}(r:RelV v u):PySem.W.handedIn u=true:=by
 cases v with
 |non=>cases (show u=Value.none from r);rfl
 |bl b=>cases (show u=Value.bool b from r);rfl
 |int i=>obtain⟨t,e⟩:=(show ∃ t,u=Value.int i t from r);cases e;rfl
 |str x=>obtain⟨t,e⟩:=(show ∃ t,u=Value.str x t from r);cases e;rfl
 |byt b=>obtain⟨t,e⟩:=(show ∃ t,u=Value.bytes b t from r);cases e;rfl
 |flt b=>obtain⟨t,e⟩:=(show ∃ t,u=Value.float b t from r);cases e;rfl
 |ref a=>cases (show u=Value.ref a from r);rfl
 |ty n=>cases (show u=Value.type n from r);rfl
section
variable{P:Program}{w:World}{H H':Hp}{h h':Heap}{a C dx:Addr}{fs u0:List (Str×V)}
theorem IP(hok:HOk P w H h)(e:H a=some (.ins C dx fs)):∃ mA,ObjM h a dx C mA/\(∀ f,RelO (fs.lookup f) (mA f))/\PySem.Within mA (fs.map (·.1))/\fs.length<=1000/\H dx=some (.own a):=by
 obtain⟨d,z,ne,ob,mA,n,r,q⟩:=(show ObjOk P w H h a (.ins C dx fs)from hok a _ e);exact⟨mA,⟨ob,n,ne⟩,r,q,z,d⟩
end
structure Cls(K:aq)(C:Addr):Prop where
 pg:PySem.W.plainGet K C Str.empty=true
 hd:PySem.W.hasDictIn K C=true
 po:PySem.W.plainOver K C=true
 sa:PySem.W.findIn K (.ref C) "__setattr__" = some (some (.builtin "object.__setattr__"))
theorem Cls.get{K:aq}{C:Addr}(c:Cls K C)(f:Str):PySem.W.plainGet K C f=true:=c.pg
def NoAttr(K:aq)(C:Addr)(f:Str):Prop:=PySem.W.findIn K (.ref C) f=some none
theorem NoAttr.taker{K:aq}{C:Addr}{f:Str}(n:NoAttr K C f):PySem.W.takerIn K C f=some none:=by
 unfold PySem.W.takerIn;rw [show PySem.W.findIn K (.ref C) f=some none from n];rfl
structure aS(K:aq)(C:Addr)(m:Str)(f:Addr):Prop where
 at_:PySem.W.findIn K (.ref C) m=some (some (.ref f))
 fn:PySem.W.isFn K (.ref f)=true
 kp:PySem.W.keepIn K (.ref f)=true
section
variable{X:Cx}{pins:List (Addr×Obj)}{σ:St}{H:Hp}{s:Shared}{a C dx:Addr}{fs:List (Str×V)}{f:Str}{v:V}{A:Around}{E:Value->Shared->Prop}
theorem Oh{b:Bool}{Q:Value->Shared->Prop}(I:Inv X pins σ H s)(e:H a=some (.ins C dx fs))(c:Cls X.K C)(n:NoAttr X.K C f)(l:fs.lookup f=some v)
  (h:∀ u s',Inv X pins σ H s'->RelV v u->Q u s'):wpAny (model X.prog X.w) A (getAttr (.ref a) f b) Q E s:=by
 obtain⟨mA,O,r,_,_,_⟩:=IP I.hok e;obtain⟨u,hu,ru⟩:=RelO.some_of (v:=v) (o:=mA f) (by rw [<-l];exact r f)
 exact sy I.kIn O (c.get f) c.hd n hu (OE ru) (h u _ (I.tok _) ru)
theorem Ie{m:Str}{g:Addr}{pl:Sem Bool}{Q:Value×List Value->Shared->Prop}(I:Inv X pins σ H s)(e:H a=some (.ins C dx fs))(c:Cls X.K C)(k:aS X.K C m g)(l:fs.lookup m=none)
  (h:Q (.ref g,[.ref a]) s):wpAny (model X.prog X.w) A (getMethod (.ref a) m pl) Q E s:=by
 obtain⟨mA,O,r,_,_,_⟩:=IP I.hok e;have hn:mA m=none:=RelO.none_of (by rw [<-l];exact r m)
 exact oa I.kIn O (c.get m) k.at_ k.fn hn h
theorem N9{y:V}{u:Value}{Q:Unit->Shared->Prop}(I:Inv X pins σ H s)(e:H a=some (.ins C dx fs))(c:Cls X.K C)(n:NoAttr X.K C f)(hl:fs.length<1000)(ry:RelV y u)
  (h:∀ s',Inv X pins σ (upd H a (.ins C dx (dy f y fs))) s'->Q () s'):wpAny (model X.prog X.w) A (setAttr (.ref a) f u) Q E s:=by
 obtain⟨mA,O,r,wi,_,ho⟩:=IP I.hok e;have hz:(fs.map (·.1)).length<=sizeLine:=by rw [aW,ak];omega
 refine tX I.kIn O c.sa c.po n.taker c.hd wi hz fun h' O' sb=>h _ ?_;have hd:∃ o,h'.get? dx=some o:=by obtain⟨o,_,_,e',_⟩:=O'.ns;exact⟨o,e'⟩
 refine I.write (x:=a) (e:=dx) (by rw [e];exact True.intro) (.inr ho) (fun b q hb z=>(sb.2 b hb).trans z) hd ?_
 refine⟨by rw [aj O.ne];exact ho,?_,O.ne,O'.obj,_,O'.ns,fun g=>?_,fun g hg=>?_⟩
 ·have:=NG f y fs;omega
 ·show RelO ((dy f y fs).lookup g) (if g=f then some u else mA g);rw [NI];by_cases q:g=f
  ·rw [ae q,ae q];exact ry
  ·rw [ac q,ac q];exact r g
 ·by_cases q:g=f
  ·rw [q];exact(IN f y fs).1
  ·refine(IN f y fs).2 g (wi g fun z=>hg ?_);show(if g=f then some u else mA g)=none;rw [ac q];exact z
theorem Inv.made(I:Inv X pins σ H s):Inv X pins σ (upd (upd H s.heap.objs.size (.own (s.heap.objs.size+1))) (s.heap.objs.size+1) (.ins C s.heap.objs.size []))
  { s with heap:=(s.heap.push PySem.W.emptyDict).push (PySem.W.instObj C s.heap.objs.size) }:=by
 have e1:(s.heap.push PySem.W.emptyDict).get? s.heap.objs.size=some PySem.W.emptyDict:=fj s.heap rfl;have e2:((s.heap.push PySem.W.emptyDict).push (PySem.W.instObj C s.heap.objs.size)).get? (s.heap.objs.size+1)=some (PySem.W.instObj C s.heap.objs.size):=by
  have:=fj (s.heap.push PySem.W.emptyDict) (o:=PySem.W.instObj C s.heap.objs.size) rfl
  rwa [kr]at this
 have e3:(s.heap.push PySem.W.emptyDict).Ns s.heap.objs.size (fun _=>none):=⟨PySem.W.emptyDict,#[],_,e1,rfl,(fun e he=>absurd he (by simp)),fun _=>rfl⟩
 have I1:=I.laid (a:=s.heap.objs.size) (o:=.own (s.heap.objs.size+1)) (h':=s.heap.push PySem.W.emptyDict) (t':=s.toks) (fun b u q=>dE _ q) (bO _) ⟨_,e1⟩;refine I1.laid (a:=s.heap.objs.size+1) (o:=.ins C s.heap.objs.size []) (t':=s.toks) (fun b u q=>dE _ q) (vU (kr _ _)) ?_;have ne:s.heap.objs.size≠s.heap.objs.size+1:=eG (E2 _);refine⟨by rw [aj ne,Z2j],fk _,ne,e2,fun _=>none,(Heap.Ns1.of_empty e3).at fun o q=>dE _ q,fun _=>True.intro,fun y hy=>absurd rfl hy⟩
theorem Qa{prog:Program}{w:World}{env:Env}{e:Expr}{f:Str}{pos:Pos}{s:Shared}{Q:Value->Shared->Prop}(hb:attributeBase e f env (eval e env)=eval e env)
  (h:wpAny (model prog w) A (eval e env) (fun o s₁=>wpAny (model prog w) A (getAttr o f true) Q E s₁) E s):wpAny (model prog w) A (eval (.Attribute e f pos) env) Q E s:=
 Attribute_any_ h (by rw [arm_eval_Attribute,hb])
end
def Eo(K:aq)(ta:TE)(f:Str):TE:=fun σ H Q=>ta σ H fun x H1=>∃ a C dx fs v,x=.ref a/\H1 a=some (.ins C dx fs)/\Cls K C/\NoAttr K C f/\fs.lookup f=some v/\Q v H1
def L6(K:aq)(ta tv:TE)(f:Str):TS:=fun D σ H=>tv σ H fun y H1=>ta σ H1 fun x H2=>∃ a C dx fs,x=.ref a/\H2 a=some (.ins C dx fs)/\Cls K C/\NoAttr K C f/\fs.length<1000 /\
 D.nx σ (upd H2 a (.ins C dx (dy f y fs)))
def Ar(X:Cx)(op:Operator)(rd:V->V->Hp->VK->Prop):Prop:=
 ∀ (pins:List (Addr×Obj))(s:Shared)(σ:St)(H:Hp)(x y:V)(u v:Value)(Q:VK),Inv X pins σ H s->RelV x u->RelV y v->rd x y H Q->wpAny (model X.prog X.w) X.A (inplaceOp op u v) (EP X pins σ Q) X.xe s
def tT(K:aq)(ta tv:TE)(rd:V->V->Hp->VK->Prop)(f:Str):TS:=fun D σ H=>ta σ H fun x H1=>∃ a C dx fs v,x=.ref a/\H1 a=some (.ins C dx fs)/\Cls K C/\NoAttr K C f/\fs.lookup f=some v /\
 tv σ H1 fun y H2=>rd v y H2 fun z H3=>∃ eO u0,H3 a=some (.ins C eO u0)/\u0.length<1000/\D.nx σ (upd H3 a (.ins C eO (dy f z u0)))
section
variable{X:Cx}{o e value:Expr}{f:Str}{pos eX dO:Pos}{ta tv:TE}
theorem br(he:PE X e ta)(hb:attributeBase e f X.env (eval e X.env)=eval e X.env):PE X (.Attribute e f pos) (Eo X.K ta f):=by
 intro pins s σ H Q I h;refine Qa hb (aQ (he pins s σ H _ I h) fun u s1 zz=>?_);obtain⟨x,H1,I1,rx,a,C,dx,fs,v,ex,ea,c,n,l,q⟩:=zz;subst ex;obtain rfl:u=Value.ref a:=rx;exact Oh I1 ea c n l fun u' s2 I2 ru=>⟨v,H1,I2,ru,q⟩
theorem gu(ha:PE X o ta)(hv:PE X value tv)(hs:swapsWith value (some (.Attribute o f eX)) pos.line X.env=pure false):PS X (.Assign [.Attribute o f eX] value pos) (L6 X.K ta tv f):=by
 intro pins s σ H D I h;refine cr (aQ (hv pins s σ H _ I h) fun u s1 ⟨y,H1,I1,ry,q⟩=>aQ (ha pins s1 σ H1 _ I1 q) fun ov s2 zz=>?_) hs;obtain⟨x,H2,I2,rx,a,C,dx,fs,ex,ea,c,n,l,q2⟩:=zz;subst ex;obtain rfl:ov=Value.ref a:=rx;exact N9 I2 ea c n l ry fun s3 I3=>⟨σ,_,I3,q2⟩
theorem Zbq{op:Operator}{rd:V->V->Hp->VK->Prop}(ha:PE X o ta)(hv:PE X value tv)(hop:Ar X op rd):PS X (.AugAssign (.Attribute o f dO) op value pos) (tT X.K ta tv rd f):=by
 intro pins s σ H D I h;refine wpAny_AugAssign_AttributeAny (aQ (ha pins s σ H _ I h) fun ov s1 zz=>?_);obtain⟨x,H1,I1,rx,a,C,dx,fs,v,ex,ea,c,n,l,q⟩:=zz;subst ex;obtain rfl:ov=Value.ref a:=rx;refine Oh I1 ea c n l fun u s2 I2 ru=>aQ (hv pins s2 σ H1 _ I2 q) fun w3 s3 ⟨y,H2,I3,ry,q3⟩=>aQ (hop pins s3 σ H2 v y u w3 _ I3 ru ry q3) fun w4 s4 zz=>?_;obtain⟨z,H3,I4,rz,eO,u0,ea',l',q4⟩:=zz;exact N9 I4 ea' c n l' rz fun s5 I5=>⟨σ,_,I5,q4⟩
def LO:V->V->Hp->VK->Prop:=fun x y H Q=>∃ i j,x=.int i/\y=.int j/\Q (.int (i+j)) H
theorem xA:Ar X .Add LO:=by
 rintro pins s σ H x y u v Q I rx ry ⟨i,j,rfl,rfl,q⟩;obtain⟨t,rfl⟩:=(show ∃ t,u=Value.int i t from rx);obtain⟨t',rfl⟩:=(show ∃ t',v=Value.int j t' from ry);exact PyProof.Rows.iadd_int ⟨.int (i+j),H,I.tok _,⟨_,rfl⟩,q⟩
theorem vg{pl:Sem Bool}{m:Str}{cF:Pos}{args:List Expr}{pins:List (Addr×Obj)}{s:Shared}{σ:St}{H:Hp}{Q:Value->Shared->Prop}{te:TE}(he:PE X e te)(I:Inv X pins σ H s)
  (h:te σ H fun x H1=>∃ a C dx fs g,x=.ref a/\H1 a=some (.ins C dx fs)/\Cls X.K C/\aS X.K C m g/\fs.lookup m=none /\
    ∀ s1,Inv X pins σ H1 s1->wpAny (model X.prog X.w) X.A (callWith pos (.ref g) [.ref a] (backTo pos (starEach args X.env)) (backToKw pos (keywordEach [] X.env))) Q X.xe s1)
  (ht:eval (.Call (.Attribute e m cF) args [] pos) X.env=(do
    let ov <-eval e X.env
    standAt cF.atName
    let (f,first) <-holding [ov] (getMethod ov m pl)
    callWith pos f first (backTo pos (starEach args X.env)) (backToKw pos (keywordEach [] X.env)))):
  wpAny (model X.prog X.w) X.A (eval (.Call (.Attribute e m cF) args [] pos) X.env) Q X.xe s:=by
 refine G7 (pl:=pl) (aQ (he pins s σ H _ I h) fun u s1 zz=>?_) ht;obtain⟨x,H1,I1,rx,a,C,dx,fs,g,ex,ea,c,k,l,q⟩:=zz;subst ex;obtain rfl:u=Value.ref a:=rx;exact Ie I1 ea c k l (q s1 I1)
end
section
variable{X:Cx}{pins:List (Addr×Obj)}{σ:St}{H:Hp}{s:Shared}{A:Around}{E:Value->Shared->Prop}{Q:Value->Shared->Prop}{c:Value}{b:Bool}
end
end L2
namespace L2
open PySem PySem.Spec PyProof.Rows
structure Room(k:Nat)(A:Around):Prop where
 hd:A.handled=none
 dp:A.depth+3*k+5<recursionLimit
 un:A.units+16*k+200<cLine
theorem Room.mono{j k:Nat}{A:Around}(r:Room k A)(h:j<=k):Room j A:=⟨r.hd,by have:=r.dp;omega,by have:=r.un;omega⟩
theorem Room.deeper{k:Nat}{A:Around}(r:Room (k+1) A)(env:Env):Room k (A.deeper env):=
 ⟨r.hd,by have:=r.dp;show A.depth+1+3*k+5<_;omega,by have:=r.un;show A.units+3+16*k+200<_;omega⟩
theorem NW{A:Around}{C:Addr}{us:List Value}{kw:List (Str×Value)}:(A.under (.builtin "type.__call__" ⟨.ref C::us,kw⟩)).depth=A.depth+1:=by
 first |rfl |simp [Around.under,Code.weight,Code.isCreation,Code.isGuard,Code.isCaller,Code.frames,Code.isFrame,guardIds]
theorem Zbb{A:Around}{C:Addr}{us:List Value}{kw:List (Str×Value)}:(A.under (.builtin "type.__call__" ⟨.ref C::us,kw⟩)).units=A.units+1:=by
 first |rfl |simp [Around.under,Code.cUnits,Code.frames,Code.isFrame]
theorem Room.make{k:Nat}{A:Around}(r:Room (k+1) A)(C:Addr)(us:List Value)(kw:List (Str×Value)):Room k (A.under (.builtin "type.__call__" ⟨.ref C::us,kw⟩)):=
 ⟨r.hd,by have:=r.dp;rw [NW];omega,by have:=r.un;rw [Zbb];omega⟩
theorem Room.depth{k:Nat}{A:Around}(r:Room k A):A.depth<recursionLimit:=by have:=r.dp;omega
theorem Room.units{k:Nat}{A:Around}(r:Room k A):A.units+64<cLine:=by have:=r.un;omega
theorem Room.units0{k:Nat}{A:Around}(r:Room k A):A.units<cLine:=by have:=r.un;omega
def Eu:TA:=fun _ H Q=>Q [] H
def Ek(ta:TE)(tr:TA):TA:=fun σ H Q=>ta σ H fun x H1=>tr σ H1 fun xs H2=>Q (x::xs) H2
section
variable{X:Cx}{e:Expr}{es:List Expr}{te:TE}{t:TA}{pos:Pos}
theorem aE:PA X [] Eu:=fun _ _ _ _ H Q I h=>Calls.spliced_nil ⟨[],H,I,.nil,h⟩
theorem ao(ha:PE X e te)(hr:PA X es t)(hs:autoParam (starEach (e::es) X.env=(false,eval e X.env)::starEach es X.env) aR._auto_1):PA X (e::es) (Ek te t):=by
 intro pos pins s σ H Q I h;rw [hs];show wpAny _ _ (spliced ((false,eval e X.env)::backTo pos (starEach es X.env))) _ _ s;refine Calls.spliced_cons (aQ (ha pins s σ H _ I h) fun u s1 ⟨x,H1,I1,r1,q1⟩=>?_);exact aQ (hr pos pins s1 σ H1 _ I1 q1) fun us s2 ⟨xs,H2,I2,r2,q2⟩=>⟨x::xs,H2,I2,.cons r1 r2,q2⟩
def Mv(t:TA):TE:=fun σ H Q=>t σ H fun xs H1=>xs.length<=sizeLine/\∀ p,H1 p=none->Q (.ref p) (upd H1 p (.tup xs))
def Mp(t:TA):TE:=fun σ H Q=>t σ H fun xs H1=>xs.length<=sizeLine/\∀ p,H1 p=none->Q (.ref p) (upd H1 p (.lst xs))
theorem qB{x1}(h:PA X es t):PE X (.Tuple es x1 pos) (Mv t):=by
 intro pins s σ H Q I hq;refine wpAny_Tuple_spliced (aQ (h pos pins s σ H _ I hq) fun us s1 ⟨xs,H1,I1,r,z,q⟩=>⟨by rw [<-r.length];exact z,?_⟩)
 have hf:H1 s1.heap.objs.size=none:=I1.hok.fresh (bO _);refine⟨.ref s1.heap.objs.size,upd H1 s1.heap.objs.size (.tup xs),I1.laid (t':=s1.toks) (fun b u e=>dE _ e) (bO _) ?_,rfl,q _ hf⟩;exact⟨z,us,r,⟨_,fj _ rfl,rfl,_,rfl⟩⟩
theorem mO(h:PA X es t):PE X (.List es pos) (Mp t):=by
 intro pins s σ H Q I hq;refine wpAny_List_spliced (aQ (h pos pins s σ H _ I hq) fun us s1 ⟨xs,H1,I1,r,z,q⟩=>⟨by rw [<-r.length];exact z,?_⟩)
 have hf:H1 s1.heap.objs.size=none:=I1.hok.fresh (bO _);refine⟨.ref s1.heap.objs.size,upd H1 s1.heap.objs.size (.lst xs),I1.laid (t':=s1.toks) (fun b u e=>dE _ e) (bO _) ?_,rfl,q _ hf⟩;exact⟨z,us,0,r,fj _ rfl⟩
end
abbrev Sp:=List V->Hp->VK->XK->Prop
abbrev jW:=List Env->Hp->Shared->XK->Value->Shared->Prop
structure Env0(P:Program)(w:World)(K:aq)(mg:Str->Option Value)(base:Heap)(A:Around)(outer:List Env)(s:Shared)(H:Hp):Prop where
 frames:A.frames=some outer
 mod:Aw K mg base
 bs:∀ b o,base.get? b=some o->s.heap.get? b=some o/\H b=none
 bsz:base.objs.size<=s.heap.objs.size
 funs:s.heap.FunFrames base outer
 frf:∀ b∈cc outer,H b=none
 hok:HOk P w H s.heap
 bare:AllBare s.gens
def CE(outer:List Env)(P:Program)(w:World)(H:Hp)(s:Shared)(Q:VK)(u:Value)(s':Shared):Prop:=
 ∃ v H',s'.os=s.os/\AllBare s'.gens/\Un (cc outer) [] H H' s.heap s'.heap/\HOk P w H' s'.heap/\RelV v u/\Q v H'
def CR(CX:jW)(outer:List Env)(P:Program)(w:World)(H:Hp)(s:Shared)(Q:VK)(E:XK)(r:Result)(s':Shared):Prop:=
 match r with
 |.ok (.ret u)=>CE outer P w H s Q u s'
 |.ok _=>False
 |.error e=>CX outer H s E e s'
structure am(P:Program)(w:World)(K:aq)(mg:Str->Option Value)(base:Heap)(CX:jW)(k:Nat)(f:Addr)(fd:FuncData)(ps:List Str)(sp:Sp):Prop where
 len:∀ vs H Q E,sp vs H Q E->vs.length=ps.length
 run:∀ (A:Around)(outer:List Env)(s:Shared)(H:Hp)(args:Args)(us:List Value)(vs:List V)(Q:VK)(E:XK),Room k A->Env0 P w K mg base A outer s H->BindsTo s fd args (ps.zip us)->Vals vs us->sp vs H Q E ->
  codeAny (model P w) A (.call (.ref f) args) (CR CX outer P w H s Q E) s
theorem Env0.make{P:Program}{w:World}{K:aq}{mg:Str->Option Value}{base:Heap}{A:Around}{outer:List Env}{s:Shared}{H:Hp}(e:Env0 P w K mg base A outer s H)(C:Addr)(us:List Value)(kw:List (Str×Value)):
  Env0 P w K mg base (A.under (.builtin "type.__call__" ⟨.ref C::us,kw⟩)) outer s H:=⟨by first |exact e.frames |(simpa [Around.under,Code.envs,Code.isFrame,pushEnvs]using e.frames),e.mod,e.bs,e.bsz,e.funs,e.frf,e.hok,e.bare⟩
section
variable{X:Cx}{pins:List (Addr×Obj)}{σ:St}{H:Hp}{s s':Shared}
theorem Inv.env0(I:Inv X pins σ H s):Env0 X.prog X.w X.K X.mg X.base X.A X.stack s H:=
 ⟨I.ok.frames,I.ok.mod,I.bs,iE I.ok.bsz I.sz,I.stack,I.stkFree,I.hok,I.bare⟩
theorem Inv.after{Q:VK}{u:Value}(I:Inv X pins σ H s)(h:CE X.stack X.prog X.w H s Q u s'):EP X pins σ Q u s':=by
 obtain⟨v,H',os,bare,un,hok,r,q⟩:=h;obtain⟨hh,g,d,t,os'⟩:=s';obtain rfl:os'=s.os:=os;exact⟨v,H',I.call (h':=hh) (g':=g) (d':=d) (t':=t) (ch:=[]) un hok bare (fun b z=>absurd z (by simp)),r,q⟩
end
def Ej(sp:Sp)(ir:List V)(E:XK)(t:TA):TE:=fun σ H Q=>t σ H fun vs H1=>sp (vs++ir) H1 Q E
def vK(C:Addr)(m:Str)(sp:Sp)(ir:List V)(E:XK)(ta:TE)(t:TA):TE:=fun σ H Q=>ta σ H fun x H1=>∃ a dx fs,x=.ref a/\H1 a=some (.ins C dx fs)/\fs.lookup m=none /\
 t σ H1 fun vs H2=>sp (x::(vs++ir)) H2 Q E
def Er(C:Addr)(sp:Sp)(ir:List V)(E:XK)(t:TA):TE:=fun σ H Q=>t σ H fun vs H1=>∀ x dx,H1 x=none->H1 dx=none->dx≠x ->
 sp (.ref x::(vs++ir)) (upd (upd H1 dx (.own x)) x (.ins C dx [])) (fun v H2=>v=.non/\Q (.ref x) H2) E
def Binds(K:aq)(fd:FuncData)(ps:List Str)(ds:List Value):Prop:=
 ∀ (s:Shared)(us:List Value),K.In s.heap->(us++ds).length=ps.length->BindsTo s fd ⟨us,[]⟩ (ps.zip (us++ds))
theorem Binds.all{K:aq}{fd:FuncData}{ps:List Str}(h:∀ us:List Value,us.length=ps.length->bindArgs fd ⟨us,[]⟩=pure (ps.zip us)):Binds K fd ps []:=fun s us _ hl=>by
 rw [jZ]at hl ⊢;exact .of_eq (h us hl)
def jo(CX:jW)(X:Cx)(E:XK):Prop:=∀ (pins:List (Addr×Obj))(σ:St)(H:Hp)(s:Shared)(e:Value)(s':Shared),Inv X pins σ H s->CX X.stack H s E e s'->X.xe e s'
section
variable{X:Cx}{CX:jW}{k:Nat}{f C:Addr}{fd:FuncData}{ps:List Str}{sp:Sp}{ir:List V}{ds:List Value}{E:XK}{x m:Str}{p pos cF:Pos}{e o:Expr}{es:List Expr}{ta:TE}{t:TA}
theorem FK{pins:List (Addr×Obj)}{σ:St}{H:Hp}{s:Shared}{Q:VK}{us:List Value}{vs:List V}(F:am X.prog X.w X.K X.mg X.base CX k f fd ps sp)(hr:Room k X.A)(hb:Binds X.K fd ps ds)(hd:Vals ir ds)(hx:jo CX X E)
  (I:Inv X pins σ H s)(r:Vals vs us)(h:sp (vs++ir) H Q E):wpAny (model X.prog X.w) X.A (call (.ref f) us) (EP X pins σ Q) X.xe s:=by
 have r2:Vals (vs++ir) (us++ds):=r.append hd;have hl:(us++ds).length=ps.length:=by rw [<-r2.length];exact F.len _ _ _ _ h
 refine jJ (dA (F.run X.A X.stack s H ⟨us,[]⟩ (us++ds) (vs++ir) Q E hr I.env0 (hb s us I.kIn hl) r2 h) fun r s' hq=>?_);cases r with
 |error e=>exact hx pins σ H s e s' I hq
 |ok fl =>
  cases fl with
  |ret u=>exact I.after hq
  |next=>exact False.elim hq
  |brk=>exact False.elim hq
  |cont=>exact False.elim hq
theorem fQ(F:am X.prog X.w X.K X.mg X.base CX k f fd ps sp)(hr:Room k X.A)(hg:Gl X x)(hm:X.mg x=some (.ref f))(hk:PySem.W.keepIn X.K (.ref f)=true)(hb:Binds X.K fd ps ds)(hd:Vals ir ds)(hx:jo CX X E)
  (ha:PA X (e::es) t)(gz:autoParam ((x==("__debug__":Str))=false) aD._auto_1)(he:autoParam (starEach (e::es) X.env=(false,eval e X.env)::starEach es X.env) aR._auto_1)(ja:autoParam ((backTo pos (starEach es X.env)).any (·.1)=false) aR._auto_1):
  PE X (.Call (.Name x p) (e::es) [] pos) (Ej sp ir E t):=by
 intro pins s σ H Q I h;refine aT (mf I hg hm ?_ gz);refine vV (h₀:=X.base) I.ok.mod.kin hk (aQ (ha pos pins s σ H _ I h) fun us s1 ⟨vs,H1,I1,r,q⟩=>⟨I1.kIn,?_⟩) he ja;exact FK F hr hb hd hx I1 r q
theorem ez{pl:Sem Bool}(he:PE X o ta)(c:Cls X.K C)(hm:aS X.K C m f)(F:am X.prog X.w X.K X.mg X.base CX k f fd ps sp)(hr:Room k X.A)(hb:Binds X.K fd ps ds)(hd:Vals ir ds)(hx:jo CX X E)(ha:PA X (e::es) t)
  (cq:autoParam (starEach (e::es) X.env=(false,eval e X.env)::starEach es X.env) aR._auto_1)(ja:autoParam ((backTo pos (starEach es X.env)).any (·.1)=false) aR._auto_1)
  (ht:autoParam (eval (.Call (.Attribute o m cF) (e::es) [] pos) X.env=(do
    let ov <-eval o X.env
    standAt cF.atName
    let (f,first) <-holding [ov] (getMethod ov m pl)
    callWith pos f first (backTo pos (starEach (e::es) X.env)) (backToKw pos (keywordEach [] X.env)))) aR._auto_1):
  PE X (.Call (.Attribute o m cF) (e::es) [] pos) (vK C m sp ir E ta t):=by
 intro pins s σ H Q I h;refine G7 (pl:=pl) (aQ (he pins s σ H _ I h) fun u s1 zz=>?_) ht;obtain⟨x,H1,I1,rx,a,dx,fs,ex,ea,l,q⟩:=zz;subst ex;obtain rfl:u=Value.ref a:=rx;refine Ie I1 ea c hm l ?_;refine vV (first:=[.ref a]) (h₀:=X.base) I.ok.mod.kin hm.kp (aQ (ha pos pins s1 σ H1 _ I1 q) fun us s2 ⟨vs,H2,I2,r,q2⟩=>⟨I2.kIn,?_⟩) cq ja;exact FK (us:=.ref a::us) (vs:=.ref a::vs) F hr hb hd hx I2 (.cons rfl r) q2
theorem Iy{pl:Sem Bool}(he:PE X o ta)(c:Cls X.K C)(hm:aS X.K C m f)(F:am X.prog X.w X.K X.mg X.base CX k f fd ps sp)(hr:Room k X.A)(hb:Binds X.K fd ps ds)(hd:Vals ir ds)(hx:jo CX X E)
  (ht:autoParam (eval (.Call (.Attribute o m cF) [] [] pos) X.env=(do
    let ov <-eval o X.env
    standAt cF.atName
    let (f,first) <-holding [ov] (getMethod ov m pl)
    callWith pos f first (backTo pos (starEach [] X.env)) (backToKw pos (keywordEach [] X.env)))) aR._auto_1):
  PE X (.Call (.Attribute o m cF) [] [] pos) (vK C m sp ir E ta Eu):=by
 intro pins s σ H Q I h;refine G7 (pl:=pl) (aQ (he pins s σ H _ I h) fun u s1 zz=>?_) ht;obtain⟨x,H1,I1,rx,a,dx,fs,ex,ea,l,q⟩:=zz;subst ex;obtain rfl:u=Value.ref a:=rx;refine Ie I1 ea c hm l ?_;exact PySem.W.callWith_K0 (first:=[.ref a]) I1.kIn hm.kp (FK (us:=[.ref a]) (vs:=[.ref a]) F hr hb hd hx I1 (.cons rfl .nil) q)
structure Mk(K:aq)(C f:Addr):Prop where
 makes:PySem.W.makesIn K C=true
 init:PySem.W.findIn K (.ref C) "__init__" = some (some (.ref f))
 fn:PySem.W.isFn K (.ref f)=true
 kp:PySem.W.keepIn K (.ref C)=true
theorem pN{pins:List (Addr×Obj)}{σ:St}{H:Hp}{s:Shared}{Q:VK}{us:List Value}{vs:List V}(M:Mk X.K C f)(F:am X.prog X.w X.K X.mg X.base CX k f fd ps sp)(hr:Room (k+1) X.A)(hb:Binds X.K fd ps ds)(hd:Vals ir ds)
  (hx:jo CX X E)(I:Inv X pins σ H s)(r:Vals vs us)
  (h:∀ x dx,H x=none->H dx=none->dx≠x->sp (.ref x::(vs++ir)) (upd (upd H dx (.own x)) x (.ins C dx [])) (fun v H2=>v=.non/\Q (.ref x) H2) E):
  wpAny (model X.prog X.w) X.A (call (.ref C) us) (EP X pins σ Q) X.xe s:=by
 have hq:=h (s.heap.objs.size+1) s.heap.objs.size (I.hok.fresh (Nat.le_succ _)) (I.hok.fresh (bO _)) (eG (E2 _));have I2:=Inv.made (C:=C) I;have r2:Vals (V.ref (s.heap.objs.size+1)::(vs++ir)) (Value.ref (s.heap.objs.size+1)::(us++ds)):=.cons rfl (r.append hd);have hl:(Value.ref (s.heap.objs.size+1)::us++ds).length=ps.length:=by
  have e:=r2.length;rw [F.len _ _ _ _ hq]at e;exact e.symm
 refine jJ (oG (f:=f) I.kIn M.makes M.init (aJ.mp M.fn) (dA (F.run _ X.stack _ _ ⟨Value.ref (s.heap.objs.size+1)::us,[]⟩ (Value.ref (s.heap.objs.size+1)::(us++ds)) _ _ E (hr.make C us [])
  (I2.env0.make C us []) (hb _ (Value.ref (s.heap.objs.size+1)::us) I2.kIn hl) r2 hq) fun r s' Cm=>?_))
 cases r with
 |error e=>exact hx pins σ _ _ e s' I2 Cm
 |ok fl =>
  cases fl with
  |ret u =>
   obtain⟨v,H',I3,rv,ev,q3⟩:=I2.after Cm;subst ev;exact⟨rv,⟨V.ref (s.heap.objs.size+1),H',I3,rfl,q3⟩⟩
  |next=>exact False.elim Cm
  |brk=>exact False.elim Cm
  |cont=>exact False.elim Cm
theorem rB(M:Mk X.K C f)(F:am X.prog X.w X.K X.mg X.base CX k f fd ps sp)(hr:Room (k+1) X.A)(hg:Gl X x)(hm:X.mg x=some (.ref C))(hb:Binds X.K fd ps ds)(hd:Vals ir ds)(hx:jo CX X E)
  (ha:PA X (e::es) t)(gz:autoParam ((x==("__debug__":Str))=false) aD._auto_1)(he:autoParam (starEach (e::es) X.env=(false,eval e X.env)::starEach es X.env) aR._auto_1)(ja:autoParam ((backTo pos (starEach es X.env)).any (·.1)=false) aR._auto_1):
  PE X (.Call (.Name x p) (e::es) [] pos) (Er C sp ir E t):=by
 intro pins s σ H Q I h;refine aT (mf I hg hm ?_ gz);refine vV (h₀:=X.base) I.ok.mod.kin M.kp (aQ (ha pos pins s σ H _ I h) fun us s1 ⟨vs,H1,I1,r,q⟩=>⟨I1.kIn,?_⟩) he ja;exact pN M F hr hb hd hx I1 r q
end
section
variable{X:Cx}{CX:jW}{k:Nat}{f C:Addr}{fd:FuncData}{ps ks:List Str}{sp:Sp}{E:XK}{x m:Str}{p pos cF kpos:Pos}{e o:Expr}{es:List Expr}{kws:List Keyword}{te ta:TE}{t tk:TA}{nm:Option Str}
variable{g:List Value->List Value->List Value}{gV:List V->List V->List V}
end
structure cX(N P:List Str)(sc:Scope):Prop where
 kind:sc.kind=.function
 co:sc.isCoroutine=false
 gen:sc.isGenerator=false
 nd:N.Nodup
 pre:N.take P.length=P
 par:∀ x∈P,sc.names.lookup x=some .local\/sc.names.lookup x=some .cell
 nofree:∀ y∈sc.names,y.2≠.free
theorem OD{kindOf:Str->Option NameKind}{x:Str}:∀ {binds:List (Str×Value)}{m:Str->Option Value},(∀ v,(x,v)∉binds)->bindL kindOf binds m x=m x
 |[],_,_=>rfl
 |(n,v)::r,m,h=>by
  unfold bindL;rw [OD fun w hw=>h w (dk _ hw)];split
  ·have:x≠n:=by rintro rfl;exact h v cZ
   simp [this]
  ·rfl
theorem OO{kindOf:Str->Option NameKind}{x:Str}:∀ {binds:List (Str×Value)}{m:Str->Option Value},(∀ v,(x,v)∉binds)->bindC kindOf binds m x=m x
 |[],_,_=>rfl
 |(n,v)::r,m,h=>by
  unfold bindC;rw [OO fun w hw=>h w (dk _ hw)];split
  ·rfl
  ·have:x≠n:=by rintro rfl;exact h v cZ
   simp [this]
theorem Iq{kindOf:Str->Option NameKind}{x:Str}{v:Value}:∀ {P:List Str}{vs:List Value}{i:Nat}{m:Str->Option Value},P.Nodup->P[i]?=some x->vs[i]?=some v->kindOf x=some .local ->
  bindL kindOf (P.zip vs) m x=some v
 |[],_,_,_,_,h,_,_=>by simp at h
 |_::_,[],_,_,_,_,h,_=>by simp at h
 |p::P,w::vs,0,m,nd,h1,h2,hk=>by
  simp at h1 h2;subst h1;subst h2;show bindL kindOf ((p,w)::P.zip vs) m p=_;unfold bindL;rw [OD fun v hv=>(lA.mp nd).1 (E3 hv).1,ae hk];simp
 |p::P,w::vs,i+1,m,nd,h1,h2,hk=>by
  show bindL kindOf ((p,w)::P.zip vs) m x=_;unfold bindL;exact Iq (i:=i) (lA.mp nd).2 (by simpa using h1) (by simpa using h2) hk
theorem OR{kindOf:Str->Option NameKind}{x:Str}{v:Value}:∀ {P:List Str}{vs:List Value}{i:Nat}{m:Str->Option Value},P.Nodup->P[i]?=some x->vs[i]?=some v->kindOf x≠some .local ->
  bindC kindOf (P.zip vs) m x=some v
 |[],_,_,_,_,h,_,_=>by simp at h
 |_::_,[],_,_,_,_,h,_=>by simp at h
 |p::P,w::vs,0,m,nd,h1,h2,hk=>by
  simp at h1 h2;subst h1;subst h2;show bindC kindOf ((p,w)::P.zip vs) m p=_;unfold bindC;rw [OO fun v hv=>(lA.mp nd).1 (E3 hv).1,ac hk];simp
 |p::P,w::vs,i+1,m,nd,h1,h2,hk=>by
  show bindC kindOf ((p,w)::P.zip vs) m x=_;unfold bindC;exact OR (i:=i) (lA.mp nd).2 (by simpa using h1) (by simpa using h2) hk
def start(N:List Str)(vs:List V):St:=vs.map some++List.replicate (N.length-vs.length) none
def j6(CX:jW)(P:Program)(w:World)(K:aq)(mg:Str->Option Value)(base:Heap)(N:List Str)(qual:Str)(scope:Scope)(f:Addr)(cd:Value)(A:Around)(outer:List Env)(s:Shared)(H:Hp)(E:XK):Cx where
 prog:=P
 w:=w
 K:=K
 mg:=mg
 base:=base
 A:=A.deeper (envOfC qual scope s.heap.objs.size f cd)
 N:=N
 s_0:=s
 H_0:=H
 env:=envOfC qual scope s.heap.objs.size f cd
 outer:=outer
 stack:=envOfC qual scope s.heap.objs.size f cd::outer
 ex:=[]
 calm:=true
 fn:=fun _=>true
 pn:=[]
 xe:=fun e s'=>wpAny (model P w) (A.deeper (envOfC qual scope s.heap.objs.size f cd)) (leaving (envOfC qual scope s.heap.objs.size f cd) e) (fun _ iw=>CX outer H s E e iw) (fun e' iw=>CX outer H s E e' iw) s'
theorem Ot{sc:Scope}{n:Nat}{x:Str}(h:sc.names.lookup x=some .cell):∃ c,(cellsFrom n sc.names []).lookup x=some c:=by
 have q:=PySem.W.cellsFrom_some sc.names n [] (.inl h);exact Option.isSome_iff_exists.mp q
theorem ZbH{CX:jW}{P:Program}{w:World}{K:aq}{mg:Str->Option Value}{base:Heap}{N ps:List Str}{qual:Str}{scope:Scope}{f:Addr}{cd:Value}{A:Around}{outer:List Env}{s s1:Shared}{H:Hp}{E:XK}{us:List Value}{vs:List V}
  (S:cX N ps scope)(hd:A.handled=none)(e0:Env0 P w K mg base A outer s H)(hl:vs.length=ps.length)(r:Vals vs us)
  (x:InCallC s s.heap.objs.size (bindL (envOfC qual scope s.heap.objs.size f cd).kindOf (ps.zip us) fun _=>none) (cellsFrom (s.heap.objs.size+1) scope.names []) (bindC (envOfC qual scope s.heap.objs.size f cd).kindOf (ps.zip us) fun _=>none) s1):
  Inv (j6 CX P w K mg base N qual scope f cd A outer s H E) [] (start N vs) H s1:=by
 have ja:ps.length<=N.length:=by have:=au List.length S.pre;rw [lX]at this;omega
 obtain⟨h1,tk,rfl,hk⟩:=x.done;have lU:∀ b:Addr,b∉(j6 CX P w K mg base N qual scope f cd A outer s H E).ex:=fun b z=>absurd (show b∈([]:List Addr)from z) (by simp)
 refine⟨⟨e0.mod,S.kind,rfl,rfl,bO _,fun y z c h1 h2=>?_,fun y hy=>?_,fun y c _ h=>?_,fun _=>hd,Around.frames_deeper e0.frames,.inr ⟨rfl,rfl⟩,fun b z=>absurd z (lU b),e0.bs,e0.bsz,fun b _ _=>lU b,fun b z=>absurd z (lU b),e0.funs,e0.frf⟩,
  rfl,e0.bare,Un.kept hk,⟨_,x.toInCall.ns,fun i y v h1 h2 h3=>?_⟩,fun y c h=>⟨_,x.cell y c h⟩,e0.hok.fresh (bO _),fun y c h=>?_,fun p hp=>absurd (show p∈([]:List (Addr×Obj))from hp) (by simp),e0.hok.kept hk,?_⟩
 ·exact name_of_addr x.apart (PySem.mem_of_lookup h1) (PySem.mem_of_lookup h2)
 ·have hy:scope.names.lookup y=some .cell\/scope.names.lookup y=some .free:=hy;rcases hy with hy |hy
  ·exact Ot hy
  ·exact absurd rfl (S.nofree _ (PySem.mem_of_lookup hy))
 ·exact vT (x.above y c (PySem.mem_of_lookup h))
 ·have hi:i<vs.length:=by
   unfold start at h2;by_cases hi:i<vs.length
   ·exact hi
   ·rw [uI (by simpa using hi)]at h2
    rw [List.getElem?_replicate]at h2;split at h2<;>cases h2
  have ha:vs[i]?=some v:=by
   unfold start at h2;rw [mJ (by simpa using hi),dQ]at h2
   cases e:vs[i]? with
   |none=>rw [e]at h2;cases h2
   |some a=>rw [e]at h2;cases h2;rfl
  obtain⟨u,hu,rv⟩:=r.get ha;have hp:ps[i]?=some y:=by
   rw [<-S.pre,List.getElem?_take_of_lt (by omega)];exact h1
  have Re:ps.Nodup:=by rw [<-S.pre];exact S.nd.sublist (List.take_sublist _ _)
  refine⟨u,rv,?_⟩;rcases S.par y (gL hp)with k |k
  ·exact .inl ⟨k,Iq Re hp hu k⟩
  ·obtain⟨c,e⟩:=Ot (n:=s.heap.objs.size+1) k;refine .inr ⟨.inl k,c,e,?_⟩;have q:=x.cell y c e;rw [OR Re hp hu (by show scope.names.lookup y≠_;rw [k];decide)]at q
   exact q
 ·exact e0.hok.fresh (vT (x.above y c (PySem.mem_of_lookup h)))
 ·unfold start;show _=N.length;rw [gD,aW,G8];omega
theorem nW{CX:jW}{P:Program}{w:World}{K:aq}{mg:Str->Option Value}{base:Heap}{k:Nat}{f:Addr}{name qual:Str}{params:Arguments}{body:List Stmt}{scope:Scope}{dV kV gW pm bq ct oc:Value}{an od:Option Addr}
  {jc:Array (Option Value)}{N ps:List Str}{sp:Sp}(lk:K.lookup f=some ⟨oc,od,.func (PySem.W.fnOf name qual params body scope dV kV gW pm an bq ct),jc⟩)(ji:PySem.W.codeIn K bq qual=true)(S:cX N ps scope)
  (len:∀ vs H Q E,sp vs H Q E->vs.length=ps.length)
  (gY:∀ (A:Around)(outer:List Env)(s:Shared)(H:Hp)(vs:List V)(Q:VK)(E:XK),Room k (A.deeper (envOfC qual scope s.heap.objs.size f bq))->sp vs H Q E ->
    ∃ t,PSs (j6 CX P w K mg base N qual scope f bq A outer s H E) body t/\t { nx:=fun _ H'=>Q .non H',rt:=Q } (start N vs) H):
  am P w K mg base CX (k+1) f (PySem.W.fnOf name qual params body scope dV kV gW pm an bq ct) ps sp:=by
 refine⟨len,fun A outer s H args us vs Q E hr e0 hb r kc=>?_⟩;have hl:=len _ _ _ _ kc;have KX:K.In s.heap:=e0.mod.kin.keeps fun b o e=>(e0.bs b o e).1;have xN:s.heap.NoLimit:=e0.mod.nolimit.keeps fun b o e=>(e0.bs b o e).1;have ol:∀ y∈ps.zip us,scope.names.lookup y.1=some .local\/(scope.names.lookup y.1=some .cell/\((cellsFrom (s.heap.objs.size+1) scope.names []).lookup y.1).isSome=true):=fun⟨n,v⟩ hy=>by
  rcases S.par n (E3 hy).1 with q |q
  ·exact .inl q
  ·exact .inr ⟨q,PySem.W.cellsFrom_some _ _ _ (.inl q)⟩
 refine codeAny_call_function hr.depth (KX _ _ lk) rfl S.co S.gen rfl (PySem.W.codeRec_of KX ji) (hb _ _ _ _ ?_);refine wpAny_newFunctionEnv_cells S.kind ol fun env he s1 x=>?_;subst he;refine⟨xN.keeps x.toInCall.keep,codeAny_func ?_⟩;obtain⟨t,ht,hq⟩:=gY A outer s H vs Q E (hr.deeper _) kc;have I:Inv (j6 CX P w K mg base N qual scope f bq A outer s H E) [] (start N vs) H s1:=ZbH S hr.hd e0 hl r x;refine ax (ht [] s1 (start N vs) H _ I hq) (fun fl s' hs=>?_) fun e s' hs=>hs;have fin:∀ {σ':St}{H':Hp}{v:V}{u:Value},Inv (j6 CX P w K mg base N qual scope f bq A outer s H E) [] σ' H' s'->RelV v u->Q v H'->CE outer P w H s Q u s':=
  fun{σ' H' v u} J rv q=>⟨v,H',J.os,J.bare,J.base,J.hok,rv,q⟩
 cases fl with
 |ret u =>
  obtain⟨v,σ',H',J,rv,q⟩:=hs;exact fin J rv q
 |next =>
  obtain⟨σ',H',J,q⟩:=hs;exact fin (v:=V.non) (u:=Value.none) J rfl q
 |brk =>
  obtain⟨_,_,_,q⟩:=hs;exact False.elim q
 |cont =>
  obtain⟨_,_,_,q⟩:=hs;exact False.elim q
end L2
namespace L2
open PySem PySem.Spec PyProof.Rows
section
variable{X:Cx}{x:Str}{p pos:Pos}{e:Expr}{es:List Expr}{t:TA}{id T:String}{r:List V->Hp->VK->Prop}
def tCB(r:List V->Hp->VK->Prop)(t:TA):TE:=fun σ H Q=>t σ H fun vs H1=>r vs H1 Q
theorem l7(hc:jl X (.builtin id) r)(hg:Gl X x)(hm:X.mg x=none)(hv:bootBuiltins x=some (.builtin id))(ha:PA X (e::es) t)(hn:autoParam (x≠"__name__") aD._auto_1)(gz:autoParam ((x==("__debug__":Str))=false) aD._auto_1)
  (he:autoParam (starEach (e::es) X.env=(false,eval e X.env)::starEach es X.env) aR._auto_1)(ja:autoParam ((backTo pos (starEach es X.env)).any (·.1)=false) aR._auto_1):PE X (.Call (.Name x p) (e::es) [] pos) (tCB r t):=by
 intro pins s σ H Q I h;refine aT (Bl I hg hm hv ?_ hn gz);exact PyProof.Rows.callWith_builtin1 (aQ (ha pos pins s σ H _ I h) fun us s1 ⟨vs,H1,I1,r1,q1⟩=>hc pins s1 σ H1 vs us Q I1 r1 q1) he ja
end
end L2
namespace HT
open PySem PyProof.Rows
theorem nR(A:Around)(s:Shared)(a:Int)(t:Tok)(c:Int)(u:Tok):∃ e,SeqAt.EqAt A s (.int a t) (.int c u) e/\(e=true↔a=c):=
 ⟨(a==c),SeqAt.EqAt.int_int a t c u,by simp⟩
section
open PySem.SeqAt
open PySem.AutoSeq1 (wpAny_loadPart')
open PySem.MeetsSeq PySem.MeetsSeq2 PySem.MeetsSeq3
end
section
variable{prog:Program}{w:World}{A:Around}{E:Value->Shared->Prop}{s:Shared}
def sIx(n d:Nat):Option Int->Nat
 |none=>d
 |some v=>if v<0 then(v+(n:Int)).toNat else min v.toNat n
theorem sIx_nat(n d k:Nat):sIx n d (some (k:Int))=min k n:=by
 show(if (k:Int)<0 then((k:Int)+(n:Int)).toNat else min (k:Int).toNat n)=min k n;rw [ac (by omega),AQ]
end
end HT
namespace L2
open PySem PySem.Spec PyProof.Rows
abbrev TO:=St->Hp->(Option Int->Hp->Prop)->Prop
def PO(X:Cx)(e:Option Expr)(t:TO):Prop:=
 ∀ (pins:List (Addr×Obj))(s:Shared)(σ:St)(H:Hp)(Q:Option Int->Hp->Prop),Inv X pins σ H s->t σ H Q ->
  wpAny (model X.prog X.w) X.A (evalPart e X.env) (fun u s'=>∃ o H',Inv X pins σ H' s'/\IsPart u o/\Q o H') X.xe s
def Ex(t:TE):TO:=fun σ H Q=>t σ H fun x H1=>∃ i,x=.int i/\Q (some i) H1
theorem Oa{ns:List Int}:∀ {us:List Value},Vals (ns.map V.int) us->IntsAre us ns:=by
 induction ns with
 |nil=>intro us r;rw [List.map_nil]at r;cases r;exact .nil
 |cons n ns ih =>
  intro us r;rw [ej]at r;cases r with
  |cons r1 r2 =>
   obtain⟨t,e⟩:=r1;subst e;exact .cons n t (ih r2)
section
variable{X:Cx}{e:Expr}{te:TE}{lo hi:Option Expr}{tl th:TO}{pos p2:Pos}
theorem PL(h:PE X e te):PO X (some e) (Ex te):=by
 intro pins s σ H Q I hw;rw [evalPart_some];refine aQ (h pins s σ H _ I hw) fun u s1 ⟨x,H1,I1,r1,q1⟩=>?_;obtain⟨i,rfl,q⟩:=q1;obtain⟨t,rfl⟩:=r1;exact⟨some i,H1,I1,.int i t,q⟩
def ND(X:Cx)(r:V->Option Int->Option Int->Hp->VK->Prop):Prop:=
 ∀ (pins:List (Addr×Obj))(s:Shared)(σ:St)(H:Hp)(x:V)(v vl vu:Value)(lo hi:Option Int)(sl:Addr)(Q:VK),Inv X pins σ H s->RelV x v->s.heap.IsSliceOf sl vl vu .none->IsPart vl lo->IsPart vu hi->r x lo hi H Q ->
  ∃ T id,typeLookup (.type T) "__getitem__" = pure (some (.builtin id))/\s.TypeIs v T/\wpAny (model X.prog X.w) X.A (getItem v (.ref sl)) (EP X pins σ Q) X.xe s
def tSl(r:V->Option Int->Option Int->Hp->VK->Prop)(te:TE)(tl th:TO):TE:=fun σ H Q=>te σ H fun x H1=>tl σ H1 fun l H2=>th σ H2 fun u H3=>r x l u H3 Q
theorem pc{r:V->Option Int->Option Int->Hp->VK->Prop}(hr:ND X r)(he:PE X e te)(hl:PO X lo tl)(hu:PO X hi th):PE X (.Subscript e (.Slice lo hi none p2) pos) (tSl r te tl th):=by
 intro pins s σ H Q I h;refine Subscript_ (aQ (he pins s σ H _ I h) fun v s1 ⟨x,H1,I1,r1,q1⟩=>?_);refine wpAny_Slice (aQ (hl pins s1 σ H1 _ I1 q1) fun vl s2 ⟨l,H2,I2,pl,q2⟩=>aQ (hu pins s2 σ H2 _ I2 q2) fun vu s3 ⟨u,H3,I3,pu,q3⟩=>?_);rw [evalPart_none];refine af ?_;have I4:Inv X pins σ H3 { s3 with heap:=s3.heap.push { cls:=.type "slice",data:=.fields #[vl,vu,.none] } }:=I3.kept (t':=s3.toks) fun b ob q=>dE _ q
 obtain⟨T,id,hT,ht,hg⟩:=hr pins { s3 with heap:=s3.heap.push { cls:=.type "slice",data:=.fields #[vl,vu,.none] } } σ H3 x v vl vu l u s3.heap.objs.size Q I4 r1 (Heap.IsSliceOf.new ..) pl pu q3
 show wpAny (model X.prog X.w) X.A (subscriptTail e (.Slice lo hi none p2) v (.ref s3.heap.objs.size)) (EP X pins σ Q) X.xe { s3 with heap:=s3.heap.push { cls:=.type "slice",data:=.fields #[vl,vu,.none] } }
 exact tail_any (ops:=[.ref s3.heap.objs.size,v]) ht hT hg (by with_unfolding_all rfl)
def j5(xs:List V)(lo hi:Option Int):List V:=(xs.drop (HT.sIx xs.length 0 lo)).take (HT.sIx xs.length xs.length hi-HT.sIx xs.length 0 lo)
theorem Z9O(xs:List V)(lo hi:Option Int):(j5 xs lo hi).length<=xs.length:=by
 unfold j5;rw [lX,AR];omega
end
end L2
namespace L2
open PySem PySem.Spec PyProof.Rows
def qN(n:Nat)(i:Int):Option Nat:=if 0<=i then(if i<n then some i.toNat else none)else if -(n:Int)<=i then some (i+n).toNat else none
def zH{α:Type}(xs:List α)(i:Int):Option α:=(qN xs.length i).bind fun j=>xs[j]?
theorem PF{n:Nat}{i:Int}{j:Nat}(h:qN n i=some j):seqIndex? i n=some j/\j<n/\-(n:Int)<=i/\i<n:=by
 unfold qN at h;by_cases h0:0<=i
 ·rw [ae h0]at h;by_cases h1:i<n
  ·rw [ae h1]at h;have e:i.toNat=j:=Option.some.inj h;exact⟨by rw [seqIndex_of h0 h1,e],by omega,by omega,h1⟩
  ·rw [ac h1]at h;cases h
 ·rw [ac h0]at h;by_cases h1:-(n:Int)<=i
  ·rw [ae h1]at h;have e:(i+n).toNat=j:=Option.some.inj h;exact⟨by rw [seqIndex_neg (by omega) h1,e],by omega,h1,by omega⟩
  ·rw [ac h1]at h;cases h
theorem PB{α:Type}{xs:List α}{i:Int}{v:α}(h:zH xs i=some v):∃ j,seqIndex? i xs.length=some j/\xs[j]?=some v/\j<xs.length/\-(xs.length:Int)<=i/\i<xs.length:=by
 unfold zH at h;cases e:qN xs.length i with
 |none=>rw [e]at h;cases h
 |some j =>
  rw [e]at h;obtain⟨h1,h2,h3,h4⟩:=PF e;exact⟨j,h1,h,h2,h3,h4⟩
theorem qA{α:Type}{xs:List α}{j:Nat}{v:α}(h:xs[j]?=some v):zH xs (j:Int)=some v:=by
 have hj:j<xs.length:=(eg.mp h).1;have e:qN xs.length (j:Int)=some j:=by
  unfold qN;rw [ae (by omega),ae (by omega)];simp
 unfold zH;rw [e];exact h
def qS(b:Expr):Prop:=∀ o i,subscripted b false o i=operate [o,i] (getItem o i)
def Gw(X:Cx)(r:R2):Prop:=
 ∀ (value fL:Expr)(pins:List (Addr×Obj))(s:Shared)(σ:St)(H:Hp)(x y:V)(v u:Value)(Q:VK),Inv X pins σ H s->RelV x v->RelV y u->r x y H Q ->
  subscripted fL false v u=operate [v,u] (getItem v u)->wpAny (model X.prog X.w) X.A (subscriptTail value fL v u) (EP X pins σ Q) X.xe s
def NB(X:Cx)(id:String)(r:V->List V->Hp->VK->Prop):Prop:=
 ∀ (pins:List (Addr×Obj))(s:Shared)(σ:St)(H:Hp)(x:V)(xs:List V)(v:Value)(us:List Value)(Q:VK),Inv X pins σ H s->RelV x v->Vals xs us->r x xs H Q ->
  wpAny (model X.prog X.w) X.A (call (.builtin id) (v::us)) (EP X pins σ Q) X.xe s
section
variable{X:Cx}{a b:Expr}{ta tb:TE}{pos:Pos}
theorem dq{r:R2}(hr:Gw X r)(ha:PE X a ta)(hb:PE X b tb)(hs:qS b):PE X (.Subscript a b pos) (Gi r ta tb):=by
 intro pins s σ H Q I h;exact Subscript_ (wu ha hb I h fun v u s2 x y H2 I2 rx ry q=>hr a b pins s2 σ H2 x y v u Q I2 rx ry q (hs _ _))
def LQ(K:aq):R2:=fun x y H Q=>∃ p xs i v,x=.ref p/\y=.int i/\SqL K H p xs/\zH xs i=some v/\Q v H
def LR(K:aq):R2:=fun x y H Q=>∃ p xs i v,x=.ref p/\y=.int i/\SqT K H p xs/\zH xs i=some v/\Q v H
theorem qz:Gw X (LQ X.K):=by
 intro value fL pins s σ H x y v u Q I rx ry h hs;obtain⟨p,xs,i,z,rfl,rfl,hq,he,q⟩:=h;cases rx;obtain⟨t,rfl⟩:=ry;obtain⟨its,r,pl,hz⟩:=I.list hq;obtain⟨j,h1,h2,h3,h4,h5⟩:=PB he;obtain⟨w,ew,gJ⟩:=r.get h2;have hl:=r.length;have hn:=zC;have fin:EP X pins σ Q w s:=⟨z,H,I,gJ,q⟩;by_cases h0:0<=i
 ·have hj:i.toNat=j:=by
   rw [seqIndex_of h0 h5]at h1;exact Option.some.inj h1
  exact item_listR pl.isList h0 (by omega) (by rw [hj];simpa using ew) fin hs
 ·have hj:(i+(its.toArray.size:Int)).toNat=j:=by
   rw [seqIndex_neg (by omega) h4]at h1
   rw [fZ,<-hl];exact Option.some.inj h1
  exact subscriptTail_builtinR (x:=w) pl.isList.typeIs slot_list_getitem.lookup
   (wpAny_getItem_list_neg (Q:=fun r s'=>r=w/\EP X pins σ Q r s') pl.isList (by omega) (by rw [fZ]<;>omega) (by omega) (by rw [hj];simpa using ew) ⟨rfl,fin⟩) hs
theorem zy:Gw X (LR X.K):=by
 intro value fL pins s σ H x y v u Q I rx ry h hs;obtain⟨p,xs,i,z,rfl,rfl,hq,he,q⟩:=h;cases rx;obtain⟨t,rfl⟩:=ry;obtain⟨its,r,pl,hz⟩:=I.tuple hq;obtain⟨j,h1,h2,h3,h4,h5⟩:=PB he;obtain⟨w,ew,gJ⟩:=r.get h2;have hl:=r.length;have hn:=zC;have fin:EP X pins σ Q w s:=⟨z,H,I,gJ,q⟩;exact subscriptTail_builtinR (x:=w) pl.typeIs slot_tuple_getitem.lookup
  (getItem_tuple (j:=j) (Q:=fun r s'=>r=w/\EP X pins σ Q r s') pl (by omega) (by omega) (by rw [fZ,<-hl];exact h1) (by simpa using ew) ⟨rfl,fin⟩) hs
theorem ZaZ(its:List Value)(n j:Nat)(u:Value):Obj.mapSeq (·.setIfInBounds j u) { cls:=.type "list",data:=.seq its.toArray n }={ cls:=.type "list",data:=.seq (its.set j u).toArray n }:=by
 simp [Obj.mapSeq]
theorem Inv.lst{pins:List (Addr×Obj)}{σ:St}{H:Hp}{s:Shared}{p:Addr}{xs:List V}(I:Inv X pins σ H s)(h:H p=some (.lst xs)):
  ∃ (its:List Value)(n:Nat),Vals xs its/\s.heap.get? p=some { cls:=.type "list",data:=.seq its.toArray n }/\xs.length<=sizeLine:=by
 obtain⟨z,its,n,r,e⟩:=I.hok p _ h;exact⟨its,n,r,e,z⟩
theorem Inv.lstUpd{pins:List (Addr×Obj)}{σ:St}{H:Hp}{s:Shared}{p:Addr}{xs ys:List V}{its its':List Value}{n n':Nat}{f:Obj->Obj}(I:Inv X pins σ H s)(h:H p=some (.lst xs))
  (ho:s.heap.get? p=some { cls:=.type "list",data:=.seq its.toArray n })(hf:f { cls:=.type "list",data:=.seq its.toArray n }={ cls:=.type "list",data:=.seq its'.toArray n' })(r:Vals ys its')(hz:ys.length<=sizeLine)(t:Nat):
  Inv X pins σ (upd H p (.lst ys)) { s with heap:=s.heap.update p f,toks:=t }:=by
 have e:(s.heap.update p f).get? p=some { cls:=.type "list",data:=.seq its'.toArray n' }:=by
  rw [lY f ho (by rw [hf]<;>rfl),hf]
 refine I.write (x:=p) (e:=p) (by rw [h];trivial) (.inl rfl) (fun b u hb q=>(j0 _ _ (Ne.symm hb)).trans q) ⟨_,e⟩ ?_
 exact⟨hz,its',n',r,e⟩
def DE:V->V->V->Hp->(Hp->Prop)->Prop:=fun o i v H Q=>∃ p xs k j,o=.ref p/\i=.int k/\H p=some (.lst xs)/\qN xs.length k=some j/\Q (upd H p (.lst (xs.set j v)))
theorem Je:vP X DE:=by
 intro pins s σ H o i v ov iv u Q I ro ri rv h;obtain⟨p,xs,k,j,rfl,rfl,hp,hj,q⟩:=h;cases ro;obtain⟨t,rfl⟩:=ri;obtain⟨its,n,r,ho,hz⟩:=I.lst hp;obtain⟨h1,h2,h3,h4⟩:=PF hj;have hl:=r.length;have hn:=zC;have I':Inv X pins σ (upd H p (.lst (xs.set j v))) { s with heap:=s.heap.update p (Obj.mapSeq (·.setIfInBounds j u)) }:=
  I.lstUpd hp ho (ZaZ its n j u) (r.set rv j) (by rw [List.length_set];exact hz) s.toks
 by_cases h0:0<=k
 ·have hk:k.toNat=j:=by
   rw [seqIndex_of h0 h4]at h1;exact Option.some.inj h1
  exact PySem.W.ki_setAt ho h0 (by omega) (by rw [fZ,<-hl];exact h4) (by rw [hk];exact⟨_,I',q⟩)
 ·have hk:(k+(its.toArray.size:Int)).toNat=j:=by
   rw [seqIndex_neg (by omega) h3]at h1
   rw [fZ,<-hl];exact Option.some.inj h1
  exact PySem.W.ki_setBack ho (by omega) (by rw [fZ,<-hl];exact h3) (by omega) (by rw [hk];exact⟨_,I',q⟩)
theorem Z8G(lo hi:Option Int)(n:Nat):(sliceBounds lo hi none n).1=((HT.sIx n 0 lo:Nat):Int)/\(sliceBounds lo hi none n).2.1=((HT.sIx n n hi:Nat):Int)/\(sliceBounds lo hi none n).2.2=1:=by
 refine⟨?_,?_,rfl⟩
 ·cases lo with
  |none=>simp [sliceBounds,HT.sIx]
  |some i =>
   simp only [sliceBounds,HT.sIx,Option.getD_none,show(1:Int) > 0 by decide,cu]
   by_cases h:i<0
   ·simp only [h,cu]<;>omega
   ·simp only [h,bv]<;>omega
 ·cases hi with
  |none=>simp [sliceBounds,HT.sIx]
  |some i =>
   simp only [sliceBounds,HT.sIx,Option.getD_none,show(1:Int) > 0 by decide,cu]
   by_cases h:i<0
   ·simp only [h,cu]<;>omega
   ·simp only [h,bv]<;>omega
theorem Z8z(its:List Value)(lo hi:Option Int):slicePick its.toArray lo hi none=((its.drop (HT.sIx its.length 0 lo)).take (HT.sIx its.length its.length hi-HT.sIx its.length 0 lo)).toArray:=by
 obtain⟨h1,h2,h3⟩:=Z8G lo hi its.toArray.size;unfold slicePick;rw [h1,h2,h3];simp only [sliceRange_one,pick_run,fZ]<;>rfl
def LV(K:aq):V->Option Int->Option Int->Hp->VK->Prop:=fun x lo hi H Q=>∃ a xs,x=.ref a/\SqL K H a xs/\∀ p,H p=none->Q (.ref p) (upd H p (.lst (j5 xs lo hi)))
theorem t9:ND X (LV X.K):=by
 intro pins s σ H x v vl vu lo hi sl Q I rx hs pl pu h;obtain⟨a,xs,rfl,hx,q⟩:=h;cases rx;obtain⟨its,r,ht,hz⟩:=I.list hx;have bQ:=r.length;refine⟨"list",_,slot_list_getitem.lookup,ht.isList.typeIs,?_⟩;refine wpAny_getItem_list_slice ht.isList hs pl pu .none (by simp) ?_ (by rw [fZ]<;>omega)
 rw [Z8z,<-bQ];refine⟨.ref s.heap.objs.size,_,I.laid (t':=s.toks) (o:=.lst (j5 xs lo hi)) (fun b ob q=>dE _ q) (bO _) ?_,rfl,q _ (I.hok.fresh (bO _))⟩;exact⟨iE (Z9O xs lo hi) hz,_,0,(r.drop (HT.sIx xs.length 0 lo)).take (HT.sIx xs.length xs.length hi-HT.sIx xs.length 0 lo),fj _ rfl⟩
def gy:V->Bool
 |.non=>true
 |.bl _=>true
 |.int _=>true
 |.str _=>true
 |_=>false
def qF:V->V->Bool
 |.non,.non=>true
 |.bl a,.bl b=>a==b
 |.bl a,.int b=>(if a then 1 else 0)==b
 |.int a,.bl b=>a==(if b then 1 else 0)
 |.int a,.int b=>a==b
 |.str a,.str b=>a==b
 |_,_=>false
theorem wJ{A:Around}{s:Shared}{y x:V}{u v:Value}(ry:RelV y u)(rx:RelV x v)(fy:gy y=true)(fx:gy x=true):SeqAt.EqAt A s u v (qF y x):=by
 cases y with
 |non =>
  cases ry;cases x with
  |non=>cases rx;exact SeqAt.EqAt.same _
  |bl b=>cases rx;exact SeqAt.EqAt.none_bool b
  |int b=>obtain⟨t,rfl⟩:=rx;exact SeqAt.EqAt.none_int b t
  |str b=>obtain⟨t,rfl⟩:=rx;exact SeqAt.EqAt.none_str b t
  |_=>exact absurd (show false=true from fx) fi
 |bl a =>
  cases ry;cases x with
  |non=>cases rx;exact SeqAt.EqAt.bool_none a
  |bl b=>cases rx;exact SeqAt.EqAt.bool_bool a b
  |int b=>obtain⟨t,rfl⟩:=rx;exact SeqAt.EqAt.bool_int a b t
  |str b=>obtain⟨t,rfl⟩:=rx;exact SeqAt.EqAt.bool_str a b t
  |_=>exact absurd (show false=true from fx) fi
 |int a =>
  obtain⟨t',rfl⟩:=ry;cases x with
  |non=>cases rx;exact SeqAt.EqAt.int_none a t'
  |bl b=>cases rx;exact SeqAt.EqAt.int_bool a t' b
  |int b=>obtain⟨t,rfl⟩:=rx;exact SeqAt.EqAt.int_int a t' b t
  |str b=>obtain⟨t,rfl⟩:=rx;exact SeqAt.EqAt.int_str a t' b t
  |_=>exact absurd (show false=true from fx) fi
 |str a =>
  obtain⟨t',rfl⟩:=ry;cases x with
  |non=>cases rx;exact SeqAt.EqAt.str_none a t'
  |bl b=>cases rx;exact SeqAt.EqAt.str_bool a t' b
  |int b=>obtain⟨t,rfl⟩:=rx;exact SeqAt.EqAt.str_int a t' b t
  |str b=>obtain⟨t,rfl⟩:=rx;exact SeqAt.EqAt.str_str a t' b t
  |_=>exact absurd (show false=true from fx) fi
 |_=>exact absurd (show false=true from fy) fi
def so(x:V)(u:Value):Bool:=match u with
 |.none=>qF .non x
 |.bool b=>qF (.bl b) x
 |.int i _=>qF (.int i) x
 |.str z _=>qF (.str z) x
 |_=>false
theorem nS{x y:V}{u:Value}(r:RelV y u)(f:gy y=true):so x u=qF y x:=by
 cases y with
 |non=>cases r;rfl
 |bl b=>cases r;rfl
 |int i=>obtain⟨t,rfl⟩:=r;rfl
 |str z=>obtain⟨t,rfl⟩:=r;rfl
 |_=>exact absurd (show false=true from f) fi
theorem IV{x:V}:∀ {xs:List V}{us:List Value},Vals xs us->xs.all gy=true->us.any (so x)=xs.any fun y=>qF y x
 |_,_,.nil,_=>rfl
 |y::xs,u::us,.cons r t,f=>by
  rw [List.all_cons,i3]at f;rw [AS,AS,nS r f.1,IV t f.2]
theorem Jc{A:Around}{s:Shared}{x:V}{v:Value}(rx:RelV x v)(fx:gy x=true):∀ {xs:List V}{us:List Value},Vals xs us->xs.all gy=true->∀ u∈us,SeqAt.EqAt A s u v (so x u)
 |_,_,.nil,_=>fun u hu=>by cases hu
 |y::xs,u::us,.cons r t,f=>fun u' hu=>by
  rw [List.all_cons,i3]at f;rcases bw.mp hu with rfl |hu
  ·rw [nS r f.1];exact wJ r rx f.1 fx
  ·exact Jc rx fx t f.2 u' hu
def F1(x:V)(xs:List V):Bool:=xs.any fun y=>qF y x
def rIn(K:aq)(neg:Bool):R2:=fun x y H Q=>∃ p xs,y=.ref p/\(SqL K H p xs\/SqT K H p xs)/\gy x=true/\xs.all gy=true/\Q (.bl (if neg then !F1 x xs else F1 x xs)) H
theorem Zbu:iC X (compareOp .In) (rIn X.K false):=by
 intro pins s σ H x y v u Q I rx ry h;obtain⟨p,xs,rfl,hq,fx,fs,q⟩:=h;cases ry;rcases hq with hq |hq
 ·obtain⟨its,r,pl,hz⟩:=I.list hq;refine SeqAt.in_listAt (so x) pl.isList (fun w hw=>Jc rx fx r fs w (by simpa using hw)) ⟨.bl _,H,I,rfl,?_⟩
  rw [show its.toArray.any (so x)=its.any (so x) by simp,IV r fs]
  exact q
 ·obtain⟨its,r,pl,hz⟩:=I.tuple hq;refine SeqAt.in_tupleAt (so x) pl (fun w hw=>Jc rx fx r fs w (by simpa using hw)) ⟨.bl _,H,I,rfl,?_⟩
  rw [show its.toArray.any (so x)=its.any (so x) by simp,IV r fs]
  exact q
theorem rj:jl X (.builtin "len") (fun xs H Q=>∃ p ys,xs=[.ref p]/\(SqL X.K H p ys\/SqT X.K H p ys)/\Q (.int ys.length) H):=by
 intro pins s σ H xs us Q I r h;obtain⟨p,ys,rfl,hq,q⟩:=h;obtain⟨u,rfl,rx⟩:=EG r;cases rx;have hn:=zC;rcases hq with hq |hq
 ·obtain⟨its,r',pl,hz⟩:=I.list hq;have bQ:=r'.length;exact Calls.call_len_list pl.isList (by simp only [fZ]<;>omega) ⟨.int ys.length,H,I.tok _,⟨s.toks+1,by rw [fZ,bQ]⟩,q⟩
 ·obtain⟨its,r',pl,hz⟩:=I.tuple hq;have bQ:=r'.length;exact len_tuple pl (by simp only [fZ]<;>omega) ⟨.int ys.length,H,I.tok _,⟨s.toks+1,by rw [fZ,bQ]⟩,q⟩
def My(K:aq)(T:String)(x:V)(H:Hp):Prop:=match x with
 |.str _=>T = "str"
 |.int _=>T = "int"
 |.ref p=>(T = "list"/\∃ xs,SqL K H p xs)\/(T = "tuple"/\∃ o,K.lookup p=some o/\o.cls=.type "tuple"/\o.dict=none) \/
   (T = "dict"/\((∃ ah,H p=some (.dK ah))\/∃ ah,H p=some (.dT ah)))\/(T = "set"/\∃ S n,H p=some (.set S n))
 |_=>False
theorem qo{pins:List (Addr×Obj)}{σ:St}{H:Hp}{s:Shared}{T:String}{x:V}{v:Value}(I:Inv X pins σ H s)(r:RelV x v)(ty:My X.K T x H):
  s.TypeIs v T/\∀ a,v=.ref a->∃ ob,s.heap.get? a=some ob/\ob.dict=none:=by
 cases x with
 |str z =>
  obtain⟨t,rfl⟩:=r;cases (show T = "str" from ty);exact⟨typeIs_str s z t,fun _ e=>nomatch e⟩
 |int i =>
  obtain⟨t,rfl⟩:=r;cases (show T = "int" from ty);exact⟨typeIs_int s i t,fun _ e=>nomatch e⟩
 |ref p =>
  cases r;rcases ty with⟨rfl,xs,hq⟩ |⟨rfl,o,hk,hc,hd⟩ |⟨rfl,hk⟩ |⟨rfl,S,n,hk⟩
  ·obtain⟨its,_,pl,_⟩:=I.list hq;refine⟨pl.isList.typeIs,fun a e=>?_⟩;cases e;obtain⟨o,n,e,c,hd,_⟩:=pl;exact⟨o,e,hd⟩
  ·refine⟨⟨o,I.kIn p o hk,hc⟩,fun a e=>?_⟩;cases e;exact⟨o,I.kIn _ o hk,hd⟩
  ·have z:∃ o,s.heap.get? p=some o/\o.ExactDict:=by
    rcases hk with⟨ah,hk⟩ |⟨ah,hk⟩
    ·obtain⟨_,_,_,_,o,_,_,e,ex,_⟩:=I.hok p _ hk;exact⟨o,e,ex⟩
    ·obtain⟨_,_,_,_,o,_,_,e,ex,_⟩:=I.hok p _ hk;exact⟨o,e,ex⟩
   obtain⟨o,e,ex⟩:=z;refine⟨⟨o,e,ex.1⟩,fun a e2=>?_⟩;cases e2;exact⟨o,e,ex.2.1⟩
  ·obtain⟨o,_,_,_,e,ex,_⟩:=I.hok p _ hk;refine⟨⟨o,e,ex.1⟩,fun a e2=>?_⟩;cases e2;exact⟨o,e,ex.2.1⟩
 |_=>exact False.elim ty
def Ml(K:aq)(T:String)(r:V->List V->Hp->VK->Prop)(to:TE):TE:=fun σ H Q=>to σ H fun x H1=>My K T x H1/\r x [] H1 Q
def tBM(K:aq)(T:String)(r:V->List V->Hp->VK->Prop)(to:TE)(t:TA):TE:=fun σ H Q=>to σ H fun x H1=>My K T x H1/\t σ H1 fun xs H2=>r x xs H2 Q
variable{o e:Expr}{es:List Expr}{to:TE}{t:TA}{name:Str}{cF bt:Pos}{T id:String}{r:V->List V->Hp->VK->Prop}
theorem yl(pa:PlainAttrs T)(slot:Slot T name id)(KW:typeOf (.builtin id)=pure (.type "method_descriptor"))(hm:NB X id r)(ho:PE X o to)
  (fq:autoParam (attributeBase o name X.env (eval o X.env)=eval o X.env) aR._auto_1)(gZ:autoParam ((cF.endLine==bt.line)=true) aR._auto_1):PE X (.Call (.Attribute o name cF) [] [] bt) (Ml X.K T r to):=by
 intro pins s σ H Q I h;refine wpAny_Call_method0_late fq gZ (aQ (ho pins s σ H _ I h) fun v s1 ⟨x,H1,I1,r1,ty,q1⟩=>?_);obtain⟨h1,h2⟩:=qo I1 r1 ty;exact⟨T,id,pa,slot,KW,h1,h2,Calls.callWith_builtin rfl (PySem.evalArgs_none (hm pins s1 σ H1 x [] v [] Q I1 r1 .nil q1))⟩
theorem lg(pa:PlainAttrs T)(slot:Slot T name id)(KW:typeOf (.builtin id)=pure (.type "method_descriptor"))(hm:NB X id r)(ho:PE X o to)(ha:PA X (e::es) t)
  (fq:autoParam (attributeBase o name X.env (eval o X.env)=eval o X.env) aR._auto_1)
  (Ko:autoParam (((backTo bt (starEach (e::es) X.env)).all (fun x=>!x.1)&&(backToKw bt (keywordEach [] X.env)).all (fun x=>x.1.isSome)
    && decide ((e::es).length+([]:List Keyword).length+(if ([]:List Keyword).isEmpty then 0 else 1)<30))=true) aR._auto_1)
  (gZ:autoParam ((cF.endLine==bt.line)=true) aR._auto_1)(hs:autoParam (starEach (e::es) X.env=(false,eval e X.env)::starEach es X.env) aR._auto_1)(xh:autoParam ((backTo bt (starEach es X.env)).any (·.1)=false) aR._auto_1):
  PE X (.Call (.Attribute o name cF) (e::es) [] bt) (tBM X.K T r to t):=by
 intro pins s σ H Q I h;refine wpAny_Call_method_late fq Ko gZ rfl (aQ (ho pins s σ H _ I h) fun v s1 ⟨x,H1,I1,r1,ty,q1⟩=>?_);obtain⟨h1,h2⟩:=qo I1 r1 ty;refine⟨T,id,pa,slot,KW,h1,h2,?_⟩;have hA:=ha bt pins s1 σ H1 _ I1 q1;rw [hs]at hA ⊢;refine Calls.callWith_builtin (by show(false ||(backTo bt (starEach es X.env)).any (·.1))=false;rw [xh]<;>rfl) (Calls.evalArgs_plain ?_)
 exact aQ hA fun us s2 ⟨vs,H2,I2,r2,q2⟩=>hm pins s2 σ H2 x vs v us Q I2 r1 r2 q2
end
end L2
namespace L2
open PySem PySem.Spec PyProof.Rows
def GD(X:Cx)(id:String)(r:V->List V->Hp->VK->Prop):Prop:=
 ∀ (pins:List (Addr×Obj))(s:Shared)(σ:St)(H:Hp)(x:V)(xs:List V)(v:Value)(us:List Value)(Q:VK),Inv X pins σ H s->RelV x v->Vals xs us->r x xs H Q ->
  wpAny (model X.prog X.w) X.A (call (.builtin id) (v::us)) (EP X pins σ Q) X.xe s
theorem Vals.one:∀ {x:V}{us:List Value},Vals [x] us->∃ u,us=[u]/\RelV x u
 |_,_,.cons r .nil=>⟨_,rfl,r⟩
theorem Vals.zero:∀ {us:List Value},Vals [] us->us=[]
 |_,.nil=>rfl
theorem Vals.dropLast{xs:List V}{us:List Value}(h:Vals xs us):Vals xs.dropLast us.dropLast:=by
 induction h with
 |nil=>exact .nil
 |cons r t ih =>
  cases t with
  |nil=>exact .nil
  |cons q t'=>exact .cons r ih
theorem ZaX{α:Type}(l:List α):l.eraseIdx (l.length-1)=l.dropLast:=by
 induction l with
 |nil=>rfl
 |cons a r ih =>
  cases r with
  |nil=>rfl
  |cons b r =>
   have e:(a::b::r).length-1=((b::r).length-1)+1:=by
    have h1:(a::b::r).length=r.length+2:=rfl;have h2:(b::r).length=r.length+1:=rfl;omega
   rw [e,List.eraseIdx_cons_succ,ih]
   all_goals rfl
section
variable{X:Cx}{pins:List (Addr×Obj)}{σ:St}{H:Hp}{s:Shared}{l b:Addr}{xs ys zs:List V}
theorem Inv.lset{its its':List Value}{n:Nat}{f:Array Value->Array Value}{t':Nat}(I:Inv X pins σ H s)(hH:H l=some (.lst xs))
  (e:s.heap.get? l=some { cls:=.type "list",data:=.seq its.toArray n })(hf:f its.toArray=its'.toArray)(hv:Vals ys its')(hz:ys.length<=sizeLine):
  Inv X pins σ (upd H l (.lst ys)) { s with heap:=s.heap.update l (Obj.mapSeq f),toks:=t' }:=by
 have q:=PySem.IsL.update e f;rw [hf]at q;refine I.write (x:=l) (e:=l) (by rw [hH];exact trivial) (.inl rfl) (fun b' u hb hu=>(j0 s.heap (Obj.mapSeq f) (Ne.symm hb)).trans hu) ⟨_,q⟩ ?_
 exact⟨hz,its',_,hv,q⟩
theorem Inv.lnew{its:List Value}{t':Nat}(I:Inv X pins σ H s)(hv:Vals ys its)(hz:ys.length<=sizeLine):
  Inv X pins σ (upd H s.heap.objs.size (.lst ys)) { s with heap:=s.heap.push { cls:=.type "list",data:=.seq its.toArray },toks:=t' }:=
 I.laid (fun _ _ q=>dE _ q) (bO _) ⟨hz,its,0,hv,fj _ rfl⟩
theorem Inv.fresh(I:Inv X pins σ H s):H s.heap.objs.size=none:=I.hok.fresh (bO _)
theorem Inv.lstM(I:Inv X pins σ H s)(hH:H l=some (.lst xs)):xs.length<=sizeLine/\∃ (its:List Value)(n:Nat),Vals xs its/\xs.length=its.length/\s.heap.get? l=some { cls:=.type "list",data:=.seq its.toArray n }:=by
 obtain⟨z,its,n,r,e⟩:=I.hok l _ hH;exact⟨z,its,n,r,r.length,e⟩
theorem oK{n:Nat}(h:n<=sizeLine):Builtin.List.listTooLong n=false:=by
 unfold Builtin.List.listTooLong;exact aw (by omega)
end
section
variable{X:Cx}
def tO:V->List V->Hp->VK->Prop:=fun x vs H Q=>∃ l xs y,x=.ref l/\vs=[y]/\H l=some (.lst xs)/\xs.length<sizeLine/\Q .non (upd H l (.lst (xs++[y])))
theorem Fv:GD X "list.append" tO:=by
 intro pins s σ H x vs v us Q I rx rv h;obtain⟨l,xs,y,rfl,rfl,hH,hz,q⟩:=h;cases rx;obtain⟨u,rfl,ru⟩:=rv.one;obtain⟨z,its,n,r,hl,e⟩:=I.lstM hH;refine call_meets F.slot_list_append ⟨_,e,rfl⟩ F.entry_list_append (F.args_list_append_2 _ _) (PySem.list_append l its.toArray n u (by rw [fZ];omega)) ⟨e,?_⟩
 refine⟨.non,_,I.lset (its':=its++[u]) hH e (by simp) (r.append (.cons ru .nil)) ?_,rfl,q⟩
 rw [gD,E4];omega
def tP:V->List V->Hp->VK->Prop:=fun x vs H Q=>∃ l b xs zs,x=.ref l/\vs=[.ref b]/\H l=some (.lst xs)/\H b=some (.lst zs)/\xs.length+zs.length<=sizeLine/\Q .non (upd H l (.lst (xs++zs)))
theorem z9:GD X "list.extend" tP:=by
 intro pins s σ H x vs v us Q I rx rv h;obtain⟨l,b,xs,zs,rfl,rfl,hH,hB,hz,q⟩:=h;cases rx;obtain⟨u,rfl,ru⟩:=rv.one;cases ru;obtain⟨z,its,n,r,hl,e⟩:=I.lstM hH;obtain⟨z2,gH,n2,r2,jj,e2⟩:=I.lstM hB;have hsz:its.toArray.size+gH.toArray.size<=sizeLine:=by rw [fZ,fZ];omega
 have Ce:¬ (!its.toArray.isEmpty&&Builtin.List.listTooLong (its.toArray.size+gH.toArray.size))=true:=by
  rw [oK hsz,Bool.and_false];exact fi
 refine call_meets F.slot_list_extend ⟨_,e,rfl⟩ F.entry_list_extend (F.args_list_extend_2 _ _)
  (AutoSeq1.list_extend_list_list_0 l its.toArray n b gH.toArray n2 Ce (by rw [fZ];omega) (by omega)) ⟨e,e2,?_⟩
 refine⟨.non,_,I.lset (its':=its++gH) hH e (by simp) (r.append r2) ?_,rfl,q⟩
 rw [gD];omega
def LU:V->List V->Hp->VK->Prop:=fun x vs H Q=>∃ l xs y,x=.ref l/\vs=[]/\H l=some (.lst xs)/\xs[xs.length-1]?=some y/\Q y (upd H l (.lst xs.dropLast))
theorem xP:GD X "list.pop" LU:=by
 intro pins s σ H x vs v us Q I rx rv h;obtain⟨l,xs,y,rfl,rfl,hH,hy,q⟩:=h;cases rx;have CG:=rv.zero;subst CG;obtain⟨z,its,n,r,hl,e⟩:=I.lstM hH;obtain⟨u,hu,ru⟩:=r.get hy;have K9:its.toArray[its.toArray.size-1]?=some u:=by
  show its.toArray[its.length-1]?=some u;rw [<-G9,<-hl];exact hu
 refine call_meets F.slot_list_pop ⟨_,e,rfl⟩ F.entry_list_pop (F.args_list_pop_1 _) (MeetsSeq.list_pop_last l its.toArray n u K9 (by rw [fZ];omega)) ⟨e,?_⟩
 refine⟨y,_,I.lset (its':=its.dropLast) hH e ?_ r.dropLast ?_,ru,q⟩
 ·show its.toArray.eraseIdxIfInBounds (its.toArray.size-1)=its.dropLast.toArray;rw [fZ,List.eraseIdxIfInBounds_toArray,ZaX]
 ·rw [List.length_dropLast];omega
def LP:R2:=fun x y H Q=>∃ l b xs zs,x=.ref l/\y=.ref b/\H l=some (.lst xs)/\H b=some (.lst zs)/\xs.length+zs.length<=sizeLine/\∀ p,H p=none->Q (.ref p) (upd H p (.lst (xs++zs)))
theorem oU:iC X (binaryOp .Add) LP:=by
 intro pins s σ H x y v u Q I rx ry h;obtain⟨l,b,xs,zs,rfl,rfl,hH,hB,hz,q⟩:=h;cases rx;cases ry;obtain⟨z,its,n,r,hl,e⟩:=I.lstM hH;obtain⟨z2,gH,n2,r2,jj,e2⟩:=I.lstM hB;refine PySem.P.add_list e e2 ?_ (by rw [fZ,fZ];omega)
 have ea:its.toArray++gH.toArray=(its++gH).toArray:=by simp
 rw [ea];exact⟨.ref _,_,I.lnew (t':=s.toks) (r.append r2) (by rw [gD];omega),rfl,q _ I.fresh⟩
end
section
variable{prog:Program}{w:World}{A:Around}{E:Value->Shared->Prop}{s:Shared}
end
section
variable{X:Cx}
end
end L2
namespace L2
open PySem PySem.Spec PyProof.Rows
theorem Vals.ints:∀ {ns:List Int}{us:List Value},Vals (ns.map V.int) us->IntsAre us ns
 |[],us,h=>by
  rw [List.map_nil]at h;cases h;exact IntsAre.nil
 |n::ns,us,h=>by
  rw [ej]at h;cases h with
  |cons r t =>
   obtain⟨k,rfl⟩:=r;exact IntsAre.cons n k (Vals.ints t)
theorem Vals.ref1{a:Addr}{us:List Value}(r:Vals [V.ref a] us):us=[Value.ref a]:=by
 cases r with
 |cons r t =>
  cases t;cases r;rfl
section
variable{prog:Program}{w:World}{A:Around}{E:Value->Shared->Prop}{s:Shared}{l:Addr}{its:List Value}{ns:List Int}{Q:Value->Shared->Prop}
theorem ug(hh:A.handled=none)(hl:s.heap.IsList l its.toArray)(hi:IntsAre its ns)
  (h:∀ h' tk t',(∀ b o,s.heap.get? b=some o->h'.get? b=some o)->Q (.int ns.sum t') { s with heap:=h',toks:=tk }):wpAny (model prog w) A (call (.builtin "sum") [.ref l]) Q E s:=by
 obtain⟨xs,e⟩:=hi.allInts.items;have hn:numsOf (intItems xs).toList=ns:=by rw [<-e];exact hi.numsOf
 rw [nums_intItems]at hn;rw [e]at hl;refine PySem.sum_intListG hh hl fun h' tk t' hk=>?_;have:=h h' tk t' hk;rw [preSum_eq,List.take_of_length_le (by simp),hn];exact this
end
section
variable{X:Cx}
def DF(K:aq):List V->Hp->VK->Prop:=fun vs H Q=>∃ (a:Addr)(ns:List Int),vs=[V.ref a]/\SqL K H a (ns.map V.int)/\Q (.int ns.sum) H
theorem nH(hc:X.calm=true):jl X (.builtin "sum") (DF X.K):=by
 intro pins s σ H vs us Q I r h;obtain⟨a,ns,rfl,hs,q⟩:=h;obtain⟨its,rv,hl,_⟩:=I.list hs;rw [Vals.ref1 r];exact ug (I.ok.hd hc) hl.isList rv.ints fun h' tk t' hk=>⟨.int _,H,I.kept hk,⟨_,rfl⟩,q⟩
end
section
variable{X:Cx}
end
section
variable{X:Cx}
end
section
variable{X:Cx}
end
section
variable{X:Cx}{pins:List (Addr×Obj)}{σ:St}{H:Hp}{s:Shared}
end
section
variable{X:Cx}
end
end L2
namespace L2
open PySem PySem.Spec PyProof.Rows
abbrev my(h:Heap)(c:Addr)(v:Option Value):Prop:=h.IsCell c v
def DG(scope sc:Scope):Scope:=
 { scope with names:=scope.names.map fun(n,k)=>if (k==.free&&sc.kind==.function&&sc.names.lookup n==some .cell)then(n,.cell)else(n,k) }
noncomputable def eZ(cells:List (Str×Addr)):List (Str×NameKind)->List (Str×Addr)->List (Str×Addr)
 |[],acc=>acc
 |(n,k)::r,acc=>if k==.free then eZ cells r ((n,(cells.lookup n).getD 0)::acc)else eZ cells r acc
theorem NR(env:Env)(f:Str×NameKind->List (Str×Addr)->Sem (ForInStep (List (Str×Addr))))
  (hf:∀ n k c,f (n,k) c=if k==.free then(do let a <-cellOf env n;pure (.yield ((n,a)::c)))else pure (.yield c)):
  ∀ (names:List (Str×NameKind))(acc:List (Str×Addr)),(∀ y∈names,y.2=.free->∃ c,env.cells.lookup y.1=some c)->forIn names acc f=pure (eZ env.cells names acc)
 |[],acc,_=>by rw [List.forIn_nil];rfl
 |(n,k)::r,acc,h=>by
  rw [List.forIn_cons,hf];have ih:=fun acc=>NR env f hf r acc fun y hy=>h y (dk _ hy);unfold eZ;by_cases hk:(k==NameKind.free)=true
  ·rw [ae hk,ae hk];obtain⟨c,hc⟩:=h (n,k) cZ (by simpa using hk)
   have e:cellOf env n=pure c:=by unfold cellOf;rw [hc]
   rw [e];have e2:(env.cells.lookup n).getD 0=c:=by rw [hc];rfl
   rw [e2];exact ih _
  ·rw [ac hk,ac hk];exact ih _
theorem HS{scope:Scope}{env:Env}(h:∀ y∈scope.names,y.2=.free->∃ c,env.cells.lookup y.1=some c):closureFor scope env=pure (eZ env.cells scope.names []):=by
 simp only [closureFor];rw [NR env _ (fun n k c=>rfl) scope.names [] h];rfl
theorem A7{α:Type}:∀ {l:List (Str×α)}{n:Str}{c:α},(n,c)∈l->∃ c',l.lookup n=some c'
 |(k,v)::r,n,c,h=>by
  rw [bi];cases hb:n==k with
  |true=>exact⟨_,rfl⟩
  |false =>
   rcases bw.mp h with e |h
   ·cases e;simp at hb
   ·exact A7 h
theorem AX{cells:List (Str×Addr)}:∀ {names:List (Str×NameKind)}{acc:List (Str×Addr)}{n:Str}{c:Addr},(n,c)∈eZ cells names acc->(n,c)∈acc\/((n,.free)∈names/\c=(cells.lookup n).getD 0)
 |[],_,_,_,h=>.inl h
 |(m,k)::r,acc,n,c,h=>by
  unfold eZ at h;split at h
  ·rename_i hk;have hk:k=.free:=by simpa using hk
   rcases AX h with h |⟨h1,h2⟩
   ·rcases bw.mp h with e |h
    ·cases e;exact .inr ⟨hk ▸ cZ,rfl⟩
    ·exact .inl h
   ·exact .inr ⟨dk _ h1,h2⟩
  ·rcases AX h with h |⟨h1,h2⟩
   ·exact .inl h
   ·exact .inr ⟨dk _ h1,h2⟩
theorem Ik{cells:List (Str×Addr)}:∀ {names:List (Str×NameKind)}{acc:List (Str×Addr)}{p:Str×Addr},p∈acc->p∈eZ cells names acc
 |[],_,_,h=>h
 |(m,k)::r,acc,p,h=>by
  unfold eZ;split
  ·exact Ik (dk _ h)
  ·exact Ik h
theorem AY{cells:List (Str×Addr)}:∀ {names:List (Str×NameKind)}{acc:List (Str×Addr)}{n:Str},(n,.free)∈names->(n,(cells.lookup n).getD 0)∈eZ cells names acc
 |(m,k)::r,acc,n,h=>by
  unfold eZ;rcases bw.mp h with e |h
  ·cases e;exact Ik cZ
  ·split
   ·exact AY h
   ·exact AY h
theorem A0:∀ {names:List (Str×NameKind)}{h:Heap}{acc:List (Str×Addr)}{x:Str}{c:Addr},(x,c)∈cellsFrom h.objs.size names acc ->
  (x,c)∈acc\/((x,.cell)∈names/\h.objs.size<=c/\my (pushCells h names) c none)
 |[],_,_,_,_,h=>.inl h
 |(n,k)::r,h,acc,x,c,hm=>by
  unfold cellsFrom at hm;unfold pushCells;split at hm
  ·rename_i hk;rw [ae hk];have hk:k=.cell:=by simpa using hk
   rw [<-kr h { cls:=.type "cell",data:=.cell none }]at hm;rcases A0 hm with hm |⟨h1,h2,h3⟩
   ·rcases bw.mp hm with e |hm
    ·cases e;exact .inr ⟨hk ▸ cZ,bO _,_,fz r _ _ _ (fj _ rfl),rfl⟩
    ·exact .inl hm
   ·rw [kr]at h2;exact .inr ⟨dk _ h1,E5 h2,h3⟩
  ·rename_i hk;rw [ac hk];rcases A0 hm with hm |⟨h1,h2,h3⟩
   ·exact .inl hm
   ·exact .inr ⟨dk _ h1,h2,h3⟩
theorem Fu:∀ {names:List (Str×NameKind)}{n:Nat}{acc:List (Str×Addr)}{p:Str×Addr},p∈acc->p∈cellsFrom n names acc
 |[],_,_,_,h=>h
 |(m,k)::r,n,acc,p,h=>by
  unfold cellsFrom;split
  ·exact Fu (dk _ h)
  ·exact Fu h
theorem Ip:∀ {names:List (Str×NameKind)}{n:Nat}{acc:List (Str×Addr)}{x:Str},(x,.cell)∈names->∃ c,(x,c)∈cellsFrom n names acc
 |(m,k)::r,n,acc,x,h=>by
  unfold cellsFrom;rcases bw.mp h with e |h
  ·cases e;exact⟨n,Fu cZ⟩
  ·split
   ·exact Ip h
   ·exact Ip h
theorem IK:∀ {names:List (Str×NameKind)}{h:Heap}{acc:List (Str×Addr)}{x y:Str}{c:Addr},(∀ p∈acc,p.2<h.objs.size)->(∀ x y c,(x,c)∈acc->(y,c)∈acc->x=y) ->
  (x,c)∈cellsFrom h.objs.size names acc->(y,c)∈cellsFrom h.objs.size names acc->x=y
 |[],_,_,_,_,_,_,hi,h1,h2=>hi _ _ _ h1 h2
 |(n,k)::r,h,acc,x,y,c,hl,hi,h1,h2=>by
  unfold cellsFrom at h1 h2;split at h1
  ·rename_i hk;rw [ae hk]at h2;rw [<-kr h { cls:=.type "cell",data:=.cell none }]at h1 h2;refine IK (h:=h.push _) (fun p hp=>?_) (fun x y c a b=>?_) h1 h2
   ·rw [kr];rcases bw.mp hp with rfl |hp
    ·exact E2 _
    ·exact ze (hl p hp)
   ·rcases bw.mp a with e |a<;>rcases bw.mp b with e' |b
    ·cases e;cases e';rfl
    ·cases e;exact absurd (hl _ b) (il _)
    ·cases e';exact absurd (hl _ a) (il _)
    ·exact hi _ _ _ a b
  ·rename_i hk;rw [ac hk]at h2;exact IK hl hi h1 h2
theorem NK{M:Model}{A:Around}{E:Value->Shared->Prop}{s:Shared}{scope:Scope}{globals:Addr}{i7:List (Str×Addr)}{qual:Str}{func:Option Addr}{code:Value}{ng:Env}{builtins:Addr}{Q:Env->Shared->Prop}
  (h:Q (newEnv scope s.heap.objs.size globals (cellsFrom (s.heap.objs.size+1) scope.names i7) qual func code (some ng) builtins)
    { s with heap:=pushCells (s.heap.push { cls:=.type "dict",data:=.dict #[] }) scope.names }):
  wpAny M A (newFunctionEnv scope globals i7 [] qual func code (some ng) builtins) Q E s:=by
 simp only [newFunctionEnv,Option.isSome_some,cu];refine aa (wpAny_alloc ?_);refine aa (wpAny_layCells _ (fun n k c=>rfl) scope.names i7 _ _ ?_);rw [show({ s with heap:=s.heap.push { cls:=.type "dict",data:=.dict #[] } }:Shared).heap.objs.size=s.heap.objs.size+1 from kr ..]
 rw [List.forIn_nil];exact aa (af (af h))
theorem Il{sc:Scope}:∀ {names:List (Str×NameKind)}{x:Str}{k:NameKind},
  (names.map fun(n,k)=>if (k==NameKind.free&&sc.kind==.function&&sc.names.lookup n==some .cell)then(n,NameKind.cell)else(n,k)).lookup x=some k ->
  ∃ k',names.lookup x=some k'/\(k=k'\/(k'=.free/\k=.cell))
 |[],_,_,h=>by simp at h
 |(n,k₀)::r,x,k,h=>by
  have ih:=@Il sc r x k;have h':List.lookup x ((if (k₀==NameKind.free&&sc.kind==.function&&sc.names.lookup n==some .cell)=true then(n,NameKind.cell)else(n,k₀))::(r.map _))=some k:=h;cases hx:x==n with
  |true =>
   simp only [bi,hx];by_cases hc:(k₀==NameKind.free&&sc.kind==.function&&sc.names.lookup n==some .cell)=true
   ·rw [ae hc]at h';simp only [bi,hx]at h';cases h';simp only [i3,aJ]at hc;exact⟨k₀,rfl,.inr ⟨hc.1.1,rfl⟩⟩
   ·rw [ac hc]at h';simp only [bi,hx]at h';cases h';exact⟨_,rfl,.inl rfl⟩
  |false =>
   simp only [bi,hx];by_cases hc:(k₀==NameKind.free&&sc.kind==.function&&sc.names.lookup n==some .cell)=true
   ·rw [ae hc]at h';simp only [bi,hx]at h';exact ih h'
   ·rw [ac hc]at h';simp only [bi,hx]at h';exact ih h'
structure cY(N:List Str)(sc scope:Scope)(own:List (Str×Nat)):Prop where
 kind:scope.kind=.function
 uniq:∀ y∈scope.names,scope.names.lookup y.1=some y.2
 ix:∀ p∈own,N[p.2]?=some p.1
 free:∀ y∈scope.names,y.2=.free->sc.names.lookup y.1=some .cell\/sc.names.lookup y.1=some .free
 own:∀ y∈scope.names,y.2=.local\/y.2=.cell->y.1∈own.map (·.1)\/y.1∉N
def bX(σ:St):List Nat->St
 |[]=>σ
 |v::vs=>(bX σ vs).set v none
theorem Ff(σ:St):∀ vs:List Nat,(bX σ vs).length=σ.length
 |[]=>rfl
 |v::vs=>by unfold bX;rw [List.length_set,Ff σ vs]
theorem Fs{σ:St}{i:Nat}{x:V}:∀ {vs:List Nat},(bX σ vs)[i]?=some (some x)->σ[i]?=some (some x)/\i∉vs
 |[],h=>⟨h,by simp⟩
 |v::vs,h=>by
  unfold bX at h;by_cases hi:v=i
  ·subst hi;by_cases hv:v<(bX σ vs).length
   ·rw [AO hv]at h;cases h
   ·rw [Ha (by simpa using hv)]at h;cases h
  ·rw [EY hi]at h;obtain⟨h1,h2⟩:=Fs h;exact⟨h1,by simp only [bw,b9];exact⟨fun e=>hi e.symm,h2⟩⟩
abbrev Cx.blk(X:Cx)(s:Shared)(H:Hp)(scope:Scope)(cj:Env)(fp:List Addr):Cx:={ X with s_0:=s,H_0:=H,env:=cj,outer:=X.stack,ex:=fp,fn:=fun x=>scope.names.lookup x==some .cell,pn:=[],xe:=fun _ _=>False }
section
variable{X:Cx}{pins:List (Addr×Obj)}{σ:St}{H:Hp}{s:Shared}
theorem NH{scope:Scope}{own:List (Str×Nat)}{fp:List Addr}(I:Inv X pins σ H s)(ok:cY X.N X.env.scope scope own)(hN:X.N.Nodup)(zR:∀ b∈fp,eN X pins H b/\b<s.heap.objs.size):
  Inv (X.blk s H scope (compEnvC scope (cellsFrom (s.heap.objs.size+1) scope.names (eZ X.env.cells scope.names [])) s.heap.objs.size X.env) fp) [] (bX σ (own.map (·.2))) H { s with heap:=pushCells (s.heap.push { cls:=.type "dict",data:=.dict #[] }) scope.names }:=by
 have eE:∀ y∈scope.names,y.2=.free->∃ c,X.env.cells.lookup y.1=some c:=fun y hy e=>by
  rcases ok.free y hy e with k |k
  ·exact I.ok.has _ (.inl k)
  ·exact I.ok.has _ (.inr k)
 generalize jv:compEnvC scope (cellsFrom (s.heap.objs.size+1) scope.names (eZ X.env.cells scope.names [])) s.heap.objs.size X.env=cj;have kp:∀ b o,s.heap.get? b=some o->(pushCells (s.heap.push { cls:=.type "dict",data:=.dict #[] }) scope.names).get? b=some o:=fun b o e=>fz _ _ _ _ (dE _ e);have hL:cj.locals=s.heap.objs.size:=by rw [<-jv];rfl
 have oi:cj.cells=cellsFrom (s.heap.objs.size+1) scope.names (eZ X.env.cells scope.names []):=by rw [<-jv];rfl
 have KS:cj.scope=DG scope X.env.scope:=by rw [<-jv];rfl
 rw [<-kr s.heap { cls:=.type "dict",data:=.dict #[] }]at oi;have cm:∀ {y c},(y,c)∈eZ X.env.cells scope.names []->X.env.cells.lookup y=some c/\c<s.heap.objs.size:=fun{y c} hm=>by
  rcases AX hm with hm |⟨h1,rfl⟩
  ·cases hm
  ·obtain⟨c,hc⟩:=eE _ h1 rfl;rw [hc];obtain⟨w,z⟩:=I.cell _ _ hc;exact⟨rfl,z.lt⟩
 have mem:∀ {y c},cj.cells.lookup y=some c->(X.env.cells.lookup y=some c/\c<s.heap.objs.size)\/(s.heap.objs.size+1<=c/\my (pushCells (s.heap.push { cls:=.type "dict",data:=.dict #[] }) scope.names) c none):=fun{y c} e=>by
  rw [oi]at e;rcases A0 (PySem.mem_of_lookup e)with hm |⟨_,h2,h3⟩
  ·exact .inl (cm hm)
  ·rw [kr]at h2;exact .inr ⟨h2,h3⟩
 have look:∀ {y},scope.names.lookup y=some .free->∃ c,cj.cells.lookup y=some c/\X.env.cells.lookup y=some c:=fun{y} hl=>by
  have hy:(y,NameKind.free)∈scope.names:=PySem.mem_of_lookup hl;obtain⟨c',e'⟩:=A7 (Fu (names:=scope.names) (n:=(s.heap.push { cls:=.type "dict",data:=.dict #[] }).objs.size) (AY (cells:=X.env.cells) (acc:=[]) hy));rw [<-oi]at e';refine⟨c',e',?_⟩;rw [oi]at e';rcases A0 (PySem.mem_of_lookup e')with hm |⟨h1,_,_⟩
  ·exact(cm hm).1
  ·have:=ok.uniq _ h1;rw [hl]at this;cases this
 have okB:(X.blk s H scope cj fp).Ok:=by
  refine⟨I.ok.mod,by show cj.scope.kind=_;rw [KS];exact ok.kind,by show cj.globals=_;rw [<-jv];exact I.ok.glob,by show cj.builtins=_;rw [<-jv];exact I.ok.blt,by show s.heap.objs.size<=cj.locals;rw [hL];exact bO _,
   fun y z c e1 e2=>?_,fun y hy=>?_,fun y c z e=>?_,I.ok.hd,I.ok.frames,.inl rfl,fun b hb=>⟨?_,fun y c e z=>?_⟩,I.bs,iE I.ok.bsz I.sz,fun b o e hb=>?_,fun b hb z=>?_,I.stack,I.stkFree⟩
  ·have e1:cj.cells.lookup y=some c:=e1;have e2:cj.cells.lookup z=some c:=e2;rw [oi]at e1 e2;refine IK (fun p hp=>?_) (fun y z c a b=>I.ok.inj y z c (cm a).1 (cm b).1) (PySem.mem_of_lookup e1) (PySem.mem_of_lookup e2);rw [kr];exact ze (cm (y:=p.1) (c:=p.2) hp).2
  ·show ∃ c,cj.cells.lookup y=some c;have key:∀ k,cj.kindOf y=some k->(k=.cell\/k=.free)->∃ c,cj.cells.lookup y=some c:=fun k hk zS=>by
    unfold Env.kindOf at hk;rw [KS]at hk;obtain⟨k',e,r⟩:=Il hk;have:k'=.cell\/k'=.free:=by
     rcases r with rfl |⟨rfl,_⟩
     ·exact zS
     ·exact .inr rfl
    rcases this with rfl |rfl
    ·obtain⟨c,hm⟩:=Ip (n:=(s.heap.push { cls:=.type "dict",data:=.dict #[] }).objs.size) (acc:=eZ X.env.cells scope.names []) (PySem.mem_of_lookup e);obtain⟨c',e'⟩:=A7 hm;exact⟨c',by rw [oi];exact e'⟩
    ·obtain⟨c,h1,_⟩:=look e;exact⟨c,h1⟩
   rcases hy with hy |hy
   ·exact key _ hy (.inl rfl)
   ·exact key _ hy (.inr rfl)
  ·have z:(scope.names.lookup y==some NameKind.cell)=true:=z;have z:scope.names.lookup y=some .cell:=by simpa using z
   have e:cj.cells.lookup y=some c:=e;rw [oi]at e;rcases A0 (PySem.mem_of_lookup e)with hm |⟨_,h2,_⟩
   ·rcases AX hm with hm |⟨h1,_⟩
    ·cases hm
    ·have q:=ok.uniq _ h1;rw [z]at q;cases q
   ·rw [kr]at h2;exact E5 h2
  ·show b≠cj.locals;rw [hL];exact eG (zR b hb).2
  ·have e:cj.cells.lookup y=some c:=e;rcases mem e with⟨h1,_⟩ |⟨h1,_⟩
   ·exact(zR b hb).1.2.2.2.2.1 y c h1 z
   ·have h2:s.heap.objs.size+1<=b:=by rw [<-z];exact h1
    exact absurd (iD (zR b hb).2 (E5 h2)) (il _)
  ·rcases(zR b hb).1.2.2.2.1 with z |z
   ·exact I.ok.noex b o e z
   ·exact absurd (iD (cz e) (iE I.ok.bsz z)) (il _)
  ·rcases bw.mp (I.stkSub b z)with z |z
   ·exact(zR b hb).1.2.1 z
   ·exact(zR b hb).1.2.2.1 z
 refine⟨okB,rfl,I.bare,Un.kept kp,⟨fun _=>none,?_,fun i y av e1 e2 e3=>?_⟩,fun y c e=>?_,?_,fun y c e=>?_,fun p hp=>?_,I.hok.kept kp,by rw [Ff];exact I.len⟩
 ·show Heap.Ns _ cj.locals _;rw [hL];exact Heap.Ns.keeps (Heap.Ns.new ..) fun b o e=>fz _ _ _ _ e
 ·obtain⟨e2,bV⟩:=Fs e2;have cM:scope.names.lookup y=some .free/\(cj.kindOf y=some .cell\/cj.kindOf y=some .free):=by
   have key:∀ k,cj.scope.names.lookup y=some k->k=.local\/k=.cell\/k=.free->scope.names.lookup y=some .free/\(cj.kindOf y=some .cell\/cj.kindOf y=some .free):=fun k hk zS=>by
    have Cd:=hk;rw [KS]at hk;obtain⟨k',e,r⟩:=Il hk;have no:¬ (k'=.local\/k'=.cell):=fun hh=>by
     rcases ok.own _ (PySem.mem_of_lookup e) hh with e' |e'
     ·obtain⟨p,hp,hpy⟩:=i4.mp e';have e3:=ok.ix p hp;have:p.1=y:=hpy;rw [this]at e3;exact bV (i4.mpr ⟨p,hp,IB hN e3 e1⟩)
     ·exact e' (gL e1)
    rcases r with rfl |⟨rfl,rfl⟩
    ·rcases zS with rfl |rfl |rfl
     ·exact absurd (.inl rfl) no
     ·exact absurd (.inr rfl) no
     ·exact⟨e,.inr Cd⟩
    ·exact⟨e,.inl Cd⟩
   have e3:zb cj.scope y:=e3;rcases e3 with e3 |e3 |e3
   ·exact key _ e3 (.inl rfl)
   ·exact key _ e3 (.inr (.inl rfl))
   ·exact key _ e3 (.inr (.inr rfl))
  obtain⟨m,hn,hl⟩:=I.loc;have K2:zb X.env.scope y:=(ok.free _ (PySem.mem_of_lookup cM.1) rfl).elim (fun k=>.inr (.inl k)) (fun k=>.inr (.inr k));obtain⟨w,r,q⟩:=hl i y av e1 e2 K2;refine⟨w,r,.inr ⟨cM.2,?_⟩⟩;obtain⟨c,h1,h2⟩:=look cM.1;rcases q with⟨k,_⟩ |⟨_,c',e',z⟩
  ·have k:X.env.scope.names.lookup y=some .local:=k;rcases ok.free _ (PySem.mem_of_lookup cM.1) rfl with k' |k'<;>rw [show X.env.scope.names.lookup y=_ from k']at k<;>cases k
  ·rw [h2]at e';cases e';exact⟨c,h1,z.keeps kp⟩
 ·have e:cj.cells.lookup y=some c:=e;rcases mem e with⟨h1,_⟩ |⟨_,z⟩
  ·obtain⟨w,z⟩:=I.cell y c h1;exact⟨w,z.keeps kp⟩
  ·exact⟨_,z⟩
 ·show H cj.locals=none;rw [hL];exact I.hok.fresh (bO _)
 ·have e:cj.cells.lookup y=some c:=e;rcases mem e with⟨h1,_⟩ |⟨h1,_⟩
  ·exact I.freeC y c h1
  ·exact I.hok.fresh (E5 h1)
 ·exact absurd (show p∈([]:List (Addr×Obj))++[]from hp) (by simp)
theorem mY{E:Value->Shared->Prop}{D:Addr}{xs:List V}{y:V}{v:Value}{Q:Value->Shared->Prop}(I:Inv X pins σ H s)(hD:H D=some (.lst xs))(hz:xs.length<sizeLine)(r:RelV y v)
  (h:∀ s',Inv X pins σ (upd H D (.lst (xs++[y]))) s'->Q .none s'):wpAny (model X.prog X.w) X.A (call (.builtin "list.append") [.ref D,v]) Q E s:=by
 obtain⟨vd,its,n,ri,e⟩:=I.hok D _ hD;have hl:=ri.length;refine append_at (hsz:=by rw [fZ];omega) e fun h' sb kT=>?_
 refine h { s with heap:=h' } (I.write (t':=s.toks) (by rw [hD];trivial) (.inl rfl) (fun b u hb q=>(sb.2 b hb).trans q) ⟨_,kT⟩ ⟨by rw [gD];exact hz,its++[v],n+1,ri.append (.cons r .nil),?_⟩)
 rw [kT];simp
def za(X:Cx)(fg:List Expr)(t:TT):Prop:=
 ∀ (pins:List (Addr×Obj))(s:Shared)(σ:St)(H:Hp)(Q:Bool->Hp->Prop),Inv X pins σ H s->t σ H Q ->
  wpAny (model X.prog X.w) X.A (forIn fg true fun c r=>if r=true then do let ok <-isTrue c X.env (eval c X.env);pure (ForInStep.yield ok)else pure (ForInStep.yield r)) (TP X pins σ Q) X.xe s
def Mw:TT:=fun _ H Q=>Q true H
theorem mQ:za X [] Mw:=fun _ _ _ H _ I h=>wpAny_tests_nil ⟨H,I,h⟩
end
theorem jh{α:Type}{t:Sem α}{Q Q':α->Shared->Prop}{M:Model}{A:Around}{E:Value->Shared->Prop}{s:Shared}(h:wpAny M A t Q (fun _ _=>False) s)(hQ:∀ a s,Q a s->Q' a s):wpAny M A t Q' E s:=ax h hQ fun _ _ z=>False.elim z
theorem NQ{prog:Program}{w:World}{A:Around}{R:Result->Shared->Prop}{s:Shared}{ff gm iter:Expr}{fg:List Expr}{scope:Scope}{pos:Pos}{it acc:Value}{env:Env}(I:Nat->Shared->Prop)
  (turn:∀ n s,I n s->wpAny (model prog w) A (pyNext it) (fun r s₁=>match r with
    |none=>R (.ok .next) s₁
    |some v=>wpAny (model prog w) A (letOwnedTupleGo gm it v) (fun _ RG=>wpAny (model prog w) A (assign gm env v) (fun _ s₂ =>
      wpAny (model prog w) A (forIn fg true fun c r=>if r=true then do let ok <-isTrue c env (eval c env);pure (ForInStep.yield ok)else pure (ForInStep.yield r)) (fun ok s₃ =>
       if ok=true then wpAny (model prog w) A (eval ff env) (fun x s₄ =>
        wpAny (model prog w) A (call (.builtin "list.append") [acc,x]) (fun _ s₅=>∃ m,m<n/\I m s₅) (notedBy (model prog w) A env fun e s'=>R (.error e) s') s₄) (notedBy (model prog w) A env fun e s'=>R (.error e) s') s₃
       else ∃ m,m<n/\I m s₃) (notedBy (model prog w) A env fun e s'=>R (.error e) s') s₂) (notedBy (model prog w) A env fun e s'=>R (.error e) s') RG) (notedBy (model prog w) A env fun e s'=>R (.error e) s') s₁) (notedBy (model prog w) A env fun e s'=>R (.error e) s') s)
  (n:Nat)(h:I n s):
  codeAny (model prog w) A (.compLoop (.ListComp ff [⟨gm,iter,fg,0⟩] scope pos) 0 it acc env) R s:=by
 refine codeAny_loop rfl I (fun n s hI=>?_) n h;show wpAny _ A ((compTurn (.ListComp ff [⟨gm,iter,fg,0⟩] scope pos) 0 it acc env).onRaise (fun x=>do noteFrame x env;theTreesLotGoes x)) _ _ s
 refine wpAny_noted ?_;rw [compTurn_list];refine aa (bp (aa (ax (turn n s hI) (fun r s₁ h₁=>?_) fun _ _ h'=>h')));cases r with
 |none=>exact af h₁
 |some v =>
  refine aa (ax h₁ (fun _ RG h₁'=>?_) fun _ _ h'=>h');refine aa (ax h₁' (fun _ s₂ h₂=>aa (ax h₂ (fun ok s₃ h₃=>?_) fun _ _ h'=>h')) fun _ _ h'=>h');cases ok with
  |false=>exact af ⟨rfl,h₃⟩
  |true =>
   exact aa (aa (ax h₃ (fun x s₄ h₄=>aa (ax h₄ (fun _ s₅ h₅=>af (af ⟨rfl,h₅⟩)) fun _ _ h'=>h')) fun _ _ h'=>h'))
section
variable{X:Cx}
def yP(wi:TI)(g:TG)(tt:TT)(te:TE)(vs:List Nat):TE:=fun σ H Q=>wi σ H fun J H1=>∀ D,H1 D=none->∃ W:Nat->Nat->Hp->Prop,(∃ m,W 0 m (upd H1 D (.lst [])))/\∀ i m H,W i m H ->
 (J.stop i H/\Q (.ref D) H)\/(J.go i H/\∃ Nx:Hp->Prop,(∀ H',Nx H'->∃ m',m' < m/\W (i+1) m' H')/\∀ x H',J.yld i H x H'->g x (bX σ vs) H' fun σ2 H2=>bX σ2 vs=bX σ vs/\tt σ2 H2 fun b H3 =>
   if b=true then te σ2 H3 fun y H4=>∃ acc,H4 D=some (.lst acc)/\acc.length<sizeLine/\Nx (upd H4 D (.lst (acc++[y])))else Nx H3)
theorem Pu{pins:List (Addr×Obj)}{s:Shared}{σ:St}{H:Hp}{Q:VK}{ff tg iter:Expr}{fg:List Expr}{scope:Scope}{own:List (Str×Nat)}{pos eX:Pos}{wi:TI}{g:TG}{tt:TT}{te:TE}{use:Option (Value->Sem Unit)}{Qf:Value->Shared->Prop}
  (hc:X.calm=true)(hN:X.N.Nodup)(I:Inv X pins σ H s)(hi:PI X tg iter wi)(ok:cY X.N X.env.scope scope own)
  (hg:∀ (s:Shared)(H:Hp)(C:Addr)(cl:List (Str×Addr))(fp:List Addr),PG (X.blk s H scope (compEnvC scope cl C X.env) fp) tg g)(ht:∀ (s:Shared)(H:Hp)(C:Addr)(cl:List (Str×Addr))(fp:List Addr),za (X.blk s H scope (compEnvC scope cl C X.env) fp) fg tt)
  (he:∀ (s:Shared)(H:Hp)(C:Addr)(cl:List (Str×Addr))(fp:List Addr),PE (X.blk s H scope (compEnvC scope cl C X.env) fp) ff te)(hs:∀ x,foldedSetIterable iter X.env x=pure x)
  (h:yP wi g tt te (own.map (·.2)) σ H Q)
  (J5:∀ D C s' m H',Inv X pins σ H' s'->Q (.ref D) H'->s'.heap.Ns C m->eN X pins H' C->compPost (model X.prog X.w) X.A X.xe use Qf (.ref D) C (.ok .next) s'):
  wpAny (model X.prog X.w) X.A (comprehension (.ListComp ff [⟨tg,iter,fg,0⟩] scope pos) scope X.env eX (newList []) false (eval iter X.env) use) Qf X.xe s:=by
 have eE:∀ y∈scope.names,y.2=.free->∃ c,X.env.cells.lookup y.1=some c:=fun y hy e=>by
  rcases ok.free y hy e with k |k
  ·exact I.ok.has _ (.inl k)
  ·exact I.ok.has _ (.inr k)
 refine wpAny_comprehension_free (use:=use) rfl hs (HS eE) ok.kind (fun y hy e=>by rw [ok.uniq y hy,e])
  (aQ (hi pins s σ H _ I h) fun xv s1 hx=>aQ hx fun F2 s2 h2=>?_)
 obtain⟨it,fp,tn,J,H2,e,I2,T,uc,f2,q⟩:=h2;subst e;refine aA (NK ?_) (by show 0<=sizeLine;decide)
 generalize hD:s2.heap.objs.size=D;have JX:H2 D=none:=I2.hok.fresh (vU hD);obtain⟨W,⟨m0,w0⟩,turn⟩:=q D JX;generalize hs3:({ s2 with heap:=s2.heap.push { cls:=.type "list",data:=.seq ([]:List Value).toArray } }:Shared)=s3
 have I3:Inv X pins σ (upd H2 D (.lst [])) s3:=by
  rw [<-hs3];refine I2.laid (t':=s2.toks) (fun b o e=>dE _ e) (vU hD) ⟨fk _,[],0,.nil,?_⟩;rw [<-hD];exact fj _ rfl
 have h3:s3.heap=s2.heap.push { cls:=.type "list",data:=.seq ([]:List Value).toArray }:=by rw [<-hs3]
 have sz:∀ b∈fp,b<s2.heap.objs.size:=fun b hb=>by
  obtain⟨o,e,_⟩:=T.obj _ _ uc b hb;exact cz e
 have f3:∀ b∈fp,eN X pins (upd H2 D (.lst [])) b/\b<s3.heap.objs.size:=fun b hb=>by
  have cg:=sz b hb;refine⟨⟨?_,(f2 b hb).2⟩,by rw [h3,kr];exact ze cg⟩
  rw [aj (by rw [<-hD];exact eG cg)]
  exact(f2 b hb).1
 have Aj:tn 0 s3.heap:=T.keep _ _ _ uc fun b _ o e=>by rw [h3];exact dE _ e
 have I4:=NH I3 ok hN f3;have pg:=hg s3 (upd H2 D (.lst [])) s3.heap.objs.size (cellsFrom (s3.heap.objs.size+1) scope.names (eZ X.env.cells scope.names [])) fp;have pt:=ht s3 (upd H2 D (.lst [])) s3.heap.objs.size (cellsFrom (s3.heap.objs.size+1) scope.names (eZ X.env.cells scope.names [])) fp;have pe:=he s3 (upd H2 D (.lst [])) s3.heap.objs.size (cellsFrom (s3.heap.objs.size+1) scope.names (eZ X.env.cells scope.names [])) fp;show codeAny _ _ (.compStart (.ListComp ff [⟨tg,iter,fg,0⟩] scope pos) 0 (.ref it) (.ref D) (compEnvC scope (cellsFrom (s3.heap.objs.size+1) scope.names (eZ X.env.cells scope.names [])) s3.heap.objs.size X.env)) (compPost (model X.prog X.w) X.A X.xe use Qf (.ref D) s3.heap.objs.size) { s3 with heap:=pushCells (s3.heap.push { cls:=.type "dict",data:=.dict #[] }) scope.names }
 have Df:∀ b∈fp,(upd H2 D (.lst [])) b=none:=fun b hb=>(f3 b hb).1.1;generalize zO:compEnvC scope (cellsFrom (s3.heap.objs.size+1) scope.names (eZ X.env.cells scope.names [])) s3.heap.objs.size X.env=ce at I4 pg pt pe ⊢;have cL:ce.locals=s3.heap.objs.size:=by subst zO;rfl
 generalize lP:upd H2 D (.lst [])=H3 at I3 I4 pg pt pe w0 Df f3;generalize KR:({ s3 with heap:=pushCells (s3.heap.push { cls:=.type "dict",data:=.dict #[] }) scope.names }:Shared)=s4 at I4 ⊢
 have Ef:tn 0 s4.heap:=T.keep _ _ _ Aj fun b _ o e=>by rw [<-KR];exact fz _ _ _ _ (dE _ e)
 have ie:∀ {σ':St}{H':Hp}{s':Shared},Inv (X.blk s3 H3 scope ce fp) [] σ' H' s'->(∀ b∈fp,H' b=none)->∀ b∈fp,eN (X.blk s3 H3 scope ce fp) [] H' b:=fun{σ' H' s'} I' hn b hb =>
  ⟨hn b hb,(I'.ok.exf b hb).1,I'.ok.exfs b hb,.inl hb,fun x c e=>(I'.ok.exf b hb).2 x c e,fun p hp=>absurd (show p∈([]:List (Addr×Obj))++[]from hp) (by simp)⟩
 have oF:codeAny (model X.prog X.w) X.A (.compLoop (.ListComp ff [⟨tg,iter,fg,0⟩] scope pos) 0 (.ref it) (.ref D) ce) (compPost (model X.prog X.w) X.A X.xe use Qf (.ref D) s3.heap.objs.size) s4:=by
  refine NQ (fun n s'=>∃ i H',Inv (X.blk s3 H3 scope ce fp) [] (bX σ (own.map (·.2))) H' s'/\tn i s'.heap/\(∀ b∈fp,H' b=none)/\W i n H') ?_ m0 ⟨0,H3,I4,Ef,Df,w0⟩;rintro n s5 ⟨i,H5,I5,ue,n5,w5⟩;rcases turn i n H5 w5 with⟨stop,qq⟩ |⟨go,Nx,hNx,step⟩
  ·have td:=T.done (X.blk s3 H3 scope ce fp) rfl rfl rfl hc i [] s5 _ H5 (fun _ _=>False) I5 (ie I5 n5) ue stop;refine jh td fun r s6 ⟨hr,I6⟩=>?_;subst hr;have I7:Inv X pins σ H5 s6:=I3.call' (ch:=fp) I6.os I6.base I6.hok I6.bare fun b hb=>⟨(f3 b hb).1.2.2.2.1,(f3 b hb).1.2.1,(f3 b hb).1.2.2.2.2.1,(f3 b hb).1.2.2.2.2.2⟩;have nC:H5 s3.heap.objs.size=none:=by
    have z:H5 ce.locals=none:=I6.free;rw [cL]at z;exact z
   obtain⟨m,hn,_⟩:=I6.loc;have hn:s6.heap.Ns ce.locals m:=hn;rw [cL]at hn;exact J5 D s3.heap.objs.size s6 m H5 I7 qq hn (I3.fpOk (bO _) nC)
  ·have ti:=T.item (X.blk s3 H3 scope ce fp) rfl rfl rfl hc i [] s5 _ H5 (fun _ _=>False) I5 (ie I5 n5) ue go;refine jh ti fun r s6 ⟨u,hr,h6⟩=>?_;subst hr;refine jh h6 fun _ s7 zz=>?_;obtain⟨x,H7,I7,r7,y7,yJ,n7⟩:=zz;have Gv:=I7.pinned (ie I7 n7) (T.obj _ _ yJ);refine jh (pg _ s7 _ H7 x u _ Gv r7 (step x H7 y7)) fun _ s8 ⟨σ8,H8,I8,CH,q8⟩=>?_;refine jh (pt _ s8 σ8 H8 _ I8 q8) fun b s9 ⟨H9,I9,q9⟩=>?_;have fin:∀ {s':Shared}{H':Hp},Inv (X.blk s3 H3 scope ce fp) ([]++zD fp s7.heap) σ8 H' s'->Nx H'->∃ m,m<n/\∃ i H',Inv (X.blk s3 H3 scope ce fp) [] (bX σ (own.map (·.2))) H' s'/\tn i s'.heap/\(∀ b∈fp,H' b=none)/\W i m H':=fun{s' H'} I' nx=>by
    obtain⟨m',hm,w'⟩:=hNx H' nx;have pz:∀ b∈fp,∀ o,s7.heap.get? b=some o->s'.heap.get? b=some o/\H' b=none:=fun b hb o e =>
     let z:=I'.pin (b,o) (kq _ (kq _ (Fg hb e)))
     ⟨z.1,z.2.1⟩
    have hl:(bX σ (own.map (·.2))).length=σ8.length:=by rw [<-CH,Ff]
    refine⟨m',hm,i+1,H',(I'.unpinned (pins:=[])).weak hl (fun j v e=>?_),T.keep _ _ _ yJ fun b hb o e=>(pz b hb o e).1,fun b hb=>?_,w'⟩
    ·rw [<-CH]at e;exact(Fs e).1
    ·obtain⟨o,e,_⟩:=T.obj _ _ yJ b hb;exact(pz b hb o e).2
   cases b with
   |false =>
    simp only [AC,bv]at q9 ⊢;exact fin I9 q9
   |true =>
    simp only [cu]at q9 ⊢;refine jh (pe _ s9 σ8 H9 _ I9 q9) fun z s10 zz=>?_;obtain⟨yv,H10,Ap,LN,acc,wM,xr,nx⟩:=zz;exact mY (X:=X.blk s3 H3 scope ce fp) Ap wM xr LN fun s11 Aq=>fin Aq nx
 exact codeAny_compStart_list oF (T.self X.A 0 _ _ _ Ef oF)
theorem iS{ff tg iter:Expr}{fg:List Expr}{scope:Scope}{own:List (Str×Nat)}{pos:Pos}{wi:TI}{g:TG}{tt:TT}{te:TE}(hc:X.calm=true)(hN:X.N.Nodup)(hi:PI X tg iter wi)(ok:cY X.N X.env.scope scope own)
  (hg:∀ (s:Shared)(H:Hp)(C:Addr)(cl:List (Str×Addr))(fp:List Addr),PG (X.blk s H scope (compEnvC scope cl C X.env) fp) tg g)(ht:∀ (s:Shared)(H:Hp)(C:Addr)(cl:List (Str×Addr))(fp:List Addr),za (X.blk s H scope (compEnvC scope cl C X.env) fp) fg tt)
  (he:∀ (s:Shared)(H:Hp)(C:Addr)(cl:List (Str×Addr))(fp:List Addr),PE (X.blk s H scope (compEnvC scope cl C X.env) fp) ff te)(hs:autoParam (∀ x,foldedSetIterable iter X.env x=pure x) aI._auto_1):
  PE X (.ListComp ff [⟨tg,iter,fg,0⟩] scope pos) (yP wi g tt te (own.map (·.2))):=by
 intro pins s σ H Q I h;rw [eval_ListComp];refine Pu hc hN I hi ok hg ht he hs h fun D C s' m H' I' q hn f=>⟨m,hn,fun mi sb=>?_⟩;obtain⟨f0,f1,f2,f3,f4,f5⟩:=f;exact⟨.ref D,H',I'.turned (t':=s'.toks) (fun b o hb e=>(sb.2 b hb).trans e) f0 f1 f3 f4 f5,rfl,q⟩
theorem O7{i:Nat}{y:Str}{py:Pos}{ff tg iter:Expr}{fg:List Expr}{scope:Scope}{own:List (Str×Nat)}{pos qj:Pos}{wi:TI}{g:TG}{tt:TT}{te:TE}(hc:X.calm=true)(hN:X.N.Nodup)(hy:X.N[i]?=some y)(CK:X.env.scope.names.lookup y=some .local)
  (va:swapsWith (.ListComp ff [⟨tg,iter,fg,0⟩] scope pos) (some (.Name y py)) qj.line X.env=pure true)(hi:PI X tg iter wi)(ok:cY X.N X.env.scope scope own)
  (hg:∀ (s:Shared)(H:Hp)(C:Addr)(cl:List (Str×Addr))(fp:List Addr),PG (X.blk s H scope (compEnvC scope cl C X.env) fp) tg g)(ht:∀ (s:Shared)(H:Hp)(C:Addr)(cl:List (Str×Addr))(fp:List Addr),za (X.blk s H scope (compEnvC scope cl C X.env) fp) fg tt)
  (he:∀ (s:Shared)(H:Hp)(C:Addr)(cl:List (Str×Addr))(fp:List Addr),PE (X.blk s H scope (compEnvC scope cl C X.env) fp) ff te)(hs:autoParam (∀ x,foldedSetIterable iter X.env x=pure x) aI._auto_1):
  PS X (.Assign [.Name y py] (.ListComp ff [⟨tg,iter,fg,0⟩] scope pos) qj) (uh (yP wi g tt te (own.map (·.2))) (iI i)):=by
 intro pins s σ H D I h;rw [exec_Assign_Name_used _ _ _ _ va];refine aa (bp (aa ?_));show wpAny _ X.A (do let _ <-comprehension (.ListComp ff [⟨tg,iter,fg,0⟩] scope pos) scope X.env (firstIterPos [⟨tg,iter,fg,0⟩] pos) (newList []) false (eval iter X.env) (some (assign (.Name y py) X.env))) _ _ s
 have h:yP wi g tt te (own.map (·.2)) σ H (fun x H1=>iI i x σ H1 D.nx):=h;refine aa (aQ (Pu (Qf:=fun _ s'=>SP X pins D .next s') hc hN I hi ok hg ht he hs h fun L C s' m H' I' q hn f=>?_) fun _ s' hq=>af (af hq));show wpAny _ _ (assign (.Name y py) X.env (.ref L)) _ _ _;refine yW (ID (v:=V.ref L) I' hN hy (.inl CK) rfl (fun s2 I2 ⟨a,sb,ha⟩=>?_) (.inr CK));obtain⟨f0,f1,f2,f3,f4,f5⟩:=f;have J7:C≠a:=by
  rcases ha with z |z
  ·rw [z];exact f1
  ·exact fun e=>f4 y a z e.symm
 refine⟨m,hn.sameBut sb J7,fun h3 L7=>?_⟩;exact⟨_,H',I2.turned (t':=s2.toks) (fun b o hb e=>(L7.2 b hb).trans e) f0 f1 f3 f4 f5,q⟩
theorem A9{ff:Expr}{gs:List Comprehension}{scope:Scope}{pos py:Pos}{y:Str}{l:Nat}{env:Env}(hk:env.scope.kind=.function)(hy:env.scope.names.lookup y=some .local)(hl:(py.line==pos.line)=true)
  (ha:(scope.names.any fun(n,k)=>n==y&&(k==.local ||k==.cell))=false):swapsWith (.ListComp ff gs scope pos) (some (.Name y py)) l env=pure true:=by
 have ky:env.kindOf y=some .local:=hy;have hb:env.blockKind=.function:=by unfold Env.blockKind;rw [hk];rfl
 unfold swapsWith;have pp:Expr.pos (.ListComp ff gs scope pos)=pos:=rfl;simp only [hb,ky,ha,pp,hl];rfl
end
theorem Fp{lo:Int}{n:Nat}{g:TG}{tt:TT}{te:TE}{vs:List Nat}{σ:St}{H1:Hp}{D:Addr}{Qd:Hp->Prop}(Pv:Nat->Hp->Prop)(h0:Pv 0 (upd H1 D (.lst [])))
  (hs:∀ i H,i<n->Pv i H->g (.int (lo+i)) (bX σ vs) H fun σ2 H2=>bX σ2 vs=bX σ vs/\tt σ2 H2 fun b H3 =>
    if b=true then te σ2 H3 fun y H4=>∃ acc,H4 D=some (.lst acc)/\acc.length<sizeLine/\Pv (i+1) (upd H4 D (.lst (acc++[y])))else Pv (i+1) H3)(hd:∀ H,Pv n H->Qd H):
  ∃ W:Nat->Nat->Hp->Prop,(∃ m,W 0 m (upd H1 D (.lst [])))/\∀ i m H,W i m H ->
   ((qR lo n).stop i H/\Qd H)\/((qR lo n).go i H/\∃ Nx:Hp->Prop,(∀ H',Nx H'->∃ m',m' < m/\W (i+1) m' H')/\∀ x H',(qR lo n).yld i H x H'->g x (bX σ vs) H' fun σ2 H2=>bX σ2 vs=bX σ vs/\tt σ2 H2 fun b H3 =>
     if b=true then te σ2 H3 fun y H4=>∃ acc,H4 D=some (.lst acc)/\acc.length<sizeLine/\Nx (upd H4 D (.lst (acc++[y])))else Nx H3):=by
 refine⟨fun i m H=>m=n-i/\i<=n/\Pv i H,⟨n,by simp,fk _,h0⟩,?_⟩
 rintro i m H ⟨rfl,hi,p⟩;by_cases cg:i<n
 ·refine .inr ⟨cg,Pv (i+1),fun H' p'=>⟨n-(i+1),by omega,rfl,cg,p'⟩,fun x H' y=>?_⟩
  obtain⟨e,y⟩:=y;subst e y;exact hs i _ cg p
 ·have e:i=n:=by omega
  subst e;exact .inl ⟨bO _,hd H p⟩
theorem zr{K:aq}{a:Addr}{xs:List V}{g:TG}{tt:TT}{te:TE}{vs:List Nat}{σ:St}{H1:Hp}{D:Addr}{Qd:Hp->Prop}(Pv:Nat->Hp->Prop)(h0:Pv 0 (upd H1 D (.lst [])))(hl:∀ i H,i<=xs.length->Pv i H->SqL K H a xs)
  (hs:∀ i x H,xs[i]?=some x->Pv i H->g x (bX σ vs) H fun σ2 H2=>bX σ2 vs=bX σ vs/\tt σ2 H2 fun b H3 =>
    if b=true then te σ2 H3 fun y H4=>∃ acc,H4 D=some (.lst acc)/\acc.length<sizeLine/\Pv (i+1) (upd H4 D (.lst (acc++[y])))else Pv (i+1) H3)(hd:∀ H,Pv xs.length H->Qd H):
  ∃ W:Nat->Nat->Hp->Prop,(∃ m,W 0 m (upd H1 D (.lst [])))/\∀ i m H,W i m H ->
   ((uA K a).stop i H/\Qd H)\/((uA K a).go i H/\∃ Nx:Hp->Prop,(∀ H',Nx H'->∃ m',m' < m/\W (i+1) m' H')/\∀ x H',(uA K a).yld i H x H'->g x (bX σ vs) H' fun σ2 H2=>bX σ2 vs=bX σ vs/\tt σ2 H2 fun b H3 =>
     if b=true then te σ2 H3 fun y H4=>∃ acc,H4 D=some (.lst acc)/\acc.length<sizeLine/\Nx (upd H4 D (.lst (acc++[y])))else Nx H3):=by
 refine⟨fun i m H=>m=xs.length-i/\i<=xs.length/\Pv i H,⟨xs.length,by simp,fk _,h0⟩,?_⟩
 rintro i m H ⟨rfl,hi,p⟩;have q:=hl i H hi p;by_cases cg:i<xs.length
 ·refine .inr ⟨⟨xs,xs[i],q,by simp [cg]⟩,Pv (i+1),fun H' p'=>⟨xs.length-(i+1),by omega,rfl,cg,p'⟩,fun x H' y=>?_⟩
  obtain⟨e,y⟩:=y;subst e;exact hs i x _ (y xs q) p
 ·have e:i=xs.length:=by omega
  subst e;exact .inl ⟨⟨xs,q,bO _⟩,hd H p⟩
end L2
namespace L2
open PySem PySem.Spec PyProof.Rows
section
variable{prog:Program}{w:World}{A:Around}{R:Result->Shared->Prop}{s:Shared}{ff t0 i0 t1 i1:Expr}{ifs0 ifs1:List Expr}{scope:Scope}{pos:Pos}{it acc:Value}{env:Env}
end
section
variable{X:Cx}
end
end L2
namespace L2
open PySem PySem.Spec PyProof.Rows
section
variable{κ:Type}[DecidableEq κ]
def aL(ah:List (κ×V))(k:κ):Option V:=(ah.find? fun kv=>decide (kv.1=k)).map (·.2)
def aG(ah:List (κ×V))(k:κ)(v:V):List (κ×V):=
 if (ah.any fun kv=>decide (kv.1=k))=true then ah.map (fun kv=>if kv.1=k then(kv.1,v)else kv)else ah++[(k,v)]
theorem qt{k:κ}:aL ([]:List (κ×V)) k=none:=rfl
theorem lF{p:κ×V}{r:List (κ×V)}{k:κ}(e:p.1=k):aL (p::r) k=some p.2:=by simp [aL,qY,e]
theorem ku{p:κ×V}{r:List (κ×V)}{k:κ}(e:¬ p.1=k):aL (p::r) k=aL r k:=by simp [aL,qY,e]
theorem v0(k:κ):∀ ah:List (κ×V),(ah.any fun kv=>decide (kv.1=k))=(aL ah k).isSome
 |[]=>rfl
 |p::r=>by
  rw [AS];by_cases e:p.1=k
  ·simp only [lF e,ai e,Bool.true_or,Option.isSome_some]
  ·rw [ku e,aw e,Bool.false_or];exact v0 k r
theorem O1(k j:κ)(y:V):∀ ah:List (κ×V),aL (ah.map fun kv=>if kv.1=k then(kv.1,y)else kv) j=(aL ah j).map fun x=>if j=k then y else x
 |[]=>rfl
 |p::r=>by
  have ih:=O1 k j y r;rw [ej];by_cases h:p.1=k
  ·rw [ae h];by_cases e:p.1=j
   ·rw [lF (p:=(p.1,y)) e,lF e,zf,ae (e.symm.trans h)]
   ·rw [ku (p:=(p.1,y)) e,ku e,ih]
  ·rw [ac h];by_cases e:p.1=j
   ·rw [lF (p:=p) e,lF e,zf,ac (fun z=>h (e.trans z))]
   ·rw [ku (p:=p) e,ku e,ih]
theorem OQ(k j:κ)(y:V):∀ ah:List (κ×V),aL ah k=none->aL (ah++[(k,y)]) j=if j=k then some y else aL ah j
 |[],_=>by
  by_cases e:k=j
  ·rw [ae e.symm];exact lF (p:=(k,y)) e
  ·rw [ac (fun z=>e z.symm)];exact ku (p:=(k,y)) e
 |p::r,hn=>by
  rw [E6];have hk:¬ p.1=k:=fun z=>by rw [lF z]at hn;cases hn
  rw [ku hk]at hn;have ih:=OQ k j y r hn;by_cases e:p.1=j
  ·rw [lF e,lF e,ac (fun z=>hk (e.trans z))]
  ·rw [ku e,ku e,ih]
theorem iF(ah:List (κ×V))(k j:κ)(y:V):aL (aG ah k y) j=if j=k then some y else aL ah j:=by
 unfold aG;by_cases a:(ah.any fun kv=>decide (kv.1=k))=true
 ·rw [ae a,O1];rw [v0]at a;by_cases e:j=k
  ·obtain⟨x,hx⟩:=Option.isSome_iff_exists.mp a;rw [ae e,e,hx,zf,ae rfl]
  ·rw [ac e];cases aL ah j with
   |none=>rfl
   |some x=>rw [zf,ac e]
 ·rw [ac a];refine OQ k j y ah ?_;rw [v0]at a;cases q:aL ah k with
  |none=>rfl
  |some x=>rw [q]at a;exact(a rfl).elim
theorem mL(ah:List (κ×V))(k:κ)(v:V):(aG ah k v).length<=ah.length+1:=by
 unfold aG;split
 ·rw [aW];omega
 ·rw [gD,gC,lB];omega
theorem RelO.isSome_eq{o:Option V}{u:Option Value}(r:RelO o u):o.isSome=u.isSome:=by
 cases o with
 |none=>cases u with
  |none=>rfl
  |some _=>exact(show False from r).elim
 |some _=>cases u with
  |none=>exact(show False from r).elim
  |some _=>rfl
theorem RelO.getD{o:Option V}{u:Option Value}{d:V}{d':Value}(r:RelO o u)(rd:RelV d d'):RelV (o.getD d) (u.getD d'):=by
 cases o with
 |none=>cases u with
  |none=>exact rd
  |some _=>exact(show False from r).elim
 |some _=>cases u with
  |none=>exact(show False from r).elim
  |some _=>exact r
theorem KV.val{ah:List (κ×V)}{vs:List (κ×Value)}(r:KV ah vs)(k:κ):RelO (aL ah k) (valueAt vs k):=by
 unfold KV at r
 induction r with
 |nil=>exact True.intro
 | @cons p q ps qs h t ih =>
  obtain⟨h1,h2⟩:=h;by_cases e:p.1=k
  ·have e':q.1=k:=h1.symm.trans e;have b:valueAt (q::qs) k=some q.2:=by simp [valueAt,qY,e']
   rw [lF e,b];exact h2
  ·have e':¬ q.1=k:=fun z=>e (h1.trans z);have b:valueAt (q::qs) k=valueAt qs k:=by simp [valueAt,qY,e']
   rw [ku e,b];exact ih
theorem KV.any{ah:List (κ×V)}{vs:List (κ×Value)}(r:KV ah vs)(k:κ):(ah.any fun kv=>decide (kv.1=k))=vs.any fun kv=>decide (kv.1=k):=by
 unfold KV at r
 induction r with
 |nil=>rfl
 |cons h t ih=>rw [AS,AS,ih,h.1]
theorem KV.repl{ah:List (κ×V)}{vs:List (κ×Value)}(r:KV ah vs)(k:κ){y:V}{u:Value}(ry:RelV y u):
  KV (ah.map fun kv=>if kv.1=k then(kv.1,y)else kv) (vs.map fun kv=>if kv.1=k then(kv.1,u)else kv):=by
 unfold KV at r ⊢
 induction r with
 |nil=>exact .nil
 | @cons p q ps qs h t ih =>
  rw [ej,ej];refine .cons ?_ ih;obtain⟨h1,h2⟩:=h;by_cases e:p.1=k
  ·rw [ae e,ae (h1.symm.trans e)];exact⟨h1,ry⟩
  ·rw [ac e,ac (fun z=>e (h1.trans z))];exact⟨h1,h2⟩
theorem KV.put{ah:List (κ×V)}{vs:List (κ×Value)}(r:KV ah vs)(k:κ){y:V}{u:Value}(ry:RelV y u):KV (aG ah k y) (stored vs k u):=by
 unfold aG stored;rw [r.any k];by_cases e:(vs.any fun kv=>decide (kv.1=k))=true
 ·rw [ae e,ae e];exact r.repl k ry
 ·rw [ac e,ac e];exact Paired.snoc r ⟨rfl,ry⟩
theorem KV.length{ah:List (κ×V)}{vs:List (κ×Value)}(r:KV ah vs):ah.length=vs.length:=Paired.length r
end
theorem iO{P:Program}{w:World}{k:Key}{u:Value}(r:RelV (kV k) u):(gS P w).is k u=true:=by
 cases k with
 |inl i=>obtain⟨t,e⟩:=(show ∃ t,u=Value.int i t from r);subst e;exact Z9V P w i t
 |inr x=>obtain⟨t,e⟩:=(show ∃ t,u=Value.str x t from r);subst e;exact Z9W P w x t
theorem IH{P:Program}{w:World}:∀ {ks:List Key}{us:List Value},Vals (ks.map kV) us->ItemsAre (gS P w) ks us
 |[],_,r=>by rw [List.map_nil]at r;cases r;exact .nil
 |k::ks,_,r=>by
  rw [ej]at r;cases r with
  |cons h t=>exact .cons (iO h) (IH t)
abbrev KT(H:Hp):List (List Key×V)->List (List Key×Addr×Value)->Prop:=Paired fun p q=>p.1=q.1/\H q.2.1=some (.tup (p.1.map kV))/\RelV p.2 q.2.2
theorem KT.val{H:Hp}{ah:List (List Key×V)}{xs:List (List Key×Addr×Value)}(r:KT H ah xs)(k:List Key):RelO (aL ah k) ((atKey xs k).map (·.2)):=by
 induction r with
 |nil=>exact True.intro
 | @cons p q ps qs h t ih =>
  obtain⟨h1,_,h2⟩:=h;by_cases e:p.1=k
  ·have e':q.1=k:=h1.symm.trans e;have b:atKey (q::qs) k=some q.2:=by simp [atKey,qY,e']
   rw [lF e,b];exact h2
  ·have e':¬ q.1=k:=fun z=>e (h1.trans z);have b:atKey (q::qs) k=atKey qs k:=by simp [atKey,qY,e']
   rw [ku e,b];exact ih
theorem KT.repl{H:Hp}{ah:List (List Key×V)}{xs:List (List Key×Addr×Value)}(r:KT H ah xs)(k:List Key){y:V}{u:Value}(ry:RelV y u):
  KT H (ah.map fun kv=>if kv.1=k then(kv.1,y)else kv) (xs.map (putAt k u)):=by
 induction r with
 |nil=>exact .nil
 | @cons p q ps qs h t ih =>
  rw [ej,ej];refine .cons ?_ ih;obtain⟨h1,h2,h3⟩:=h;unfold putAt;by_cases e:p.1=k
  ·rw [ae e,ae (h1.symm.trans e)];exact⟨h1,h2,ry⟩
  ·rw [ac e,ac (fun z=>e (h1.trans z))];exact⟨h1,h2,h3⟩
theorem KT.put{H:Hp}{ah:List (List Key×V)}{xs:List (List Key×Addr×Value)}(r:KT H ah xs)(k:List Key){b:Addr}{y:V}{u:Value}(hb:H b=some (.tup (k.map kV)))(ry:RelV y u):
  KT H (aG ah k y) (storedH xs k b u):=by
 have e:(ah.any fun kv=>decide (kv.1=k))=(atKey xs k).isSome:=by
  rw [v0,(r.val k).isSome_eq,AD]
 unfold aG storedH;rw [e];by_cases q:(atKey xs k).isSome=true
 ·rw [ae q,ae q];exact r.repl k ry
 ·rw [ac q,ac q];exact Paired.snoc r ⟨rfl,hb,ry⟩
theorem KT.keeps{H H':Hp}{ah:List (List Key×V)}{xs:List (List Key×Addr×Value)}(r:KT H ah xs)(ht:∀ b ys,H b=some (.tup ys)->H' b=some (.tup ys)):KT H' ah xs:=
 Paired.mapP r fun _ _ z=>⟨z.1,ht _ _ z.2.1,z.2.2⟩
section
variable{P:Program}{w:World}{H:Hp}{h:Heap}{a:Addr}
theorem vv{u:HO}(ok:HOk P w H h)(e:Rd H a u):ObjOk P w H h a u:=e.ok ok
theorem jr{ah:List (Key×V)}(ok:HOk P w H h)(e:Rd H a (.dK ah)):ah.length<=sizeLine/\(a==sysModules)=false/\∃ vs,KV ah vs/\h.DictOf (gS P w) a vs:=
 show ObjOk P w H h a (.dK ah)from vv ok e
theorem uX{ah:List (Key×V)}(ok:HOk P w H h)(e:H a=some (.dK ah)):ah.length<=sizeLine/\(a==sysModules)=false/\∃ vs,KV ah vs/\h.DictOf (gS P w) a vs:=jr ok (.inl e)
theorem Bn{ks:List Key}(ok:HOk P w H h)(e:H a=some (.tup (ks.map kV))):(tupleKind (gS P w)).is h ks a:=by
 obtain⟨_,its,r,o,h1,h2,n,h3⟩:=(show ObjOk P w H h a (.tup (ks.map kV))from ok a _ e);exact⟨o,its.toArray,n,h1,h2,h3,by simpa using IH r⟩
theorem js{ah:List (List Key×V)}(ok:HOk P w H h)(e:Rd H a (.dT ah)):ah.length<=sizeLine/\(a==sysModules)=false /\
  ∃ xs,KT H ah xs/\h.DictOfH (tupleKind (gS P w)) a xs:=by
 obtain⟨z,y,xs,r,o,es,ep,h1,h2,h3,h4,h5⟩:=(show ObjOk P w H h a (.dT ah)from vv ok e);refine⟨z,y,xs,r,o,es,ep,h1,h2,h3,h4,fun x hx=>?_,h5⟩;have all:∀ {l:List (List Key×V)}{m:List (List Key×Addr×Value)},KT H l m->∀ x∈m,(tupleKind (gS P w)).is h x.1 x.2.1:=by
  intro l m q
  induction q with
  |nil=>intro x hx;exact nomatch hx
  | @cons p q ps qs hq t ih =>
   intro x hx;rcases bw.mp hx with e |hx
   ·subst e;exact Bn ok (by rw [<-hq.1];exact hq.2.1)
   ·exact ih x hx
 exact all r x hx
theorem Bv{ah:List (List Key×V)}(ok:HOk P w H h)(e:H a=some (.dT ah)):ah.length<=sizeLine/\(a==sysModules)=false /\
  ∃ xs,KT H ah xs/\h.DictOfH (tupleKind (gS P w)) a xs:=js ok (.inl e)
end
def DGet(H:Hp)(a:Addr)(y:V)(r:Option V):Prop:=
 (∃ ah k,Rd H a (.dK ah)/\y=kV k/\r=aL ah k)\/∃ ah k b,Rd H a (.dT ah)/\y=.ref b/\H b=some (.tup (k.map kV))/\r=aL ah k
def DPut(H:Hp)(a:Addr)(y v:V)(H':Hp):Prop:=
 (∃ ah k,H a=some (.dK ah)/\y=kV k/\ah.length<sizeLine/\H'=upd H a (.dK (aG ah k v))) \/
 ∃ ah k b,H a=some (.dT ah)/\y=.ref b/\H b=some (.tup (k.map kV))/\ah.length<sizeLine/\H'=upd H a (.dT (aG ah k v))
theorem DGet.k{H:Hp}{a:Addr}{ah:List (Key×V)}{k:Key}(e:H a=some (.dK ah)):DGet H a (kV k) (aL ah k):=.inl ⟨ah,k,.inl e,rfl,rfl⟩
theorem DGet.t{H:Hp}{a b:Addr}{ah:List (List Key×V)}{k:List Key}(e:H a=some (.dT ah))(eb:H b=some (.tup (k.map kV))):DGet H a (.ref b) (aL ah k):=.inr ⟨ah,k,b,.inl e,rfl,eb,rfl⟩
theorem DPut.k{H:Hp}{a:Addr}{ah:List (Key×V)}{k:Key}{v:V}(e:H a=some (.dK ah))(hl:ah.length<sizeLine):DPut H a (kV k) v (upd H a (.dK (aG ah k v))):=.inl ⟨ah,k,e,rfl,hl,rfl⟩
theorem DPut.t{H:Hp}{a b:Addr}{ah:List (List Key×V)}{k:List Key}{v:V}(e:H a=some (.dT ah))(eb:H b=some (.tup (k.map kV)))(hl:ah.length<sizeLine):
  DPut H a (.ref b) v (upd H a (.dT (aG ah k v))):=.inr ⟨ah,k,b,e,rfl,eb,hl,rfl⟩
section
variable{X:Cx}{pins:List (Addr×Obj)}{σ:St}{H:Hp}{s:Shared}{a:Addr}{y v:V}{u r:Value}{o:Option V}{A:Around}{E:Value->Shared->Prop}
theorem Inv.big(I:Inv X pins σ H s):sysModules<s.heap.objs.size:=by
 have h:mainGlobals<s.heap.objs.size:=(I.mod.glob.keeps I.bk).lt;exact qv (by decide) h
theorem Zby{Q:Value->Shared->Prop}(hu:A.units+1<cLine)(I:Inv X pins σ H s)(g:DGet H a y (some v))(ry:RelV y u)(h:∀ w' s',Inv X pins σ H s'->RelV v w'->Q w' s'):
  wpAny (model X.prog X.w) A (getItem (.ref a) u) Q E s:=by
 rcases g with⟨ah,k,e,ey,l⟩ |⟨ah,k,b,e,ey,eb,l⟩
 ·subst ey;obtain⟨z,hd,vs,rel,dd⟩:=jr I.hok e;obtain⟨w',hw,gJ⟩:=RelO.some_of (v:=v) (o:=valueAt vs k) (by rw [l];exact rel.val k)
  exact wpAny_getItem_of (iO ry) dd.mapOf hw (h w' _ (I.tok _) gJ)
 ·subst ey;cases (show u=Value.ref b from ry);obtain⟨z,hd,xs,rel,dd⟩:=js I.hok e;obtain⟨w',hw,gJ⟩:=RelO.some_of (v:=v) (o:=(atKey xs k).map (·.2)) (by rw [l];exact rel.val k)
  obtain⟨p,hp,Cj⟩:=EW.mp hw;refine wpAny_getItem_heap (bj hu) (Bn I.hok eb) dd hp ?_;rw [Cj];exact h w' _ (I.tok _) gJ
theorem JG{Q:Value->Shared->Prop}(hu:A.units+1<cLine)(I:Inv X pins σ H s)(g:DGet H a y o)(ry:RelV y u)(h:∀ s',Inv X pins σ H s'->Q (.bool o.isSome) s'):
  wpAny (model X.prog X.w) A (compareOp .In u (.ref a)) Q E s:=by
 rcases g with⟨ah,k,e,ey,l⟩ |⟨ah,k,b,e,ey,eb,l⟩
 ·subst ey;obtain⟨z,hd,vs,rel,dd⟩:=jr I.hok e;refine wpAny_in_of (iO ry) hd dd.mapOf ?_;rw [<-(rel.val k).isSome_eq,<-l];exact h _ (I.tok _)
 ·subst ey;cases (show u=Value.ref b from ry);obtain⟨z,hd,xs,rel,dd⟩:=js I.hok e;refine wpAny_in_heap (bj hu) (Bn I.hok eb) hd dd ?_;have q:=(rel.val k).isSome_eq;rw [AD]at q;rw [<-q,<-l];exact h _ (I.tok _)
theorem rX{Q:Value->Shared->Prop}(hu:A.units+1<cLine)(I:Inv X pins σ H s)(g:DGet H a y o)(ry:RelV y u)(h:∀ s',Inv X pins σ H s'->Q (.bool (!o.isSome)) s'):
  wpAny (model X.prog X.w) A (compareOp .NotIn u (.ref a)) Q E s:=by
 rcases g with⟨ah,k,e,ey,l⟩ |⟨ah,k,b,e,ey,eb,l⟩
 ·subst ey;obtain⟨z,hd,vs,rel,dd⟩:=jr I.hok e;refine wpAny_notIn_of (iO ry) hd dd.mapOf ?_;rw [<-(rel.val k).isSome_eq,<-l];exact h _ (I.tok _)
 ·subst ey;cases (show u=Value.ref b from ry);obtain⟨z,hd,xs,rel,dd⟩:=js I.hok e;refine wpAny_notIn_heap (bj hu) (Bn I.hok eb) hd dd ?_;have q:=(rel.val k).isSome_eq;rw [AD]at q;rw [<-q,<-l];exact h _ (I.tok _)
theorem Bg{h':Heap}{t':Nat}{ob:HO}(I:Inv X pins σ H s)(mu:Ax (H a))(hs:Heap.SameBut a s.heap h')(he:∃ q,h'.get? a=some q)(new:ObjOk X.prog X.w (upd H a ob) h' a ob):
  Inv X pins σ (upd H a ob) { s with heap:=h',toks:=t' }:=
 I.write (x:=a) (e:=a) mu (.inl rfl) (fun b q hb z=>(hs.2 b hb).trans z) he new
theorem nM{P:Program}{w:World}{H':Hp}{h':Heap}{ah:List (Key×V)}{vs:List (Key×Value)}(z:ah.length<=sizeLine)(hd:(a==sysModules)=false)(rel:KV ah vs)(dd:h'.DictOf (gS P w) a vs):
  ObjOk P w H' h' a (.dK ah):=⟨z,hd,vs,rel,dd⟩
theorem Zbt{H':Hp}{Q:Unit->Shared->Prop}(hu:A.units+1<cLine)(I:Inv X pins σ H s)(g:DPut H a y v H')(ry:RelV y u)(rv:RelV v r)(h:∀ s',Inv X pins σ H' s'->Q () s'):
  wpAny (model X.prog X.w) A (setItem (.ref a) u r) Q E s:=by
 rcases g with⟨ah,k,e,ey,l,eH⟩ |⟨ah,k,b,e,ey,eb,l,eH⟩
 ·subst ey eH;obtain⟨z,hd,vs,rel,dd⟩:=uX I.hok e;have hz:vs.length<=sizeLine:=by rw [<-rel.length];exact z
  have hl:(aG ah k v).length<=sizeLine:=by have:=mL ah k v;omega
  refine wpAny_setItem_pairs (hsz:=hz) (iO ry) dd fun h' mh hs=>h _ ?_;have he:∃ q,h'.get? a=some q:=by obtain⟨q,_,_,hq,_⟩:=mh;exact⟨q,hq⟩
  exact Bg I (by rw [e];exact True.intro) hs he (nM hl hd (rel.put k rv) mh)
 ·subst ey eH;cases (show u=Value.ref b from ry);obtain⟨z,hd,xs,rel,dd⟩:=Bv I.hok e;have hz:xs.length<=sizeLine:=by rw [<-Paired.length rel];exact z
  have hl:(aG ah k v).length<=sizeLine:=by have:=mL ah k v;omega
  refine wpAny_setItem_heap (hsz:=hz) (bj hu) (Bn I.hok eb) dd fun h' mh hs=>h _ ?_;obtain⟨q,es,ep,hq,h2,h3,h4,_,h5⟩:=mh;refine Bg I (by rw [e];exact True.intro) hs ⟨q,hq⟩ ⟨hl,hd,_,(rel.put k eb rv).keeps fun c ys ec=>?_,q,es,ep,hq,h2,h3,h4,h5⟩
  rw [aj (az ec e (fun z=>nomatch z))];exact ec
end
section
variable{X:Cx}{pins:List (Addr×Obj)}{σ:St}{H:Hp}{s:Shared}{a:Addr}{ah:List (Key×V)}{k:Key}{u:Value}{A:Around}{E:Value->Shared->Prop}
end
def vO(i:Expr):Prop:=∀ ov iv,subscripted i false ov iv=operate [ov,iv] (getItem ov iv)
theorem PD{prog:Program}{w:World}{A:Around}{E:Value->Shared->Prop}{s:Shared}{env:Env}{value fL:Expr}{pos:Pos}{T id:String}{Q:Value->Shared->Prop}
  (hl:typeLookup (.type T) "__getitem__" = pure (some (.builtin id)))(hs:vO fL)
  (h:wpAny (model prog w) A (eval value env) (fun o s₁=>wpAny (model prog w) A (eval fL env) (fun i s₂=>s₂.TypeIs o T/\wpAny (model prog w) A (getItem o i) Q E s₂) E s₁) E s):
  wpAny (model prog w) A (eval (.Subscript value fL pos) env) Q E s:=by
 refine Subscript_ (ax h (fun o s₁ h₁=>ax h₁ (fun i s₂ h₂=>?_) fun _ _ x=>x) fun _ _ x=>x);obtain⟨hT,h₂⟩:=h₂;unfold subscriptTail;refine aa ?_;rw [getitemInPython_of_ne hT.not_modules];refine aa (wpAny_specialOf hT hl ?_);have fin:wpAny (model prog w) A (subscripted fL false o i) (fun r s₃=>wpAny (model prog w) A (letTemporaryGo value o r >>= fun _=>pure r) Q E s₃) E s₂:=by
  rw [hs o i];exact wpAny_operating (ax h₂ (fun r s₃ h₃=>aa (wpAny_letTemporaryGo (af h₃))) fun _ _ x=>x)
 first
  |exact af (aa fin)
  |exact aa (af (aa fin))
  |exact aa fin
theorem Z9S{X:Cx}{pins:List (Addr×Obj)}{σ:St}{H:Hp}{s:Shared}{a:Addr}{y:V}{o:Option V}(I:Inv X pins σ H s)(g:DGet H a y o):s.TypeIs (.ref a) "dict":=by
 rcases g with⟨ah,k,e,_,_⟩ |⟨ah,k,b,e,_,_,_⟩
 ·obtain⟨_,_,vs,_,dd⟩:=jr I.hok e;exact dd.typeIs
 ·obtain⟨_,_,xs,_,dd⟩:=js I.hok e;exact dd.typeIs
def El(td ty:TE):TE:=fun σ H Q=>td σ H fun x H1=>ty σ H1 fun y H2=>∃ a v,x=.ref a/\DGet H2 a y (some v)/\Q v H2
def Mm(ty td:TE):TE:=fun σ H Q=>ty σ H fun y H1=>td σ H1 fun x H2=>∃ a o,x=.ref a/\DGet H2 a y o/\Q (.bl o.isSome) H2
def ui(ty td:TE):TE:=fun σ H Q=>ty σ H fun y H1=>td σ H1 fun x H2=>∃ a o,x=.ref a/\DGet H2 a y o/\Q (.bl (!o.isSome)) H2
def DO(td ty tv:TE):TS:=fun D σ H=>tv σ H fun v H1=>td σ H1 fun x H2=>ty σ H2 fun y H3=>∃ a H4,x=.ref a/\DPut H3 a y v H4/\D.nx σ H4
section
variable{X:Cx}{o i e value:Expr}{pos eX dO:Pos}{td ty tv:TE}
theorem uQ(hu:X.A.units+1<cLine)(ho:PE X o td)(hi:PE X i ty)(hs:vO i):PE X (.Subscript o i pos) (El td ty):=by
 intro pins s σ H Q I h;refine PD PySem.F.slot_dict_getitem.lookup hs (aQ (ho pins s σ H _ I h) fun u s1 ⟨x,H1,I1,rx,q1⟩=>aQ (hi pins s1 σ H1 _ I1 q1) fun iv s2 zz=>?_);obtain⟨y,H2,I2,ry,a,v,ex,g,q2⟩:=zz;subst ex;obtain rfl:u=Value.ref a:=rx;exact⟨Z9S I2 g,Zby hu I2 g ry fun w' s3 I3 gJ=>⟨v,H2,I3,gJ,q2⟩⟩
theorem yi(hu:X.A.units+1<cLine)(hi:PE X i ty)(ho:PE X o td):PC X .In i o (Mm ty td):=by
 intro pins s σ H Q I h;refine aQ (hi pins s σ H _ I h) fun iv s1 ⟨y,H1,I1,ry,q1⟩=>aQ (ho pins s1 σ H1 _ I1 q1) fun u s2 zz=>?_;obtain⟨x,H2,I2,rx,a,ov,ex,g,q2⟩:=zz;subst ex;obtain rfl:u=Value.ref a:=rx;exact JG hu I2 g ry fun s3 I3=>⟨.bl ov.isSome,H2,I3,rfl,q2⟩
theorem IG(hu:X.A.units+1<cLine)(hi:PE X i ty)(ho:PE X o td):PC X .NotIn i o (ui ty td):=by
 intro pins s σ H Q I h;refine aQ (hi pins s σ H _ I h) fun iv s1 ⟨y,H1,I1,ry,q1⟩=>aQ (ho pins s1 σ H1 _ I1 q1) fun u s2 zz=>?_;obtain⟨x,H2,I2,rx,a,ov,ex,g,q2⟩:=zz;subst ex;obtain rfl:u=Value.ref a:=rx;exact rX hu I2 g ry fun s3 I3=>⟨.bl (!ov.isSome),H2,I3,rfl,q2⟩
theorem wd(hu:X.A.units+1<cLine)(ho:PE X o td)(hi:PE X i ty)(hv:PE X value tv)(hs:swapsWith value (some (.Subscript o i eX)) pos.line X.env=pure false):
  PS X (.Assign [.Subscript o i eX] value pos) (DO td ty tv):=by
 intro pins s σ H D I h;refine wpAny_Assign_Subscript (aQ (hv pins s σ H _ I h) fun r s1 ⟨v,H1,I1,rv,q1⟩=>aQ (ho pins s1 σ H1 _ I1 q1) fun u s2 ⟨x,H2,I2,rx,q2⟩=>aQ (hi pins s2 σ H2 _ I2 q2) fun iv s3 zz=>?_) hs;obtain⟨y,H3,I3,ry,a,H4,ex,g,q3⟩:=zz;subst ex;obtain rfl:u=Value.ref a:=rx;exact Zbt hu I3 g ry rv fun s4 I4=>⟨σ,H4,I4,q3⟩
end
theorem OY{P:Program}{w:World}{H:Hp}(h:Heap)(hb:sysModules<h.objs.size):ObjOk P w H (h.push { cls:=.type "dict",data:=.dict #[] }) h.objs.size (.dK []):=
 ⟨fk _,aP.mpr (Ne.symm (eG hb)),[],.nil,Heap.DictOf.new h⟩
theorem nN{P:Program}{w:World}{H:Hp}(h:Heap)(hb:sysModules<h.objs.size):ObjOk P w H (h.push { cls:=.type "dict",data:=.dict #[] }) h.objs.size (.dT []):=
 ⟨fk _,aP.mpr (Ne.symm (eG hb)),[],.nil,_,#[],0,fj _ rfl,⟨rfl,rfl,rfl⟩,rfl,rfl,uJ⟩
def yL:TE:=fun _ H Q=>∀ p,H p=none->Q (.ref p) (upd H p (.dK []))
def yM:TE:=fun _ H Q=>∀ p,H p=none->Q (.ref p) (upd H p (.dT []))
section
variable{X:Cx}{pos:Pos}
theorem Pi:PE X (.Dict [] [] pos) yL:=fun pins s σ H Q I h =>
 EL ⟨.ref s.heap.objs.size,_,I.laid (a:=s.heap.objs.size) (o:=.dK []) (t':=s.toks) (fun _ _ q=>dE _ q) (bO _) (OY s.heap I.big),rfl,h _ (I.hok.fresh (bO _))⟩
theorem oW:PE X (.Dict [] [] pos) yM:=fun pins s σ H Q I h =>
 EL ⟨.ref s.heap.objs.size,_,I.laid (a:=s.heap.objs.size) (o:=.dT []) (t':=s.toks) (fun _ _ q=>dE _ q) (bO _) (nN s.heap I.big),rfl,h _ (I.hok.fresh (bO _))⟩
end
def Jx:List (TE×TE)->St->Hp->(List (V×V)->Hp->Prop)->Prop
 |[],_,H,Q=>Q [] H
 |(tk,tv)::r,σ,H,Q=>tk σ H fun x H1=>tv σ H1 fun y H2=>Jx r σ H2 fun ps H3=>Q ((x,y)::ps) H3
abbrev VV:List (V×V)->List (Value×Value)->Prop:=Paired fun p q=>RelV p.1 q.1/\RelV p.2 q.2
def EU(X:Cx)(pos:Pos)(keys:List (Option Expr))(ig:List Expr)(uu:List (TE×TE)):Prop:=
 ∀ (pins:List (Addr×Obj))(s:Shared)(σ:St)(H:Hp)(Q:List (V×V)->Hp->Prop),Inv X pins σ H s->Jx uu σ H Q ->
  wpAny (model X.prog X.w) X.A (evalPairs (pairTrees keys ig X.env pos)) (fun vs s'=>∃ ps H',Inv X pins σ H' s'/\VV ps vs/\Q ps H') X.xe s
theorem IS{X:Cx}{pos:Pos}:EU X pos [] [] []:=fun pins s σ H Q I h=>pairTrees_nil_walk ⟨[],H,I,.nil,h⟩
theorem Ba{X:Cx}{pos:Pos}{k v:Expr}{ks:List (Option Expr)}{vs:List Expr}{tk tv:TE}{uu:List (TE×TE)}(hk:PE X k tk)(hv:PE X v tv)(hr:EU X pos ks vs uu):
  EU X pos (some k::ks) (v::vs) ((tk,tv)::uu):=fun pins s σ H Q I h =>
 pairTrees_cons_walk (aQ (hk pins s σ H _ I h) fun u s1 ⟨x,H1,I1,rx,q1⟩=>aQ (hv pins s1 σ H1 _ I1 q1) fun w2 s2 ⟨y,H2,I2,ry,q2⟩ =>
  aQ (hr pins s2 σ H2 _ I2 q2) fun ws s3 ⟨ps,H3,I3,rel,q3⟩=>⟨(x,y)::ps,H3,I3,.cons ⟨rx,ry⟩ rel,q3⟩)
def zA(ah c8:List (Key×V)):List (Key×V):=c8.foldl (fun acc kv=>aG acc kv.1 kv.2) ah
theorem KV.merge:∀ {c8:List (Key×V)}{rs:List (Key×Value)}{ah:List (Key×V)}{vs:List (Key×Value)},KV c8 rs->KV ah vs->KV (zA ah c8) (merged vs rs):=by
 intro c8 rs ah vs r;unfold KV at r
 induction r generalizing ah vs with
 |nil=>intro q;exact q
 | @cons p q ps qs h t ih =>
  intro r0;have e:KV (aG ah p.1 p.2) (stored vs q.1 q.2):=by
   have:=r0.put p.1 h.2;rw [<-h.1];exact this
  exact ih e
theorem NO:∀ (c8 ah:List (Key×V)),(zA ah c8).length<=ah.length+c8.length
 |[],ah=>by show ah.length<=ah.length+0;omega
 |p::r,ah=>by
  have h1:=NO r (aG ah p.1 p.2);have h2:=mL ah p.1 p.2;show(zA (aG ah p.1 p.2) r).length<=_;rw [gC];omega
theorem N5{P:Program}{w:World}:∀ {ah:List (Key×V)}{ws:List (Value×Value)},VV (ah.map fun kv=>(kV kv.1,kv.2)) ws->∃ rs,Carries (gS P w) ws rs/\KV ah rs
 |[],_,r=>by rw [List.map_nil]at r;cases r;exact⟨[],True.intro,.nil⟩
 |p::ah,_,r=>by
  rw [ej]at r;cases r with
  | @cons a b as bs h t =>
   obtain⟨rs,c,q⟩:=N5 (P:=P) (w:=w) t;obtain⟨b1,b2⟩:=b;exact⟨(p.1,b2)::rs,⟨iO h.1,rfl,c⟩,.cons ⟨rfl,h.2⟩ q⟩
def Em(uu:List (TE×TE)):TE:=fun σ H Q=>∀ p,H p=none->Jx uu σ (upd H p (.dK [])) fun ps H2=>H2 p=some (.dK [])/\∃ ah:List (Key×V),ps=ah.map (fun kv=>(kV kv.1,kv.2))/\ah.length<=15/\Q (.ref p) (upd H2 p (.dK (zA [] ah)))
theorem IQ{X:Cx}{pos:Pos}{keys:List (Option Expr)}{ig:List Expr}{uu:List (TE×TE)}(h:EU X pos keys ig uu)(dM:keys.all (·.isSome)=true)(hl:keys.length=ig.length)(h0:keys≠[])
  (h15:keys.length<=15):PE X (.Dict keys ig pos) (Em uu):=by
 intro pins s σ H Q I q;have hn:=I.hok.fresh (bO s.heap.objs.size);have I1:=I.laid (a:=s.heap.objs.size) (o:=.dK []) (h':=s.heap.push { cls:=.type "dict",data:=.dict #[] }) (t':=s.toks) (fun _ _ q=>dE _ q) (bO _) (OY s.heap I.big);refine wpAny_Dict_walk (knd:=gS X.prog X.w) dM hl h0 h15 (aQ (h pins _ σ _ _ I1 (q _ hn)) fun ws s2 zz=>?_);obtain⟨ps,H2,I2,rel,e,ah,ep,lk,q2⟩:=zz;subst ep;obtain⟨rs,c,rk⟩:=N5 (P:=X.prog) (w:=X.w) rel;obtain⟨z,hd,vs0,r0,dd⟩:=uX I2.hok e;cases r0;refine⟨rs,c,dd,fun h' mh hs=>⟨.ref s.heap.objs.size,_,?_,rfl,q2⟩⟩;have hz:(zA [] ah).length<=sizeLine:=by
  have h1:=NO ah [];rw [lB]at h1;rw [ak];omega
 have he:∃ q,h'.get? s.heap.objs.size=some q:=by obtain⟨q,_,_,hq,_⟩:=mh;exact⟨q,hq⟩
 exact Bg I2 (by rw [e];exact True.intro) hs he (nM hz hd (rk.merge .nil) mh)
structure M2(X:Cx)(o:Expr)(m:Str)(cF:Pos)(e f:Expr)(bt:Pos):Prop where
 base:attributeBase o m X.env (eval o X.env)=eval o X.env
 few:((backTo bt (starEach [e,f] X.env)).all (fun x=>!x.1)&&(backToKw bt (keywordEach [] X.env)).all (fun x=>x.1.isSome)
  && decide (([e,f]:List Expr).length+([]:List Keyword).length+(if ([]:List Keyword).isEmpty then 0 else 1)<30))=true
 line:(cF.endLine==bt.line)=true
 trees:backTo bt (starEach [e,f] X.env)=[(false,eval e X.env),(false,eval f X.env)]
section
variable{X:Cx}{pins:List (Addr×Obj)}{σ:St}{H:Hp}{s:Shared}{a:Addr}{y d:V}{u r:Value}{o:Option V}{A:Around}{E:Value->Shared->Prop}
end
section
variable{X:Cx}{o e f:Expr}{cF bt:Pos}{td ty tx:TE}
end
section
variable{X:Cx}{pins:List (Addr×Obj)}{σ:St}{H:Hp}{s:Shared}{a:Addr}{ah:List (Key×V)}{A:Around}{E:Value->Shared->Prop}
end
section
variable{X:Cx}{pins:List (Addr×Obj)}{σ:St}{H:Hp}{s:Shared}{a:Addr}{y:V}{u:Value}{A:Around}{E:Value->Shared->Prop}
end
end L2
namespace L2
open PySem PySem.Spec PyProof.Rows
section
variable{prog:Program}{w:World}{A:Around}{E:Value->Shared->Prop}
end
section
variable{X:Cx}
end
end L2
namespace L2
open PySem PySem.Spec PyProof.Rows
theorem Z7X:bootBuiltins "reversed" = some (.type "reversed"):=by decide +kernel
section
variable{X:Cx}{pins:List (Addr×Obj)}{σ:St}{H:Hp}{s:Shared}{h':Heap}
theorem Inv.turnedL{t':Nat}{ch:List Addr}(I:Inv X pins σ H s)(k:∀ b o,b∉ch->s.heap.get? b=some o->h'.get? b=some o)(hf:∀ b∈ch,eN X pins H b):Inv X pins σ H { s with heap:=h',toks:=t' }:=by
 have vk:∀ b u,H b=some u->b∉ch:=fun b u e z=>by
  have q:=(hf b z).1;rw [q]at e;cases e
 refine I.step (g':=s.gens) (d':=s.drawn) (ch:=ch) (fun b hb=>⟨(hf b hb).2.2.2.1,(hf b hb).2.1,(hf b hb).2.2.2.2.1,(hf b hb).2.2.2.2.2⟩) (fun b o _ _ hc e _=>k b o hc e) (fun b o _ _ hc e _=>⟨o.slots,k b o hc e⟩)
  (fun _ _ _ _ n=>n) (fun b o hc e=>⟨o,k b o hc e⟩) (fun _ _ e=>e) (fun _ _ _ e=>e) (fun b ps e=>⟨#[],by rw [e];simp⟩) (fun m hm=>?_) (fun b u e=>?_) I.bare
 ·obtain⟨o,es,ep,ho,r⟩:=hm;exact⟨o,es,ep,k _ o (fun z=>(hf _ z).2.1 rfl) ho,r⟩
 ·refine(I.hok b u e).stay (fun c v hc q=>k c v ?_ q) (fun _ q=>q) fun _ _ q=>q;rcases hc with z |z
  ·rw [z];exact vk b u e
  ·exact vk c _ z
theorem Inv.turnedNew{t':Nat}{ch:List Addr}{T:Addr}{ob:HO}(I:Inv X pins σ H s)(k:∀ b o,b∉ch->s.heap.get? b=some o->h'.get? b=some o)(hf:∀ b∈ch,eN X pins H b)(hT:s.heap.objs.size<=T)
  (new:ObjOk X.prog X.w (upd H T ob) h' T ob):Inv X pins σ (upd H T ob) { s with heap:=h',toks:=t' }:=by
 have hn:H T=none:=I.hok.fresh hT;have vk:∀ b u,H b=some u->b∉ch:=fun b u e z=>by
  have q:=(hf b z).1;rw [q]at e;cases e
 refine I.step (g':=s.gens) (d':=s.drawn) (ch:=ch) (fun b hb=>⟨(hf b hb).2.2.2.1,(hf b hb).2.1,(hf b hb).2.2.2.2.1,(hf b hb).2.2.2.2.2⟩) (fun b o _ _ hc e _=>k b o hc e) (fun b o _ _ hc e _=>⟨o.slots,k b o hc e⟩)
  (fun b o _ e n=>?_) (fun b o hc e=>⟨o,k b o hc e⟩) (fun b xs e=>?_) (fun b o u e=>?_) (fun b ps e=>⟨#[],?_⟩) (fun m hm=>?_) (fun b u e=>?_) I.bare
 ·rw [aj (eG (iD (cz e) hT))];exact n
 ·rw [aj (ba e hn)];exact e
 ·rw [aj (ba e hn)];exact e
 ·rw [aj (ba e hn),e];simp
 ·obtain⟨o,es,ep,ho,r⟩:=hm;exact⟨o,es,ep,k _ o (fun z=>(hf _ z).2.1 rfl) ho,r⟩
 ·by_cases hb:b=T
  ·subst hb;rw [Z2j]at e;cases e;exact new
  ·rw [aj hb]at e;refine(I.hok b u e).stay (fun c v hc q=>k c v ?_ q) (fun c q=>by rw [aj (ba q hn)];exact q) fun c xs q=>by rw [aj (ba q hn)];exact q
   rcases hc with z |z
   ·rw [z];exact vk b u e
   ·exact vk c _ z
end
section
variable{X:Cx}
theorem pr{tg:Expr}{pins:List (Addr×Obj)}{σ:St}{H:Hp}{s:Shared}{R:It->Hp->Prop}{J:It}{tn:Nat->Heap->Prop}{tk:Nat}(I:Inv X pins σ H s)(o:Obj)
  (T:iZ X.prog X.w X.K tg J [s.heap.objs.size] s.heap.objs.size tn)(st:tn 0 (s.heap.push o))(q:R J H):ET X pins σ tg R (.ref s.heap.objs.size) { s with heap:=s.heap.push o,toks:=tk }:=by
 refine⟨s.heap.objs.size,[s.heap.objs.size],tn,J,H,rfl,I.kept fun b ob e=>dE _ e,T,st,fun b hb=>?_,q⟩;have e:b=s.heap.objs.size:=by simpa using hb
 subst e;exact I.fpOk (bO _) (I.hok.fresh (bO _))
end
section
variable{X:Cx}{tg:Expr}
end
def Au(K:aq)(a:Addr)(n:Nat):It:=
 ⟨fun i H=>i<n/\∃ (xs:List V)(x:V),SqL K H a xs/\xs[n-1-i]?=some x,fun i H x H'=>H'=H/\∀ xs,SqL K H a xs->xs[n-1-i]?=some x,fun i _=>n<=i⟩
theorem ql{P:Program}{w:World}{K:aq}{tg:Expr}(a it:Addr)(n:Nat):iZ P w K tg (Au K a n) [it] it (fun i h=>i<=n/\h.IsRevIter it a ((n:Int)-1-(i:Nat))) where
 mem:=by simp
 obj:=fun i h st b hb=>by
  have e:b=it:=by simpa using hb
  subst e;obtain⟨_,o,e,c,d⟩:=st;exact⟨o,e,fun v z=>by rw [d]at z;cases z⟩
 keep:=fun i h h' st k=>⟨st.1,st.2.at fun o e=>k it (by simp) o e⟩
 item:=by
  intro X hP hw hK hc i pins s σ H E I hf st hg;subst hP hw hK;obtain⟨mq,xs,x,hq,hx⟩:=hg;obtain⟨its,rv,p,hz⟩:=I.list hq;obtain⟨u,hu,ru⟩:=rv.get hx;obtain⟨f0,f1,f2,f3,f4,f5⟩:=hf it (by simp)
  obtain⟨_,dS⟩:=st;have e1:(n:Int)-1-((i:Nat):Int)=((n-1-i:Nat):Int):=by omega
  rw [e1]at dS;refine wpAny_pyNext_rev_item dS p.isList (x:=u) (by simpa using hu) fun h' jG sb=>?_
  have e2:((n-1-i:Nat):Int)-1=(n:Int)-1-((i+1:Nat):Int):=by omega
  rw [e2]at jG;have I1:Inv X pins σ H { s with heap:=h' }:=I.turned (t':=s.toks) (fun b o hb e=>(sb.2 b hb).trans e) f0 f1 f3 f4 f5
  obtain⟨o,e,c,d⟩:=id jG;exact⟨u,rfl,kN (s:={ s with heap:=h' }) e c d (by decide) ⟨x,H,I1,ru,⟨rfl,fun ys hy=>by rw [I.list_inj hy hq];exact hx⟩,⟨mq,jG⟩,fun b hb=>(hf b hb).1⟩⟩
 done:=by
  intro X hP hw hK hc i pins s σ H E I hf st hg;subst hP hw hK;obtain⟨f0,f1,f2,f3,f4,f5⟩:=hf it (by simp)
  obtain⟨mq,dS⟩:=st;have u9:n<=i:=hg;have e1:(n:Int)-1-((i:Nat):Int)=-1:=by omega
  rw [e1]at dS;exact wpAny_pyNext_rev_end (I.ok.hd hc) dS fun h' eb=>⟨rfl,I.turned (t':=s.toks) (fun b o hb e=>eb b o hb e) f0 f1 f3 f4 f5⟩
 self:=fun A i s Q E st h=>wpAny_pyIter_revIter st.2 h
def Lb(K:aq)(ta:TA):TI:=fun σ H R=>ta σ H fun vs H1=>∃ (a:Addr)(xs:List V),vs=[.ref a]/\SqL K H1 a xs/\R (Au K a xs.length) H1
section
variable{X:Cx}{tg:Expr}
theorem Z9M{e:Expr}{ta:TA}{p pos:Pos}(hg:Gl X "reversed")(hm:X.mg "reversed" = none)(ha:PA X [e] ta)(hs:autoParam (starEach [e] X.env=[(false,eval e X.env)]) aR._auto_1):PI X tg (.Call (.Name "reversed" p) [e] [] pos) (Lb X.K ta):=by
 intro pins s σ H R I h;refine Call_ (Bl I hg hm Z7X (PyProof.Rows.callWith_type1 (aQ (ha pos pins s σ H _ I h) fun us s1 ⟨vs,H1,I1,r1,q1⟩=>?_) hs rfl));obtain⟨a,xs,e,hq,q⟩:=q1;subst e;cases r1 with
 |cons r rr =>
  cases rr;cases r;obtain⟨its,rv,p',hz⟩:=I1.list hq;have hl:=rv.length;have e1:((its.toArray.size:Nat):Int)-1=(xs.length:Int)-1-((0:Nat):Int):=by simp only [fZ];omega
  refine call_reversed_list p'.isList (wpAny_pyIter_revIter (l:=a) (i:=((its.toArray.size:Nat):Int)-1) ⟨_,fj _ rfl,rfl,rfl⟩ ?_);refine pr (tk:=s1.toks) I1 _ (ql a _ xs.length) ⟨fk _,?_⟩ q;rw [<-e1];exact⟨_,fj _ rfl,rfl,rfl⟩
end
section
variable{prog:Program}{w:World}{A:Around}{E:Value->Shared->Prop}{s:Shared}
theorem Z8y{it d:Addr}{i n ep:Nat}{od:Obj}{es:Array DictEntry}{en:DictEntry}{Q:Option Value->Shared->Prop}(dS:s.heap.IsKeyIter it d i n ep)(gf:s.heap.get? d=some od)(iJ:od.data=.dict es ep)
  (hsz:es.size=n)(hx:es[i]?=some en)(hQ:∀ h',h'.IsKeyIter it d (i+1) n ep->Heap.SameBut it s.heap h'->Q (some en.key) { s with heap:=h' }):wpAny (model prog w) A (pyNext (.ref it)) Q E s:=by
 obtain⟨o,ho,hc,hd⟩:=id dS;unfold pyNext;refine aa (iz (d7 (name:=Str.ofString "__next__") dS.typeIs F.slot_dict_keyiterator_next
  (cG F.slot_dict_keyiterator_next dS.typeIs F.entry_dict_keyiterator_next ?_ (F.args_dict_keyiterator_next_1 _))))
 refine aa (af ?_);refine aa ?_;refine aa ?_
 first |refine aa (cR dS.typeIs (af ?_)) |refine aa (dP dS.typeIs (af ?_))
 refine aa (lV ho hd ?_);have g9:Builtin.Dict_items.ownsTuple "dict_keyiterator" = false:=by decide
 simp only [g9,AC,bv];show wpAny _ _ (if (Value.ref d==Value.none)=true then _ else _) _ _ s;rw [ac (show ¬ ((Value.ref d==Value.none)=true)from fi)];refine aa (af ?_);refine aa (df gf iJ ?_);rw [ac (by rw [hsz];simp)]
 refine aa (af ?_);refine aa (dU gf iJ ?_);rw [ac (by simp)]
 refine af ?_;obtain⟨wX,B6⟩:=qw.mp hx;simp only [show ¬ ((i:Int)<0)from by omega,bv,AQ,AE wX]
 refine aa ?_
 first |refine aa (cR dS.typeIs (af ?_)) |refine aa (dP dS.typeIs (af ?_))
 refine aa (wpAny_isOneOf_keyiter dS.typeIs ?_);show wpAny _ _ (setField (.ref it) 1 (rawInt ((i:Int)+1)) >>= _) _ _ s;refine aa (bK ho hd (by simp) ?_)
 have sM:(s.heap.update it (Obj.mapFields (·.setIfInBounds 1 (rawInt ((i:Int)+1))))).IsKeyIter it d (i+1) n ep:=
  ⟨_,lY _ ho (Obj.isFreed_of_fields (Obj.data_mapFields hd _)),(Obj.cls_mapFields ..).trans hc,by rw [Obj.data_mapFields hd];simp [rawInt]⟩
 refine aa (bx ?_);refine aa (wpAny_isOneOf_keyiter (s:={ s with heap:=s.heap.update it (Obj.mapFields (·.setIfInBounds 1 (rawInt ((i:Int)+1)))) }) sM.typeIs ?_)
 show wpAny _ _ (pure es[i].key) _ _ _;rw [B6];exact af (af ⟨_,rfl,af (hQ _ sM (Heap.SameBut.update ..))⟩)
theorem Z8T{it d:Addr}{i n ep:Nat}{od:Obj}{es:Array DictEntry}{Q:Option Value->Shared->Prop}(hh:A.handled=none)(dS:s.heap.IsKeyIter it d i n ep)(gf:s.heap.get? d=some od)(iJ:od.data=.dict es ep)
  (hsz:es.size=n)(u9:n<=i)(hQ:∀ h',Heap.ExtBut it s.heap h'->Q none { s with heap:=h' }):wpAny (model prog w) A (pyNext (.ref it)) Q E s:=by
 obtain⟨o,ho,hc,hd⟩:=id dS;unfold pyNext;refine aa (iz (d7 (name:=Str.ofString "__next__") dS.typeIs F.slot_dict_keyiterator_next
  (cG F.slot_dict_keyiterator_next dS.typeIs F.entry_dict_keyiterator_next ?_ (F.args_dict_keyiterator_next_1 _))))
 refine aa (af ?_);refine aa ?_;refine aa ?_
 first |refine aa (cR dS.typeIs (af ?_)) |refine aa (dP dS.typeIs (af ?_))
 refine aa (lV ho hd ?_);have g9:Builtin.Dict_items.ownsTuple "dict_keyiterator" = false:=by decide
 simp only [g9,AC,bv];show wpAny _ _ (if (Value.ref d==Value.none)=true then _ else _) _ _ s;rw [ac (show ¬ ((Value.ref d==Value.none)=true)from fi)];refine aa (af ?_);refine aa (df gf iJ ?_);rw [ac (by rw [hsz];simp)]
 refine aa (af ?_);refine aa (dU gf iJ ?_);rw [ac (by simp)]
 refine af ?_;have Kq:es.size<=i:=by rw [hsz];exact u9
 simp only [show ¬ ((i:Int)<0)from by omega,bv,AQ,Hb Kq]
 refine aa ?_
 first |refine aa (cR dS.typeIs (af ?_)) |refine aa (dP dS.typeIs (af ?_))
 show wpAny _ _ (setField (.ref it) 0 .none >>= _) _ _ s;refine aa (bK ho hd (by simp) ?_)
 show wpAny _ _ (newExc (.type "StopIteration") [] >>= _) _ _ _;refine aa ?_;simp only [newExc,newTuple];refine aa (aA ?_ (by size_fits))
 refine aa (m:=firstArgMember _ _) (wpAny_of_eq (a:=Value.none) (by first |rfl |(simp only [firstArgMember];rfl)) ?_)
 refine aA ?_ (by size_fits)
 simp only [raiseNew];refine aa (wpAny_handled ?_);rw [show A.in1.handled=none from hh];refine aa (af (lW ?_));refine aa (wpAny_isInstance (T:="StopIteration") (b:=true) ⟨_,fj _ rfl,rfl⟩ isSubtype_stop ?_);exact af (hQ _ (((Heap.SameBut.update ..).extBut.push _).push _))
end
section
variable{X:Cx}{pins:List (Addr×Obj)}{σ:St}{H:Hp}{s:Shared}{d:Addr}{o:Obj}
end
section
variable{P:Program}{w:World}{K:aq}{tg:Expr}{d:Addr}{o:Obj}{es:Array DictEntry}{ep:Nat}
end
section
variable{X:Cx}{tg e:Expr}{td:TE}{cF bt:Pos}
end
def As(K:aq)(a:Addr):It:=
 ⟨fun i H=>∃ (xs:List V)(x:V),SqL K H a xs/\xs[i]?=some x,fun i H v H'=>∃ T x,v=.ref T/\H T=none/\H'=upd H T (.tup [.int (i:Nat),x])/\∀ xs,SqL K H a xs->xs[i]?=some x,fun i H=>∃ xs:List V,SqL K H a xs/\xs.length<=i⟩
theorem Zbl{P:Program}{w:World}{K:aq}{gF:List Expr}{kk:Nat}{dO:Pos}(a e it:Addr):
  iZ P w K (.Tuple gF kk dO) (As K a) [e,it] e (fun i h=>(∃ iu,IsEnum h e it ((i:Nat):Int) iu)/\h.IsListIter it a i/\e≠it) where
 mem:=by simp
 obj:=fun i h st b hb=>by
  obtain⟨⟨iu,he⟩,⟨o,ho,hc,hd⟩,_⟩:=st;have e':b=e\/b=it:=by simpa using hb
  rcases e' with z |z
  ·rw [z];exact⟨_,he,fun v q=>nomatch q⟩
  ·rw [z];exact⟨o,ho,fun v q=>by rw [hd]at q;cases q⟩
 keep:=fun i h h' st k=>by obtain⟨⟨iu,he⟩,hi,bV⟩:=st;exact⟨⟨iu,k e (by simp) _ he⟩,hi.at fun o q=>k it (by simp) o q,bV⟩
 item:=by
  intro X hP hw hK hc i pins s σ H E I hf st hg;subst hP hw hK;obtain⟨⟨iu,he⟩,dS,bV⟩:=st;obtain⟨xs,x,hq,hx⟩:=hg;obtain⟨its,rv,p,hz⟩:=I.list hq;obtain⟨u,hu,ru⟩:=rv.get hx;have QM:e<s.heap.objs.size:=cz he;have sK:it<s.heap.objs.size:=by obtain⟨_,q,_⟩:=dS;exact cz q
  refine wpAny_pyNext_enum_item he dS p.isList (x:=u) (by simpa using hu) bV fun h' ho sM hT hsz hk=>?_
  refine⟨_,rfl,wpAny_letOwnedTupleGo_enum (s:={ s with heap:=h',toks:=s.toks+1 }) ho fun mi B5 sb=>?_⟩
  have BU:mi.get? s.heap.objs.size=some { cls:=.type "tuple",data:=.seq #[.int i s.toks,u] }:=(sb.2 _ (ko QM)).trans hT;have new:ObjOk X.prog X.w (upd H s.heap.objs.size (.tup [.int (i:Nat),x])) mi s.heap.objs.size (.tup [.int (i:Nat),x]):=
   ⟨by show 2<=sizeLine;decide,[.int i s.toks,u],.cons ⟨_,rfl⟩ (.cons ru .nil),⟨_,BU,rfl,_,rfl⟩⟩
  have I1:Inv X pins σ (upd H s.heap.objs.size (.tup [.int (i:Nat),x])) { s with heap:=mi,toks:=s.toks+1 }:=
   I.turnedNew (ch:=[e,it]) (fun b ob hb q=>(sb.2 b (fun z=>hb (by simp [z]))).trans (hk b ob (fun z=>hb (by simp [z])) (fun z=>hb (by simp [z])) q)) hf (bO _) new
  refine⟨.ref s.heap.objs.size,_,I1,rfl,⟨_,x,rfl,I.hok.fresh (bO _),rfl,fun ys hy=>by rw [I.list_inj hy hq];exact hx⟩,⟨⟨u,?_⟩,sM.at fun o q=>(sb.2 it (Ne.symm bV)).trans q,bV⟩,fun b hb=>?_⟩
  ·have e1:((i+1:Nat):Int)=(i:Int)+1:=by omega
   rw [e1];exact B5
  ·have j9:b<s.heap.objs.size:=by
    have e':b=e\/b=it:=by simpa using hb
    rcases e' with z |z
    ·rw [z];exact QM
    ·rw [z];exact sK
   rw [aj (eG j9)];exact(hf b hb).1
 done:=by
  intro X hP hw hK hc i pins s σ H E I hf st hg;subst hP hw hK;obtain⟨⟨iu,he⟩,dS,bV⟩:=st;obtain⟨xs,hq,hx⟩:=hg;obtain⟨its,rv,p,hz⟩:=I.list hq;obtain⟨f0,f1,f2,f3,f4,f5⟩:=hf it (by simp)
  have hl:=rv.length;exact wpAny_pyNext_enum_end (I.ok.hd hc) he dS p.isList (by simp;omega) fun h' eb=>⟨rfl,I.turned (t':=s.toks) (fun b o hb q=>eb b o hb q) f0 f1 f3 f4 f5⟩
 self:=fun A i s Q E st h=>by obtain⟨⟨_,he⟩,_⟩:=st;exact wpAny_pyIter_enum he h
def CO(K:aq)(ta:TA):TI:=fun σ H R=>ta σ H fun vs H1=>∃ a xs,vs=[.ref a]/\SqL K H1 a xs/\R (As K a) H1
theorem FC{X:Cx}{e:Expr}{ta:TA}{p pos dO:Pos}{gF:List Expr}{kk:Nat}(hg:Gl X "enumerate")(hm:X.mg "enumerate" = none)(ha:PA X [e] ta)(hs:autoParam (starEach [e] X.env=[(false,eval e X.env)]) aR._auto_1):
  PI X (.Tuple gF kk dO) (.Call (.Name "enumerate" p) [e] [] pos) (CO X.K ta):=by
 intro pins s σ H R I h;refine Call_ (Bl I hg hm boot_enumerate (PyProof.Rows.callWith_type1 (aQ (ha pos pins s σ H _ I h) fun us s1 ⟨vs,H1,I1,r1,q1⟩=>?_) hs rfl));obtain⟨a,xs,ex,hq,q⟩:=q1;subst ex;cases r1 with
 |cons r rr =>
  cases rr;cases r;obtain⟨its,rv,p',hz⟩:=I1.list hq;refine call_enumerate_list p'.isList fun h' he dS hsz hk=>wpAny_pyIter_enum he ?_;have I2:Inv X pins σ H1 { s1 with heap:=h' }:=I1.kept (t':=s1.toks) hk
  refine⟨s1.heap.objs.size+1,[s1.heap.objs.size+1,s1.heap.objs.size],_,_,H1,rfl,I2,Zbl a (s1.heap.objs.size+1) s1.heap.objs.size,⟨⟨.none,he⟩,dS,Nat.succ_ne_self _⟩,fun b hb=>?_,q⟩;have e':b=s1.heap.objs.size+1\/b=s1.heap.objs.size:=by simpa using hb
  have i9:s1.heap.objs.size<=b:=by
   rcases e' with z |z
   ·rw [z];exact zg _ _
   ·rw [z];exact bO _
  exact I1.fpOk i9 (I1.hok.fresh i9)
theorem Zbv:bootBuiltins "zip" = some (.type "zip"):=by decide +kernel
def Av(K:aq)(a b:Addr):It:=
 ⟨fun i H=>∃ (xs ys:List V)(x y:V),SqL K H a xs/\SqL K H b ys/\xs[i]?=some x/\ys[i]?=some y,
  fun i H v H'=>∃ T x y,v=.ref T/\H T=none/\H'=upd H T (.tup [x,y])/\(∀ xs,SqL K H a xs->xs[i]?=some x)/\∀ ys,SqL K H b ys->ys[i]?=some y,
  fun i H=>∃ xs ys:List V,SqL K H a xs/\SqL K H b ys/\(xs.length<=i\/ys.length<=i)⟩
theorem qm{P:Program}{w:World}{K:aq}{gF:List Expr}{kk:Nat}{dO:Pos}{a b z TI TO i1 i2:Addr}(D:ZipApart z TI TO i1 i2 a b):
  iZ P w K (.Tuple gF kk dO) (Av K a b) [z,TI,TO,i1,i2] z (fun i h=>IsZip h z TI TO .none/\IsPair h TI (.ref i1) (.ref i2)/\(∃ x y,IsPair h TO x y)/\h.IsListIter i1 a i/\h.IsListIter i2 b i) where
 mem:=by simp
 obj:=fun i h st c hc=>by
  obtain⟨hz,oh,⟨x,y,qH⟩,⟨o1,e1,_,d1⟩,⟨o2,e2,_,d2⟩⟩:=st;have e':c=z\/c=TI\/c=TO\/c=i1\/c=i2:=by simpa using hc
  rcases e' with q |q |q |q |q
  ·rw [q];exact⟨_,hz,fun v q=>nomatch q⟩
  ·rw [q];exact⟨_,oh,fun v q=>nomatch q⟩
  ·rw [q];exact⟨_,qH,fun v q=>nomatch q⟩
  ·rw [q];exact⟨o1,e1,fun v q=>by rw [d1]at q;cases q⟩
  ·rw [q];exact⟨o2,e2,fun v q=>by rw [d2]at q;cases q⟩
 keep:=fun i h h' st k=>by
  obtain⟨hz,oh,⟨x,y,qH⟩,h1,h2⟩:=st;exact⟨k z (by simp) _ hz,k TI (by simp) _ oh,⟨x,y,k TO (by simp) _ qH⟩,h1.at fun o q=>k i1 (by simp) o q,h2.at fun o q=>k i2 (by simp) o q⟩
 item:=by
  intro X hP hw hK hc i pins s σ H E I hf st hg;subst hP hw hK;obtain⟨hz,oh,⟨x0,y0,qH⟩,h1,h2⟩:=st;obtain⟨xs,ys,x,y,zW,zX,hx,hy⟩:=hg;obtain⟨its,rv,p,_⟩:=I.list zW;obtain⟨gH,Gc,p2,_⟩:=I.list zX;obtain⟨u,hu,ru⟩:=rv.get hx;obtain⟨u2,CD,ru2⟩:=Gc.get hy;have Q9:z<s.heap.objs.size:=cz hz;refine wpAny_pyNext_zip_item D hz oh qH h1 h2 p.isList p2.isList (x:=u) (y:=u2) (by simpa using hu) (by simpa using CD) fun h' z' TO' FT JV hT hsz hk=>?_
  refine⟨_,rfl,wpAny_letOwnedTupleGo_zip (s:={ s with heap:=h' }) z' fun mi z'' sb=>?_⟩
  have BU:mi.get? s.heap.objs.size=some { cls:=.type "tuple",data:=.seq #[u,u2] }:=(sb.2 _ (ko Q9)).trans hT;have new:ObjOk X.prog X.w (upd H s.heap.objs.size (.tup [x,y])) mi s.heap.objs.size (.tup [x,y]):=
   ⟨by show 2<=sizeLine;decide,[u,u2],.cons ru (.cons ru2 .nil),⟨_,BU,rfl,_,rfl⟩⟩
  have I1:Inv X pins σ (upd H s.heap.objs.size (.tup [x,y])) { s with heap:=mi }:=
   I.turnedNew (t':=s.toks) (ch:=[z,TI,TO,i1,i2]) (fun c o hb q=>(sb.2 c (fun q'=>hb (by simp [q']))).trans (hk c o (fun q'=>hb (by simp [q'])) (fun q'=>hb (by simp [q'])) (fun q'=>hb (by simp [q'])) (fun q'=>hb (by simp [q'])) q)) hf (bO _) new
  refine⟨.ref s.heap.objs.size,_,I1,rfl,⟨_,x,y,rfl,I.hok.fresh (bO _),rfl,fun l hl=>by rw [I.list_inj hl zW];exact hx,fun l hl=>by rw [I.list_inj hl zX];exact hy⟩,⟨z'',?_,⟨u,u2,?_⟩,?_,?_⟩,fun c zP=>?_⟩
  ·exact(sb.2 _ D.TIz).trans (hk _ _ D.TIz D.TITO D.TIi1 D.TIi2 oh)
  ·exact(sb.2 _ D.TOz).trans TO'
  ·exact FT.at fun o q=>(sb.2 _ D.i1z).trans q
  ·exact JV.at fun o q=>(sb.2 _ D.i2z).trans q
  ·have cg:c<s.heap.objs.size:=by
    have e':c=z\/c=TI\/c=TO\/c=i1\/c=i2:=by simpa using zP
    rcases e' with q |q |q |q |q
    ·rw [q];exact Q9
    ·rw [q];exact cz oh
    ·rw [q];exact cz qH
    ·rw [q];obtain⟨_,e1,_⟩:=h1;exact cz e1
    ·rw [q];obtain⟨_,e2,_⟩:=h2;exact cz e2
   rw [aj (eG cg)];exact(hf c zP).1
 done:=by
  intro X hP hw hK hc i pins s σ H E I hf st hg;subst hP hw hK;obtain⟨hz,oh,⟨x0,y0,qH⟩,h1,h2⟩:=st;obtain⟨xs,ys,zW,zX,sJ⟩:=hg;obtain⟨its,rv,p,_⟩:=I.list zW;obtain⟨gH,Gc,p2,_⟩:=I.list zX;have l1:=rv.length;have l2:=Gc.length;have he:its.toArray[i]?=none\/gH.toArray[i]?=none:=by
   rcases sJ with q |q
   ·exact .inl (by simp;omega)
   ·exact .inr (by simp;omega)
  exact wpAny_pyNext_zip_end (I.ok.hd hc) D hz oh qH h1 h2 p.isList p2.isList he fun h' hk=>⟨rfl,I.turnedL (t':=s.toks) (ch:=[z,TI,TO,i1,i2]) (fun c o hb q =>
   hk c o (fun q'=>hb (by simp [q'])) (fun q'=>hb (by simp [q'])) (fun q'=>hb (by simp [q'])) (fun q'=>hb (by simp [q'])) q) hf⟩
 self:=fun A i s Q E st h=>wpAny_pyIter_zip st.1 h
def Ld(K:aq)(ta:TA):TI:=fun σ H R=>ta σ H fun vs H1=>∃ a b xs ys,vs=[.ref a,.ref b]/\SqL K H1 a xs/\SqL K H1 b ys/\R (Av K a b) H1
theorem yp{X:Cx}{e e2:Expr}{ta:TA}{p pos dO:Pos}{gF:List Expr}{kk:Nat}(hg:Gl X "zip")(hm:X.mg "zip" = none)(ha:PA X [e,e2] ta)
  (hs:autoParam (starEach [e,e2] X.env=(false,eval e X.env)::starEach [e2] X.env) aR._auto_1)(ja:autoParam ((backTo pos (starEach [e2] X.env)).any (·.1)=false) aR._auto_1):
  PI X (.Tuple gF kk dO) (.Call (.Name "zip" p) [e,e2] [] pos) (Ld X.K ta):=by
 intro pins s σ H R I h;refine Call_ (Bl I hg hm Zbv (PyProof.Rows.callWith_type1 (aQ (ha pos pins s σ H _ I h) fun us s1 ⟨vs,H1,I1,r1,q1⟩=>?_) hs ja));obtain⟨a,b,xs,ys,ex,zW,zX,q⟩:=q1;subst ex;cases r1 with
 |cons r rr =>
  cases rr with
  |cons r' rr =>
   cases rr;cases r;cases r';obtain⟨its,rv,p1,_⟩:=I1.list zW;obtain⟨gH,Gc,p2,_⟩:=I1.list zX;have la:a<s1.heap.objs.size:=p1.lt;have lb:b<s1.heap.objs.size:=p2.lt;refine call_zip_2 p1.isList p2.isList fun h' hz oh qH h1 h2 hsz hk=>wpAny_pyIter_zip hz ?_;have I2:Inv X pins σ H1 { s1 with heap:=h' }:=I1.kept (t':=s1.toks) hk
   refine⟨s1.heap.objs.size+4,[s1.heap.objs.size+4,s1.heap.objs.size+2,s1.heap.objs.size+3,s1.heap.objs.size,s1.heap.objs.size+1],_,_,H1,rfl,I2,qm (PySem.W.ktu_apart s1.heap.objs.size a b la lb),⟨hz,oh,⟨_,_,qH⟩,h1,h2⟩,fun c zP=>?_,q⟩;have e':c=s1.heap.objs.size+4\/c=s1.heap.objs.size+2\/c=s1.heap.objs.size+3\/c=s1.heap.objs.size\/c=s1.heap.objs.size+1:=by simpa using zP
   have i9:s1.heap.objs.size<=c:=by
    rcases e' with z |z |z |z |z
    ·rw [z];exact zg _ _
    ·rw [z];exact zg _ _
    ·rw [z];exact zg _ _
    ·rw [z];exact bO _
    ·rw [z];exact zg _ _
   exact I1.fpOk i9 (I1.hok.fresh i9)
end L2
section
namespace Bits
open PySem PyProof.Rows
end Bits
end
section
namespace TL
open PySem PySem.Builtin PySem.Builtin.Str PySem.StrLaws
end TL
end
namespace L2
open PySem PySem.Spec PyProof.Rows
section
variable{X:Cx}{pins:List (Addr×Obj)}{σ:St}{H:Hp}{s:Shared}{Q:VK}
end
section
variable{X:Cx}
end
section
variable{X:Cx}{o e:Expr}{to te:TE}
end
end L2
namespace L2
open PySem PySem.Spec PyProof.Rows
section
variable{X:Cx}
end
end L2
namespace Att
open PySem PySem.W PySem.Calls PyProof.Rows
section
variable{prog:Program}{w:World}{A:Around}{E:Value->Shared->Prop}{s:Shared}{K:Frag}
end
end Att
namespace L2
open PySem PySem.Spec PyProof.Rows
end L2
namespace L2
open PySem PySem.Spec PyProof.Rows
end L2
namespace L2
open PySem PySem.Spec PyProof.Rows
def iq(s:Stmt)(j:Nat):Stmt:=match s with
 |.ClassDef _ _ _ body _ _ _ _ _ _ _=>body.getD j (.Pass ⟨0,0,0,0⟩)
 |_=>.Pass ⟨0,0,0,0⟩
def lH(s:Stmt):Arguments:=match s with
 |.FunctionDef _ a _ _ _ _ _ _ _ _=>a
 |_=>{ posonlyargs:=[],args:=[],vararg:=none,kwonlyargs:=[],kw_defaults:=[],kwarg:=none,defaults:=[] }
def eQ(s:Stmt):List Stmt:=match s with
 |.FunctionDef _ _ b _ _ _ _ _ _ _=>b
 |_=>[]
def bo(s:Stmt):Scope:=match s with
 |.FunctionDef _ _ _ _ _ _ sc _ _ _=>sc
 |_=>{ kind:=.function,names:=[],isGenerator:=false,isCoroutine:=false }
abbrev CX0:jW:=fun _ _ _ _ _ _=>False
abbrev E0:XK:=fun _ _ _=>False
theorem aC{X:Cx}:jo CX0 X E0:=fun _ _ _ _ _ _ _ h=>h.elim
structure Fun(K:aq)(x qual:Str)(st:Stmt)(f:Addr)(fd:FuncData):Prop where
 ex:∃ (oc:Value)(od:Option Addr)(kV gW pm:Value)(an:Option Addr)(bq ct:Value)(jc:Array (Option Value)),
  fd=PySem.W.fnOf x qual (lH st) (eQ st) (bo st) .none kV gW pm an bq ct/\K.lookup f=some ⟨oc,od,.func fd,jc⟩/\PySem.W.codeIn K bq qual=true
 kp:PySem.W.keepIn K (.ref f)=true
section
variable{P:Program}{w:World}{K:aq}{mg:Str->Option Value}{base:Heap}
theorem Fun.ok{x qual:Str}{st:Stmt}{f:Addr}{fd:FuncData}{N ps:List Str}{k:Nat}{sp:Sp}(F:Fun K x qual st f fd)(S:cX N ps (bo st))(len:∀ vs H Q E,sp vs H Q E->vs.length=ps.length)
  (gY:∀ (bq:Value)(A:Around)(outer:List Env)(s:Shared)(H:Hp)(vs:List V)(Q:VK)(E:XK),Room k (A.deeper (envOfC qual (bo st) s.heap.objs.size f bq))->sp vs H Q E ->
    ∃ t,PSs (j6 CX0 P w K mg base N qual (bo st) f bq A outer s H E).nox (eQ st) t/\t { nx:=fun _ H'=>Q .non H',rt:=Q } (start N vs) H):am P w K mg base CX0 (k+1) f fd ps sp:=by
 obtain⟨oc,od,kV,gW,pm,an,bq,ct,jc,rfl,lk,ji⟩:=F.ex;refine nW lk ji S len fun A outer s H vs Q E hr kc=>?_;obtain⟨t,h,q⟩:=gY bq A outer s H vs Q E hr kc;exact⟨t,h.nox,q⟩
theorem Fun.binds{x qual:Str}{st:Stmt}{f:Addr}{fd:FuncData}{ps:List Str}(F:Fun K x qual st f fd)
  (h:∀ (kV gW pm:Value)(an:Option Addr)(bq ct:Value)(us:List Value),us.length=ps.length->bindArgs (PySem.W.fnOf x qual (lH st) (eQ st) (bo st) .none kV gW pm an bq ct) ⟨us,[]⟩=pure (ps.zip us)):Binds K fd ps []:=by
 obtain⟨oc,od,kV,gW,pm,an,bq,ct,jc,rfl,lk,ji⟩:=F.ex;exact .all (h kV gW pm an bq ct)
theorem wL{x qual:Str}{st:Stmt}{f:Addr}{oc:Value}{od an:Option Addr}{jc:Array (Option Value)}{kV gW pm bq ct:Value}(l:K.lookup f=some ⟨oc,od,.func (PySem.W.fnOf x qual (lH st) (eQ st) (bo st) .none kV gW pm an bq ct),jc⟩)
  (c:PySem.W.codeIn K bq qual=true)(k:PySem.W.keepIn K (.ref f)=true):Fun K x qual st f (PySem.W.fnOf x qual (lH st) (eQ st) (bo st) .none kV gW pm an bq ct):=⟨⟨oc,od,kV,gW,pm,an,bq,ct,jc,rfl,l,c⟩,k⟩
end
theorem eF{A:Around}{k:Nat}(hr:Room k A):A.units+1<cLine:=Nat.lt_of_le_of_lt (Nat.add_le_add_left (by decide:1<=64) _) hr.units
section
variable{X:Cx}
theorem pv(i:Nat){x:Str}{pos:Pos}(hN:autoParam (X.N[i]?=some x) aR._auto_1)(hv:autoParam (zb X.env.scope x) aV._auto_1)(hd:autoParam ((x==("__debug__":Str))=false) aD._auto_1)
  (ji:autoParam ((x==("__classdict__":Str))=false) aD._auto_1):PE X (.Name x pos) (EB i):=pf hN hv hd ji
end
theorem bu{c A B:Prop}[Decidable c](h1:c->A)(h2:¬ c->B):if c then A else B:=by
 by_cases h:c
 ·rw [ae h];exact h1 h
 ·rw [ac h];exact h2 h
def Same(H H':Hp):Prop:=∀ b o,H b=some o->H' b=some o
theorem Same.refl(H:Hp):Same H H:=fun _ _ h=>h
theorem Same.trans{H H1 H2:Hp}(a:Same H H1)(b:Same H1 H2):Same H H2:=fun c o h=>b c o (a c o h)
theorem Same.free{H H':Hp}(e:Same H H'){l:Addr}(h:H' l=Option.none):H l=Option.none:=by
 cases q:H l with
 |none=>rfl
 |some o =>
  rw [e l o q]at h;cases h
theorem Same.seq{K:aq}{H H':Hp}{a:Addr}{xs:List V}(e:Same H H')(h:SqL K H a xs):SqL K H' a xs:=by
 rcases h with(h |⟨o,h⟩) |h
 ·exact .inl (.inl (e _ _ h))
 ·exact .inl (.inr ⟨o,e _ _ h⟩)
 ·exact .inr h
section
variable{κ:Type}[DecidableEq κ]
end
end L2
end
section
set_option maxHeartbeats 2000000
namespace L2
open PySem PySem.Spec PyProof.Rows
open PySem.W (WData Codec OpenSpec Well WellAll ReadsW ReadsAllW)
mutual
inductive Dw (K:aq)(H:Hp):V->WData->Prop
 |non:Dw K H .non .none
 |bl (b:Bool):Dw K H (.bl b) (.bool b)
 |int (i:Int):Dw K H (.int i) (.int i)
 |str (x:Str):Dw K H (.str x) (.str x)
 |byt (b:Array UInt8):Dw K H (.byt b) (.bytes b.toList)
 |lst {a:Addr}{xs:List V}{ds:List WData}:SqL K H a xs->eD K H xs ds->Dw K H (.ref a) (.list ds)
 |tup {a:Addr}{xs:List V}{ds:List WData}:SqT K H a xs->eD K H xs ds->Dw K H (.ref a) (.tuple ds)
inductive eD (K:aq)(H:Hp):List V->List WData->Prop
 |nil:eD K H [] []
 |cons {v:V}{vs:List V}{d:WData}{ds:List WData}:Dw K H v d->eD K H vs ds->eD K H (v::vs) (d::ds)
end
theorem ZbR{K:aq}{H:Hp}:∀ ns:List Int,eD K H (ns.map V.int) (ns.map WData.int)
 |[]=>.nil
 |n::r=>.cons (.int n) (ZbR r)
theorem ZbQ{K:aq}{H:Hp}:∀ (ns:List Int)(xs:List V),eD K H xs (ns.map WData.int)->xs=ns.map V.int
 |[],xs,h=>by
  cases h;rfl
 |n::r,xs,h=>by
  cases h with
  |cons h1 h2 =>
   cases h1;rw [ZbQ r _ h2]<;>rfl
section
variable{P:Program}{w:World}{K:aq}{H:Hp}{h:Heap}{R:PySem.W.WRecords}{cl:Str->Option Addr}
theorem yH{a:Addr}{xs:List V}(hok:HOk P w H h)(KX:K.In h)(q:SqL K H a xs):∃ (its:List Value)(o:Obj)(n:Nat),Vals xs its/\h.get? a=some o/\o.cls=.type "list"/\o.data=.seq its.toArray n:=by
 rcases q with q |⟨o,its,n,e,hc,_,hd,_,hv⟩
 ·obtain⟨_,its,n,hv,e⟩:=(show ObjOk P w H h a (.lst xs)from q.ok hok);exact⟨its,_,n,hv,e,rfl,rfl⟩
 ·exact⟨its.toList,o,n,hv,KX _ _ e,hc,by simp [hd]⟩
theorem yI{a:Addr}{xs:List V}(hok:HOk P w H h)(KX:K.In h)(q:SqT K H a xs):∃ (its:List Value)(o:Obj)(n:Nat),Vals xs its/\h.get? a=some o/\o.cls=.type "tuple"/\o.data=.seq its.toArray n:=by
 rcases q with q |⟨o,its,n,e,hc,hd,_,hv⟩
 ·obtain⟨_,its,hv,o,e,hc,n,hd⟩:=(show ObjOk P w H h a (.tup xs)from q.ok hok);exact⟨its,o,n,hv,e,hc,hd⟩
 ·exact⟨its.toList,o,n,hv,KX _ _ e,hc,by simp [hd]⟩
mutual
theorem Dw.reads(hok:HOk P w H h)(KX:K.In h):∀ (d:WData)(v:V)(u:Value),Dw K H v d->RelV v u->∃ as,ReadsW R cl h u d as
 |.none,_,_,x,r=>by
  cases x;cases r;exact⟨_,ReadsW.none⟩
 |.bool b,_,_,x,r=>by
  cases x;cases r;exact⟨_,ReadsW.bool b⟩
 |.int i,_,_,x,r=>by
  cases x;obtain⟨t,rfl⟩:=r;exact⟨_,ReadsW.int i t⟩
 |.str s,_,_,x,r=>by
  cases x;obtain⟨t,rfl⟩:=r;exact⟨_,ReadsW.str s t⟩
 |.bytes b,_,_,x,r=>by
  cases x;obtain⟨t,rfl⟩:=r;exact⟨_,ReadsW.bytes _ t⟩
 |.list ds,_,_,x,r=>by
  cases x with
  |lst hs ha =>
   cases r;obtain⟨its,o,n,rv,ho,hc,hd⟩:=yH hok KX hs;obtain⟨as,hr⟩:=Dw.readsAll hok KX ds _ its ha rv;exact⟨_,ReadsW.list ho hc hd hr⟩
 |.tuple ds,_,_,x,r=>by
  cases x with
  |tup hs ha =>
   cases r;obtain⟨its,o,n,rv,ho,hc,hd⟩:=yI hok KX hs;obtain⟨as,hr⟩:=Dw.readsAll hok KX ds _ its ha rv;exact⟨_,ReadsW.tuple ho hc hd hr⟩
 |.float _,_,_,x,_=>by cases x
 |.dict _,_,_,x,_=>by cases x
 |.bytearray _,_,_,x,_=>by cases x
 |.set _,_,_,x,_=>by cases x
 |.frozenset _,_,_,x,_=>by cases x
 |.obj _ _,_,_,x,_=>by cases x
theorem Dw.readsAll(hok:HOk P w H h)(KX:K.In h):∀ (ds:List WData)(vs:List V)(us:List Value),eD K H vs ds->Vals vs us->∃ as,ReadsAllW R cl h us ds as
 |[],_,_,x,r=>by
  cases x;cases r;exact⟨_,ReadsAllW.nil⟩
 |d::ds,_,_,x,r=>by
  cases x with
  |cons h1 h2 =>
   cases r with
   |cons r1 r2 =>
    obtain⟨as,q1⟩:=Dw.reads hok KX d _ _ h1 r1;obtain⟨bs,q2⟩:=Dw.readsAll hok KX ds _ _ h2 r2;exact⟨_,ReadsAllW.cons q1 q2⟩
end
end
mutual
def lp:WData->Bool
 |.none=>true
 |.bool _=>true
 |.int _=>true
 |.str _=>true
 |.bytes _=>true
 |.list xs=>gI xs
 |.tuple xs=>gI xs
 |_=>false
def gI:List WData->Bool
 |[]=>true
 |x::r=>lp x&&gI r
end
theorem Pl{α:Type}{f:α->WData}(h:∀ a,lp (f a)=true):∀ l:List α,gI (l.map f)=true
 |[]=>rfl
 |x::r=>by
  show(lp (f x)&&gI (r.map f))=true;rw [h x,Pl h r]<;>rfl
theorem uP:∀ (c:Codec)(a:c.denote),lp (c.enc a)=true
 |.unit,_=>rfl
 |.bool,_=>rfl
 |.int _ _,_=>rfl
 |.nat _ _,_=>rfl
 |.u8,_=>rfl
 |.bytes _ _,_=>rfl
 |.text _ _ _ _,_=>rfl
 |.list _ _ c,a=>Pl (fun x=>uP c x) a
 |.pair c d,a=>by
  show(lp (c.enc a.1)&&(lp (d.enc a.2)&&true))=true;rw [uP c a.1,uP d a.2]<;>rfl
 |.triple c d e,a=>by
  show(lp (c.enc a.1)&&(lp (d.enc a.2.1)&&(lp (e.enc a.2.2)&&true)))=true;rw [uP c a.1,uP d a.2.1,uP e a.2.2]<;>rfl
 |.option c,none=>rfl
 |.option c,some x=>uP c x
theorem OP:∀ (cs:List Codec)(a:Codec.denoteAll cs),gI (Codec.encAll cs a)=true
 |[],_=>rfl
 |c::cs,a=>by
  show(lp (c.enc a.1)&&gI (Codec.encAll cs a.2))=true;rw [uP c a.1,OP cs a.2]<;>rfl
theorem Ia:∀ {xs:List WData}{d:WData},d∈xs->d.weight<=WData.weightAll xs
 |[],d,h=>absurd h (by simp)
 |x::r,d,h=>by
  show d.weight<=x.weight+1+WData.weightAll r;rcases bw.mp h with e |m
  ·rw [e];omega
  ·have z:=Ia m;omega
noncomputable def jI:Value->V
 |.none=>.non
 |.bool b=>.bl b
 |.int i _=>.int i
 |.str x _=>.str x
 |.bytes b _=>.byt b
 |.ref a=>.ref a
 |_=>.non
def OkU(A:List Addr):Value->Prop
 |.none=>True
 |.bool _=>True
 |.int _ _=>True
 |.str _ _=>True
 |.bytes _ _=>True
 |.ref a=>a∈A
 |_=>False
theorem OkU.mono{A B:List Addr}(h:∀ a∈A,a∈B):∀ {u:Value},OkU A u->OkU B u:=fun{u} x=>by
 cases u with
 |ref a=>exact h a x
 |none=>trivial
 |bool b=>trivial
 |int i t=>trivial
 |str s t=>trivial
 |bytes b t=>trivial
 |_=>exact False.elim x
theorem pG{A:List Addr}{u:Value}(x:OkU A u):RelV (jI u) u:=by
 cases u with
 |ref a=>rfl
 |none=>rfl
 |bool b=>rfl
 |int i t=>exact⟨t,rfl⟩
 |str s t=>exact⟨t,rfl⟩
 |bytes b t=>exact⟨t,rfl⟩
 |_=>exact False.elim x
theorem zw{A:List Addr}:∀ {vs:List Value},(∀ u∈vs,OkU A u)->Vals (vs.map jI) vs
 |[],_=>.nil
 |u::r,h=>.cons (pG (h u (cZ ..))) (zw fun x hx=>h x (dk _ hx))
def ArgOb(h:Heap)(A:List Addr)(a:Addr):Prop:=∃ vs:List Value,vs.length<=sizeLine/\(∀ u∈vs,OkU A u) /\
 (h.get? a=some { cls:=.type "list",data:=.seq vs.toArray }\/h.get? a=some { cls:=.type "tuple",data:=.seq vs.toArray })
theorem ArgOb.mono{h:Heap}{A B:List Addr}{a:Addr}(k:∀ a∈A,a∈B)(x:ArgOb h A a):ArgOb h B a:=by
 obtain⟨vs,h1,h2,h3⟩:=x;exact⟨vs,h1,fun u hu=>(h2 u hu).mono k,h3⟩
theorem Fe{P:Params}{h:Heap}:∀ {vs:List Value}{ds:List WData},WellAll P h vs ds->vs.length=ds.length
 |_,_,.nil=>rfl
 |_,_,.cons _ b=>by
  show _+1=_+1;rw [Fe b]
theorem OU{P:Params}{h:Heap}{v:Value}{ds:List WData}(x:Well P h v (.list ds)):∃ (a:Addr)(vs:List Value),v=.ref a/\h.get? a=some { cls:=.type "list",data:=.seq vs.toArray }/\WellAll P h vs ds:=by
 cases x with
 |list ho dM=>exact⟨_,_,rfl,ho,dM⟩
theorem NX{P:Params}{h:Heap}{v:Value}{ds:List WData}(x:Well P h v (.tuple ds)):∃ (a:Addr)(vs:List Value),v=.ref a/\h.get? a=some { cls:=.type "tuple",data:=.seq vs.toArray }/\WellAll P h vs ds:=by
 cases x with
 |tuple ho dM=>exact⟨_,_,rfl,ho,dM⟩
theorem OS{P:Params}{h:Heap}{us:List Value}{d:WData}{ds:List WData}(x:WellAll P h us (d::ds)):∃ (v:Value)(vs:List Value),us=v::vs/\Well P h v d/\WellAll P h vs ds:=by
 cases x with
 |cons a b=>exact⟨_,_,rfl,a,b⟩
theorem P4{n:Nat}(h:n<=1048576):n<=sizeLine:=iE h (by decide)
section
variable{P:Params}{h:Heap}
mutual
theorem m9:∀ (d:WData)(v:Value),Well P h v d->lp d=true->d.weight<=1048576->∃ A:List Addr,OkU A v/\∀ a∈A,ArgOb h A a
 |.none,_,x,_,_=>by
  cases x;exact⟨[],trivial,fun a m=>absurd m (by simp)⟩
 |.bool b,_,x,_,_=>by
  cases x;exact⟨[],trivial,fun a m=>absurd m (by simp)⟩
 |.int i,_,x,_,_=>by
  cases x;exact⟨[],trivial,fun a m=>absurd m (by simp)⟩
 |.str s,_,x,_,_=>by
  cases x;exact⟨[],trivial,fun a m=>absurd m (by simp)⟩
 |.bytes b,_,x,_,_=>by
  cases x;exact⟨[],trivial,fun a m=>absurd m (by simp)⟩
 |.list ds,_,x,p,z=>by
  obtain⟨a,vs,rfl,ho,dM⟩:=OU x;have z2:WData.weightAll ds<=1048576:=z;obtain⟨A,h1,h2⟩:=Fm ds _ dM p fun d hd=>iE (Ia hd) z2;have k:∀ b∈A,b∈a::A:=fun b hb=>dk _ hb;refine⟨a::A,cZ ..,fun b hb=>?_⟩;rcases bw.mp hb with e |m
  ·rw [e];exact⟨vs,P4 (by rw [Fe dM];exact iE (PySem.W.length_le_weightAllW ds) z2),fun u hu=>(h1 u hu).mono k,.inl ho⟩
  ·exact(h2 b m).mono k
 |.tuple ds,_,x,p,z=>by
  obtain⟨a,vs,rfl,ho,dM⟩:=NX x;have z2:WData.weightAll ds<=1048576:=z;obtain⟨A,h1,h2⟩:=Fm ds _ dM p fun d hd=>iE (Ia hd) z2;have k:∀ b∈A,b∈a::A:=fun b hb=>dk _ hb;refine⟨a::A,cZ ..,fun b hb=>?_⟩;rcases bw.mp hb with e |m
  ·rw [e];exact⟨vs,P4 (by rw [Fe dM];exact iE (PySem.W.length_le_weightAllW ds) z2),fun u hu=>(h1 u hu).mono k,.inr ho⟩
  ·exact(h2 b m).mono k
 |.float _,_,_,p,_=>Bool.noConfusion (show false=true from p)
 |.dict _,_,_,p,_=>Bool.noConfusion (show false=true from p)
 |.bytearray _,_,_,p,_=>Bool.noConfusion (show false=true from p)
 |.set _,_,_,p,_=>Bool.noConfusion (show false=true from p)
 |.frozenset _,_,_,p,_=>Bool.noConfusion (show false=true from p)
 |.obj _ _,_,_,p,_=>Bool.noConfusion (show false=true from p)
theorem Fm:∀ (ds:List WData)(vs:List Value),WellAll P h vs ds->gI ds=true->(∀ d∈ds,d.weight<=1048576)->∃ A:List Addr,(∀ u∈vs,OkU A u)/\∀ a∈A,ArgOb h A a
 |[],_,x,_,_=>by
  cases x;exact⟨[],fun u m=>absurd m (by simp),fun a m=>absurd m (by simp)⟩
 |d::ds,_,x,p,z=>by
  obtain⟨v,vs,rfl,x1,x2⟩:=OS x;have q:lp d=true/\gI ds=true:=zc.mp p;obtain⟨A,a1,a2⟩:=m9 d v x1 q.1 (z d (cZ ..));obtain⟨B,b1,b2⟩:=Fm ds vs x2 q.2 fun e he=>z e (dk _ he);have kA:∀ b∈A,b∈A++B:=fun b hb=>dz.mpr (.inl hb);have kB:∀ b∈B,b∈A++B:=fun b hb=>dz.mpr (.inr hb);refine⟨A++B,fun u hu=>?_,fun b hb=>?_⟩
  ·rcases bw.mp hu with e |m
   ·rw [e];exact a1.mono kA
   ·exact(b1 u m).mono kB
  ·rcases dz.mp hb with m |m
   ·exact(a2 b m).mono kA
   ·exact(b2 b m).mono kB
end
end
noncomputable def sO(o:Obj):Option HO:=match o.data with
 |.seq vs _=>if (o.cls==Value.type "list")=true then some (.frz o (.lst (vs.toList.map jI)))else some (.frz o (.tup (vs.toList.map jI)))
 |_=>none
def dY(K:aq)(h:Heap)(A:List Addr):Hp:=fun b=>if b∈A then(if (K.lookup b).isNone=true then(h.get? b).bind sO else none)else none
def uC(H:Hp):Prop:=∀ b,H b=none\/∃ o u,H b=some (.frz o u)
theorem O8(vs:List Value):sO { cls:=.type "list",data:=.seq vs.toArray }=some (.frz { cls:=.type "list",data:=.seq vs.toArray } (.lst (vs.map jI))):=by
 show(if (Value.type "list"==Value.type "list")=true then some (HO.frz { cls:=.type "list",data:=.seq vs.toArray } (.lst (vs.toArray.toList.map jI)))else some (HO.frz { cls:=.type "list",data:=.seq vs.toArray } (.tup (vs.toArray.toList.map jI))))=_;rw [ae (beq_self_eq_true _)]
theorem Os(vs:List Value):sO { cls:=.type "tuple",data:=.seq vs.toArray }=some (.frz { cls:=.type "tuple",data:=.seq vs.toArray } (.tup (vs.map jI))):=by
 show(if (Value.type "tuple"==Value.type "list")=true then some (HO.frz { cls:=.type "tuple",data:=.seq vs.toArray } (.lst (vs.toArray.toList.map jI)))else some (HO.frz { cls:=.type "tuple",data:=.seq vs.toArray } (.tup (vs.toArray.toList.map jI))))=_;rw [ac (by decide)]
section
variable{P:Program}{w:World}{K:aq}{h:Heap}{A:List Addr}
theorem FB{b:Addr}{o:Obj}(hb:b∈A)(hk:K.lookup b=none)(e:h.get? b=some o):dY K h A b=sO o:=by
 unfold dY;rw [ae hb,hk,ae (show(none:Option Obj).isNone=true from rfl),e]<;>rfl
theorem tu{b:Addr}{u:HO}(q:dY K h A b=some u):b∈A/\K.lookup b=none:=by
 unfold dY at q;by_cases hb:b∈A
 ·rw [ae hb]at q;cases hk:K.lookup b with
  |none=>exact⟨hb,rfl⟩
  |some o =>
   rw [hk,ac (by simp)]at q
   cases q
 ·rw [ac hb]at q;cases q
theorem Fx(ar:∀ a∈A,ArgOb h A a){b:Addr}{u:HO}(q:dY K h A b=some u):K.lookup b=none/\∃ vs:List Value,vs.length<=sizeLine/\(∀ u∈vs,OkU A u) /\
  ((h.get? b=some { cls:=.type "list",data:=.seq vs.toArray }/\u=.frz { cls:=.type "list",data:=.seq vs.toArray } (.lst (vs.map jI))) \/
   (h.get? b=some { cls:=.type "tuple",data:=.seq vs.toArray }/\u=.frz { cls:=.type "tuple",data:=.seq vs.toArray } (.tup (vs.map jI)))):=by
 obtain⟨hb,hk⟩:=tu q;obtain⟨vs,h1,h2,h3⟩:=ar b hb;refine⟨hk,vs,h1,h2,?_⟩;rcases h3 with e |e
 ·rw [FB hb hk e,O8]at q;exact .inl ⟨e,(Option.some.inj q).symm⟩
 ·rw [FB hb hk e,Os]at q;exact .inr ⟨e,(Option.some.inj q).symm⟩
theorem ZbN(ar:∀ a∈A,ArgOb h A a):uC (dY K h A):=fun b=>by
 cases q:dY K h A b with
 |none=>exact .inl rfl
 |some u =>
  obtain⟨_,vs,_,_,⟨_,e⟩ |⟨_,e⟩⟩:=Fx ar q
  ·exact .inr ⟨_,_,by rw [e]⟩
  ·exact .inr ⟨_,_,by rw [e]⟩
theorem rL(ar:∀ a∈A,ArgOb h A a):HOk P w (dY K h A) h:=fun b u q=>by
 obtain⟨_,vs,h1,h2,⟨e,rfl⟩ |⟨e,rfl⟩⟩:=Fx ar q
 ·exact⟨e,by rw [aW];exact h1,vs,_,zw h2,e⟩
 ·exact⟨e,by rw [aW];exact h1,vs,zw h2,_,e,rfl,_,rfl⟩
theorem FA{c c':Value}{vs us:List Value}(e:(some { cls:=c,data:=.seq vs.toArray }:Option Obj)=some { cls:=c',data:=.seq us.toArray }):c=c'/\vs=us:=by
 have e1:=Option.some.inj e;have e2:c=c':=au Obj.cls e1;have e3:Data.seq vs.toArray=Data.seq us.toArray:=au Obj.data e1;injection e3 with e4
 refine⟨e2,?_⟩;have e5:=au Array.toList e4;simpa using e5
theorem Jz(KX:K.In h)(ar:∀ a∈A,ArgOb h A a){a:Addr}{vs:List Value}(ha:a∈A)(e:h.get? a=some { cls:=.type "list",data:=.seq vs.toArray }):(∀ u∈vs,OkU A u)/\SqL K (dY K h A) a (vs.map jI):=by
 obtain⟨us,h1,h2,h3⟩:=ar a ha;have hu:us=vs:=by
  rcases h3 with q |q
  ·rw [e]at q;exact(FA q).2.symm
  ·rw [e]at q;exact absurd (Value.type.inj (FA q).1) (by decide)
 subst hu;refine⟨h2,?_⟩;cases hk:K.lookup a with
 |none=>exact .inl (.inr ⟨_,by rw [FB ha hk e,O8]⟩)
 |some o =>
  have e2:=KX a o hk;rw [e]at e2;obtain rfl:=Option.some.inj e2;exact .inr ⟨_,us.toArray,_,hk,rfl,rfl,rfl,by rw [fZ];exact h1,by simpa using zw h2⟩
theorem JA(KX:K.In h)(ar:∀ a∈A,ArgOb h A a){a:Addr}{vs:List Value}(ha:a∈A)(e:h.get? a=some { cls:=.type "tuple",data:=.seq vs.toArray }):(∀ u∈vs,OkU A u)/\SqT K (dY K h A) a (vs.map jI):=by
 obtain⟨us,h1,h2,h3⟩:=ar a ha;have hu:us=vs:=by
  rcases h3 with q |q
  ·rw [e]at q;exact absurd (Value.type.inj (FA q).1) (by decide)
  ·rw [e]at q;exact(FA q).2.symm
 subst hu;refine⟨h2,?_⟩;cases hk:K.lookup a with
 |none=>exact .inl (.inr ⟨_,by rw [FB ha hk e,Os]⟩)
 |some o =>
  have e2:=KX a o hk;rw [e]at e2;obtain rfl:=Option.some.inj e2;exact .inr ⟨_,us.toArray,_,hk,rfl,rfl,by rw [fZ];exact h1,by simpa using zw h2⟩
mutual
theorem wG{Pm:Params}(KX:K.In h)(ar:∀ a∈A,ArgOb h A a):∀ (d:WData)(v:Value),Well Pm h v d->lp d=true->OkU A v->Dw K (dY K h A) (jI v) d
 |.none,_,x,_,_=>by
  cases x;exact .non
 |.bool b,_,x,_,_=>by
  cases x;exact .bl b
 |.int i,_,x,_,_=>by
  cases x;exact .int i
 |.str s,_,x,_,_=>by
  cases x;exact .str s
 |.bytes b,_,x,_,_=>by
  cases x;have z:=Dw.byt (K:=K) (H:=dY K h A) b.toArray;exact z
 |.list ds,_,x,p,hu=>by
  obtain⟨a,vs,rfl,ho,dM⟩:=OU x;obtain⟨h2,hs⟩:=Jz KX ar hu ho;exact .lst hs (FG KX ar ds _ dM p h2)
 |.tuple ds,_,x,p,hu=>by
  obtain⟨a,vs,rfl,ho,dM⟩:=NX x;obtain⟨h2,hs⟩:=JA KX ar hu ho;exact .tup hs (FG KX ar ds _ dM p h2)
 |.float _,_,_,p,_=>Bool.noConfusion (show false=true from p)
 |.dict _,_,_,p,_=>Bool.noConfusion (show false=true from p)
 |.bytearray _,_,_,p,_=>Bool.noConfusion (show false=true from p)
 |.set _,_,_,p,_=>Bool.noConfusion (show false=true from p)
 |.frozenset _,_,_,p,_=>Bool.noConfusion (show false=true from p)
 |.obj _ _,_,_,p,_=>Bool.noConfusion (show false=true from p)
theorem FG{Pm:Params}(KX:K.In h)(ar:∀ a∈A,ArgOb h A a):∀ (ds:List WData)(vs:List Value),WellAll Pm h vs ds->gI ds=true->(∀ u∈vs,OkU A u)->eD K (dY K h A) (vs.map jI) ds
 |[],_,x,_,_=>by
  cases x;exact .nil
 |d::ds,_,x,p,hu=>by
  obtain⟨v,vs,rfl,x1,x2⟩:=OS x;have q:lp d=true/\gI ds=true:=zc.mp p;exact .cons (wG KX ar d v x1 q.1 (hu _ (cZ ..))) (FG KX ar ds vs x2 q.2 fun u m=>hu u (dk _ m))
end
end
theorem Z7T{ds:List WData}(h:WData.layableAll ds=true):∀ d∈ds,d.weight<=1048576:=fun d hd =>
 (PySem.W.layableW_iff.mp (uK.mp h d hd)).2.2
theorem Of:∀ (cs:List Codec)(a:Codec.denoteAll cs),(Codec.encAll cs a).length=cs.length
 |[],_=>rfl
 |c::cs,a=>by
  show(Codec.encAll cs a.2).length+1=cs.length+1;rw [Of cs a.2]
end L2
end
section
namespace EX
open PySem PySem.Spec PyProof.Rows L2
abbrev iA(C:Addr)(dx:Option Addr)(vs:Array Value)(sl:Array (Option Value)):Obj:={ cls:=.ref C,dict:=dx,data:=.fields vs,slots:=sl }
structure Kp(fs ch:List Addr)(h h':Heap):Prop where
 keep:∀ b o,h.get? b=some o->b∉ch->b∉fs->h'.get? b=some o
 slot:∀ b o,h.get? b=some o->b∉ch->∃ sl,h'.get? b=some { o with slots:=sl }
theorem Kp.trans{fs ch Qj:List Addr}{h h1 h2:Heap}(x:Kp fs ch h h1)(y:Kp fs Qj h1 h2):Kp fs (ch++Qj) h h2:=by
 refine⟨fun b o e n1 n2=>?_,fun b o e n1=>?_⟩
 ·rw [dz,b9]at n1;exact y.keep b o (x.keep b o e n1.1 n2) n1.2 n2
 ·rw [dz,b9]at n1;obtain⟨sl,e1⟩:=x.slot b o e n1.1;obtain⟨tZ,e2⟩:=y.slot b _ e1 n1.2;exact⟨tZ,e2⟩
structure Fly(z:Bool)(h:Heap)(e T C:Addr)(dx:Option Addr)(fl:Value):Prop where
 obj:∃ vs sl,h.get? e=some (iA C dx vs sl)/\vs[1]?=some (.ref T)
 tb:∃ oT ts,h.get? T=some oT/\oT.data=.fields ts/\ts[3]?=some fl
 ne:T≠e
 cx:z=true->∀ o vs,h.get? e=some o->o.data=.fields vs->vs[2]?=some .none
def Gs(z:Bool)(h:Heap)(e C:Addr)(dx:Option Addr):Prop:=∃ vs sl,h.get? e=some (iA C dx vs sl)/\vs[1]?=some .none/\(z=true->vs[2]?=some .none)
section
variable{M:Model}{A:Around}{E:Value->Shared->Prop}{s:Shared}{z:Bool}
theorem IM{base:Heap}{env:Env}{outer:List Env}{L e C:Addr}{dx:Option Addr}{vs:Array Value}{sl:Array (Option Value)}{sI:Value}{ml:Bool}{Q:Unit->Shared->Prop}
  (cM:A.frames=some (env::outer))(hl:s.heap.FunFrames base (env::outer))(hf:env.frame=some L)(he:s.heap.get? e=some (iA C dx vs sl))(hsz:1<vs.size)(Kf:z=true->vs[2]?=some .none)
  (h:∀ h' T,Fly z h' e T C dx (rawInt L)->s.heap.get? T=none->Kp (cc (env::outer)) [e] s.heap h'->Q () { s with heap:=h' }):
  wpAny M A (do let a <-frameOf env;let pl <-entryPlaceOf L ml;let b <-EntryCells.newEntry sI a .none (rawInt L) .none pl;setField (.ref e) 1 b) Q E s:=by
 have bV:e∉cc (env::outer):=fun hm=>by
  obtain⟨_,o,ho,KH⟩:=hl.mem hm;rw [he]at ho;cases ho;exact KH vs rfl
 refine aa (wpAny_frameOf_fun cM hl hf fun h1 hs=>aa (wpAny_entryPlaceOf fun pl hp=>?_));unfold EntryCells.newEntry newFields;refine aa (aA ?_ (hp.sizeOk5 ..));have e1:h1.get? e=some (iA C dx vs sl):=(hs.2.1 e bV).trans he;have nT:s.heap.get? h1.objs.size=none:=AN (by rw [hs.1];exact bO _)
 have neT:h1.objs.size≠e:=ko (cz e1);refine bK (dE _ e1) rfl hsz (h _ h1.objs.size ⟨⟨vs.setIfInBounds 1 (.ref h1.objs.size),sl,?_,by simp [hsz]⟩,⟨_,_,(j0 _ _ neT.symm).trans (fj h1 rfl),rfl,?_⟩,neT,?_⟩ nT ⟨?_,?_⟩)
 ·exact lY (Obj.mapFields (·.setIfInBounds 1 (Value.ref h1.objs.size))) (dE _ e1) rfl
 ·first |(simp;done) |(rcases hp with rfl |⟨_,_,_,_,_,_,_,rfl⟩<;>simp)
 ·intro hz o EH q1 q2;have q4:=Option.some.inj (q1.symm.trans (lY (Obj.mapFields (·.setIfInBounds 1 (Value.ref h1.objs.size))) (dE _ e1) rfl));subst q4;have q5:EH=vs.setIfInBounds 1 (Value.ref h1.objs.size):=by
   have q6:(Data.fields (vs.setIfInBounds 1 (Value.ref h1.objs.size)))=.fields EH:=q2;cases q6;rfl
  subst q5;rw [Array.getElem?_setIfInBounds_ne (by decide)]
  exact Kf hz
 ·intro b o q n1 n2;rw [j0 _ _ (fun z=>n1 (by rw [<-z];exact du.mpr rfl))]
  exact dE _ ((hs.2.1 b n2).trans q)
 ·intro b o q n1;obtain⟨tZ,q'⟩:=hs.2.2 b o q;exact⟨tZ,(j0 _ _ (fun z=>n1 (by rw [<-z];exact du.mpr rfl))).trans (dE _ q')⟩
theorem Oc{base:Heap}{env:Env}{outer:List Env}{L e C:Addr}{dx:Option Addr}{Q:Unit->Shared->Prop}
  (cM:A.frames=some (env::outer))(hl:s.heap.FunFrames base (env::outer))(hf:env.frame=some L)(he:Gs z s.heap e C dx)
  (h:∀ h' T,Fly z h' e T C dx (rawInt L)->s.heap.get? T=none->Kp (cc (env::outer)) [e] s.heap h'->Q () { s with heap:=h' }):wpAny M A (noteFrame (.ref e) env) Q E s:=by
 obtain⟨vs,sl,e1,e2,e2x⟩:=he;unfold noteFrame;rw [hf];refine aa (aN e1 rfl e2 ?_);rw [ac (by decide)]
 exact IM cM hl hf e1 (qw.mp e2).1 e2x h
theorem IL{base:Heap}{env:Env}{outer:List Env}{L e T C:Addr}{dx:Option Addr}{Q:Unit->Shared->Prop}
  (cM:A.frames=some (env::outer))(hl:s.heap.FunFrames base (env::outer))(hf:env.frame=some L)(he:Fly z s.heap e T C dx .none)
  (h:∀ h' T',Fly z h' e T' C dx (rawInt L)->s.heap.get? T'=none->Kp (cc (env::outer)) [T,e] s.heap h'->Q () { s with heap:=h' }):wpAny M A (noteFrame (.ref e) env) Q E s:=by
 obtain⟨⟨vs,sl,e1,e2⟩,⟨oT,ts,t1,t2,t3⟩,ne,cx⟩:=he;unfold noteFrame;rw [hf];refine aa (aN e1 rfl e2 ?_);rw [ae (show(Value.ref T != Value.none)=true by simp)]
 refine aa (aN t1 t2 t3 ?_);rw [ac (show ¬ ((Value.none==rawInt L)=true) by simp [rawInt])]
 refine aa (bK t1 t2 (qw.mp t3).1 ?_);have fh:∀ b,b≠T->(s.heap.update T (Obj.mapFields (·.setIfInBounds 3 Value.none))).get? b=s.heap.get? b:=fun b hb=>j0 _ _ (Ne.symm hb);have nr:∀ b o,s.heap.get? b=some o->(∀ vs,o.data≠.fields vs)->b≠T:=fun b o hb hn q=>by
  rw [q,t1]at hb;cases hb;exact hn ts t2
 refine IM cM (hl.of_keeps fun b o hb hn=>⟨o,(fh b (nr b o hb hn)).trans hb,rfl⟩) hf ((fh e ne.symm).trans e1) (qw.mp e2).1 (fun hz=>cx hz _ _ e1 rfl) fun h' T' f n k=>h h' T' f ?_ ?_
 ·cases q:s.heap.get? T' with
  |none=>rfl
  |some o =>
   by_cases z:T'=T
   ·have z1:=lY (Obj.mapFields (·.setIfInBounds 3 Value.none)) t1 (Obj.isFreed_of_fields (Obj.data_mapFields t2 _));rw [z]at n;rw [show _=_ from z1]at n;cases n
   ·rw [fh T' z,q]at n;cases n
 ·have k0:Kp (cc (env::outer)) [T] s.heap (s.heap.update T (Obj.mapFields (·.setIfInBounds 3 Value.none))):=
   ⟨fun b o q n1 _=>(fh b fun z=>n1 (by rw [z];exact du.mpr rfl)).trans q,fun b o q n1=>⟨o.slots,(fh b fun z=>n1 (by rw [z];exact du.mpr rfl)).trans q⟩⟩
  exact k0.trans k
theorem hX{fs:List Addr}{e T C:Addr}{dx:Option Addr}{fl:Value}{Q:Unit->Shared->Prop}(he:Fly z s.heap e T C dx fl)
  (h:∀ h',Fly z h' e T C dx .none->Kp fs [T] s.heap h'->Q () { s with heap:=h' }):wpAny M A (setFlight (.ref e) none) Q E s:=by
 obtain⟨⟨vs,sl,e1,e2⟩,⟨oT,ts,t1,t2,t3⟩,ne,cx⟩:=he;have sz:=(qw.mp t3).1;have fh:∀ b,b≠T->(s.heap.update T (Obj.mapFields (·.setIfInBounds 3 Value.none))).get? b=s.heap.get? b:=fun b hb=>j0 _ _ (Ne.symm hb);refine wpAny_setFlight_none e1 rfl e2 t1 t2 sz (h _ ⟨⟨vs,sl,(fh e ne.symm).trans e1,e2⟩,⟨_,_,lY _ t1 (Obj.isFreed_of_fields (Obj.data_mapFields t2 _)),Obj.data_mapFields t2 _,by simp [sz]⟩,ne,fun hz o vs q=>cx hz o vs ((fh e ne.symm).symm.trans q)⟩ ⟨?_,?_⟩)
 ·exact fun b o q n1 _=>(fh b fun z=>n1 (by rw [z];exact du.mpr rfl)).trans q
 ·exact fun b o q n1=>⟨o.slots,(fh b fun z=>n1 (by rw [z];exact du.mpr rfl)).trans q⟩
end
end EX
end
section
namespace EX
open PySem PySem.Spec PyProof.Rows L2
open Builtin Builtin.ObjectAttr
section
variable{prog:Program}{w:World}{A:Around}{E:Value->Shared->Prop}{h:Heap}{g:Array GenState}{d:Drawn}{t:Nat}{os:OsState}
variable{nm q:Str}{C N x:Addr}{bs bm:List Value}{sn:List Str}{sub:List Value}{ab:Bool}{col:Option Bool}{dd:Option Addr}{k0 k1 k2 k3 k5:Option Value}{B c9 sa owner:String}
 {mN mA:Str->Option Value}{name:Str}{v:Value}{o:Obj}
theorem Z8Q{tk:Tok}{Q:Fin->Shared->Prop}(SF:StoreFacts B bm sa owner)
  (hC:h.get? C=some (excClassObj nm q C N bs bm true sn sub ab col dd k0 k1 k2 k3 k5 c9))(hn:h.Ns N mN)(Cf:mN name=none)
  (hB:typeLookup (.type B) name=pure none)(hx:h.get? x=some o)(hc:o.cls=.ref C)(wU:o.dict=none)(Cg:∀ c,o.data≠.cls c)
  (hq:∀ h' ul,h'.get? x=some { o with dict:=some h.objs.size }->h'.Ns1 h.objs.size (fun y=>if y=name then some v else none)->(∀ b o',b≠x->h.get? b=some o'->h'.get? b=some o')->Q (.done (.ret .none)) ⟨h',g,d,ul,os⟩):
  wpAny (model prog w) A (Builtin.«object.__setattr__» ⟨[.ref x,.str name tk,v],[]⟩) Q E ⟨h,g,d,t,os⟩:=by
 have on:=SF.passes (.ref x);unfold Builtin.«object.__setattr__»
 repeat (first |rw [refuse_eq] |(rw [refuseLoop_ref,on]) |(with_reducible refine a9 hx ?_;rw [hc]) |with_reducible refine wpAny_mroOf_exc hC ?_ |(with_reducible refine wpAny_typeLookup_exc hC hn SF.mro hB ?_;rw [Cf]) |wp_step)
 rw [wU,ac (by simp [typeHasDict])]
 split
 ·rename_i z;cases z
 split
 ·rename_i c z;exact absurd z (Cg c)
 have x1:(h.push { cls:=.type "dict",data:=.dict #[] }).get? x=some o:=dE _ hx;have xs:x≠h.objs.size:=eG (cz hx);refine aa (wpAny_alloc' (aa (wpAny_update' x1 (af ?_))));have gd:((h.push { cls:=.type "dict",data:=.dict #[] }).update x fun o=>{ cls:=o.cls,dict:=some h.objs.size,data:=o.data,slots:=o.slots }).get? h.objs.size
   = some { cls:=.type "dict",data:=.dict #[] }:=(j0 _ _ xs).trans (Heap.get?_push_at rfl rfl)
 have n0:((h.push { cls:=.type "dict",data:=.dict #[] }).update x fun o=>{ cls:=o.cls,dict:=some h.objs.size,data:=o.data,slots:=o.slots }).Ns h.objs.size (fun _=>none):=
  ⟨_,#[],_,gd,rfl,fun e he=>absurd he (by simp),fun _=>rfl⟩
 show wpAny _ _ (storeInDict h.objs.size (.str name tk) name v) _ _ _;unfold storeInDict newKeyGuard;refine aa (af (aa (wpAny_nsSet1 (Heap.Ns1.of_empty n0) fun h' n1 hs=>?_)));obtain⟨oD,esD,epD,a1,a2,a3⟩:=n1.count (Within.cons name v Within.nil);refine aa (wpAny_lookBehind a1 (by rw [a2];exact pastItsLine_dict (iE a3 (by rw [gC,lB,ak];omega))) ?_)
 wp_walk
 refine hq h' _ ?_ ?_ fun b ob hbx hb=>?_
 ·refine(hs.2 x xs).trans (lY _ x1 ?_);have cM:=(Heap.get?_some_iff.mp hx).2;obtain⟨oc,od,odt,jc⟩:=o;cases odt<;>first |rfl |exact cM
 ·obtain⟨o',es,ep,e1,e2,e3,eu,e4⟩:=n1;exact⟨o',es,ep,e1,e2,e3,eu,fun y=>by rw [e4 y]⟩
 ·exact(hs.2 b (eG (cz hb))).trans ((j0 _ _ (Ne.symm hbx)).trans (dE _ hb))
theorem ZbB{Q:Unit->Shared->Prop}(SF:StoreFacts B bm sa owner)
  (hC:h.get? C=some (excClassObj nm q C N bs bm true sn sub ab col dd k0 k1 k2 k3 k5 c9))(hn:h.Ns N mN)(sN:mN "__setattr__" = none)(Cf:mN name=none)
  (hB:typeLookup (.type B) name=pure none)(hx:h.get? x=some o)(hc:o.cls=.ref C)(wU:o.dict=none)(Cg:∀ c,o.data≠.cls c)
  (hq:∀ h' ul,h'.get? x=some { o with dict:=some h.objs.size }->h'.Ns1 h.objs.size (fun y=>if y=name then some v else none)->(∀ b o',b≠x->h.get? b=some o'->h'.get? b=some o')->Q () ⟨h',g,d,ul,os⟩):
  wpAny (model prog w) A (setAttr (.ref x) name v) Q E ⟨h,g,d,t,os⟩:=by
 have f3:=SF.slot.bind (.ref x);unfold setAttr callSpecial? specialOf
 repeat (any_goals (first |assumption |(with_reducible refine a9 hx ?_;rw [hc]) |(with_reducible refine wpAny_typeLookup_exc hC hn SF.mro SF.slot.lookup ?_;rw [sN]) |wp_step))
 refine codeAny_call_builtin SF.slot.plain SF.entry (wpAny_check_sa SF hC hx hc (Z8Q SF hC hn Cf hB hx hc wU Cg fun h' ul b1 b2 b3=>?_))
 repeat (any_goals (first |assumption |wp_step))
 exact hq h' ul b1 b2 b3
theorem Pf{dx:Addr}{ns:List Str}{Q:Unit->Shared->Prop}(SF:StoreFacts B bm sa owner)
  (hC:h.get? C=some (excClassObj nm q C N bs bm true sn sub ab col dd k0 k1 k2 k3 k5 c9))(hn:h.Ns N mN)(sN:mN "__setattr__" = none)(Cf:mN name=none)
  (hB:typeLookup (.type B) name=pure none)(hxC:x≠C)(hx:h.get? x=some o)(hc:o.cls=.ref C)(sH:o.dict=some dx)(Cg:∀ c,o.data≠.cls c)(bV:dx≠x)(KI:h.Ns1 dx mA)(hw:Within mA ns)(hsz:ns.length<=sizeLine)
  (hq:∀ h' ul,h'.get? x=some o->h'.Ns1 dx (fun y=>if y=name then some v else mA y)->(∀ b o',b≠x->b≠dx->h.get? b=some o'->h'.get? b=some o')->Q () ⟨h',g,d,ul,os⟩):
  wpAny (model prog w) A (setAttr (.ref x) name v) Q E ⟨h,g,d,t,os⟩:=by
 refine store_attr SF hC hn sN Cf hB hxC ⟨o,hx,hc,Cg,.inr ⟨dx,sH,bV,KI⟩⟩ (fun h' ul b1 b2 b3=>?_) hw hsz;obtain⟨o1,c1,c2,c3,c4,c5⟩:=b3 o hx;have eo:o1=o:=by
  obtain⟨p1,p2,p3,p4⟩:=o;obtain⟨q1,q2,q3,q4⟩:=o1;have z:=c5 dx sH;dsimp only at c2 c3 c4 z sH;rw [c2,c3,c4,z,sH]
 rw [eo]at c1;refine hq h' ul c1 ?_ fun b o' n1 n2 e=>b2 b o' n1 (fun o0 eO e0 e1=>?_) e
 ·obtain⟨o2,d1,_,_,d2⟩:=b1;rw [c1]at d1;cases d1;rcases d2 with⟨z,_⟩ |⟨d',z,_,n1⟩
  ·rw [sH]at z;cases z
  ·rw [sH]at z;cases z;exact n1
 ·rw [hx]at e0;cases e0;rw [sH]at e1;cases e1;exact n2
end
end EX
end
section
namespace EX
open PySem PySem.Spec PyProof.Rows L2
abbrev iG:List Value:=[.type "Exception",.type "BaseException",.type "object"]
theorem tq{K:aq}{h:Heap}{N:Addr}{m:Str->Option Value}{n:Str}{v:Value}(X:K.In h)(G:h.Ns N m)(e:PySem.W.nsIn K N n=some (some v)):m n=some v:=by
 obtain⟨o,es,ep,ho,hd,_,hf⟩:=G;unfold PySem.W.nsIn at e;split at e
 ·rename_i c d FR n' sl q;have z:=X _ _ q;rw [ho]at z;cases z;cases hd;split at e
  ·rename_i en he;cases e;rw [<-hf];unfold nsFind findBy;rw [<-Array.find?_toList,he];rfl
  ·rename_i he;split at e<;>cases e
 ·cases e
structure XC(K:aq)(C fI:Addr)(fs:List Str):Prop where
 ex:∃ (nm q:Str)(N:Addr)(bs:List Value)(sn:List Str)(sub:List Value)(ab:Bool)(col:Option Bool)(dd:Option Addr)(k0 k1 k2 k3 k5:Option Value),
  K.lookup C=some (excClassObj nm q C N bs iG true sn sub ab col dd k0 k1 k2 k3 k5 "Exception.__new__")/\PySem.W.nsOkIn K N=true/\PySem.W.nsIn K N "__init__" = some (some (.ref fI)) /\
  PySem.W.nsIn K N "__setattr__" = some none/\PySem.W.nsIn K N "__getattribute__" = some none/\PySem.W.nsIn K N "__getattr__" = some none/\∀ f∈fs,PySem.W.nsIn K N f=some none
 base:∀ f∈fs,typeLookup (.type "Exception") f=pure none
 fn:PySem.W.isFn K (.ref fI)=true
 kp:PySem.W.keepIn K (.ref C)=true
theorem XC.at{K:aq}{C fI:Addr}{fs:List Str}(c:XC K C fI fs){h:Heap}(X:K.In h):∃ (nm q:Str)(N:Addr)(bs:List Value)(sn:List Str)(sub:List Value)(ab:Bool)(col:Option Bool)(dd:Option Addr)(k0 k1 k2 k3 k5:Option Value)(m:Str->Option Value),
  h.get? C=some (excClassObj nm q C N bs iG true sn sub ab col dd k0 k1 k2 k3 k5 "Exception.__new__")/\h.Ns N m/\m "__init__" = some (.ref fI) /\
  m "__setattr__" = none/\m "__getattribute__" = none/\m "__getattr__" = none/\∀ f∈fs,m f=none:=by
 obtain⟨nm,q,N,bs,sn,sub,ab,col,dd,k0,k1,k2,k3,k5,a1,a2,a3,a4,a5,a6,a7⟩:=c.ex;have G:h.Ns N (h.nsMap N):=.of_isNs (PySem.W.isNs_of_in X a2);exact⟨nm,q,N,bs,sn,sub,ab,col,dd,k0,k1,k2,k3,k5,h.nsMap N,X _ _ a1,G,tq X G a3,lZ X G a4,lZ X G a5,lZ X G a6,fun f hf=>lZ X G (a7 f hf)⟩
structure XP(K:aq)(C:Addr):Prop where
 ex:∃ (nm q:Str)(N:Addr)(bs:List Value)(sn:List Str)(sub:List Value)(ab:Bool)(col:Option Bool)(dd:Option Addr)(k0 k1 k2 k3 k5:Option Value),
  K.lookup C=some (excClassObj nm q C N bs iG true sn sub ab col dd k0 k1 k2 k3 k5 "Exception.__new__")/\PySem.W.nsOkIn K N=true/\PySem.W.nsIn K N "__init__" = some none
 kp:PySem.W.keepIn K (.ref C)=true
def qX(K:aq)(C:Addr):Prop:=∃ (nm q:Str)(N:Addr)(bs:List Value)(sn:List Str)(sub:List Value)(ab:Bool)(col:Option Bool)(dd:Option Addr)(k0 k1 k2 k3 k5:Option Value),
  K.lookup C=some (excClassObj nm q C N bs iG true sn sub ab col dd k0 k1 k2 k3 k5 "Exception.__new__")
theorem XC.k1{K:aq}{C fI:Addr}{fs:List Str}(c:XC K C fI fs):qX K C:=by
 obtain⟨nm,q,N,bs,sn,sub,ab,col,dd,k0,k1,k2,k3,k5,a1,_⟩:=c.ex;exact⟨nm,q,N,bs,sn,sub,ab,col,dd,k0,k1,k2,k3,k5,a1⟩
theorem XP.k1{K:aq}{C:Addr}(c:XP K C):qX K C:=by
 obtain⟨nm,q,N,bs,sn,sub,ab,col,dd,k0,k1,k2,k3,k5,a1,_⟩:=c.ex;exact⟨nm,q,N,bs,sn,sub,ab,col,dd,k0,k1,k2,k3,k5,a1⟩
def Iw(f1 f2 f3:Str)(b:List Stmt):Prop:=∃ p1 p2 p3 p4 p5 p6 p7 p8 p9 Ro Rp Rq:Pos,
 b=[.Assign [.Attribute (.Name "self" p1) f1 p2] (.Name f1 p3) p4,.Assign [.Attribute (.Name "self" p5) f2 p6] (.Name f2 p7) p8,.Assign [.Attribute (.Name "self" p9) f3 Ro] (.Name f3 Rp) Rq]
def flt(f1 f2 f3:Str)(v1 v2 v3:Value):Str->Option Value:=fun y=>if y=f3 then some v3 else if y=f2 then some v2 else if y=f1 then some v1 else none
section
variable{prog:Program}{w:World}{A:Around}{E:Value->Shared->Prop}{s:Shared}{K:aq}{C fI:Addr}{f1 f2 f3:Str}
theorem ot{e:Addr}{v1 v2 v3:Value}{us:List Value}{vs:Array Value}{qn:Str}{st:Stmt}{dV:Value}{fd:FuncData}{Q:Value->Shared->Prop}(KX:K.In s.heap)(xN:s.heap.NoLimit)(c:XC K C fI [f1,f2,f3])
  (F:∃ (oc:Value)(od:Option Addr)(kV gW pm:Value)(an:Option Addr)(bq ct:Value)(jc:Array (Option Value)),
    fd=PySem.W.fnOf "__init__" qn (lH st) (eQ st) (bo st) dV kV gW pm an bq ct/\K.lookup fI=some ⟨oc,od,.func fd,jc⟩/\PySem.W.codeIn K bq qn=true)
  (S:cX ["self",f1,f2,f3] ["self",f1,f2,f3] (bo st))(bd:BindsTo s fd ⟨.ref e::us,[]⟩ ((["self",f1,f2,f3]:List Str).zip [.ref e,v1,v2,v3]))(body:Iw f1 f2 f3 (eQ st))
  (sw:∀ (env:Env)(p1 p2 p3 p4:Pos)(f:Str),swapsWith (.Name f p3) (some (.Attribute (.Name "self" p1) f p2)) p4.line env=pure false)
  (loc:∀ x∈(["self",f1,f2,f3]:List Str),(bo st).names.lookup x=some .local)(nd1:(f1==("__debug__":Str))=false)(nd2:(f2==("__debug__":Str))=false)(nd3:(f3==("__debug__":Str))=false)
  (gO:A.depth<recursionLimit)(Kj:K.lookup e=none)
  (hx:s.heap.get? e=some { cls:=.ref C,dict:=none,data:=.fields vs,slots:=#[] })
  (hq:∀ h' dx tk,h'.get? e=some (iA C (some dx) vs #[])->h'.Ns1 dx (flt f1 f2 f3 v1 v2 v3)->s.heap.get? dx=none->dx≠e->(∀ b o,b≠e->s.heap.get? b=some o->h'.get? b=some o)->Q .none { s with heap:=h',toks:=tk }):
  wpAny (model prog w) A (call (.ref fI) (.ref e::us)) Q E s:=by
 obtain⟨oc,od,kV,gW,pm,an,bq,ct,jc,rfl,lk,ji⟩:=F;obtain⟨p1,p2,p3,p4,p5,p6,p7,p8,p9,Ro,Rp,Rq,Kb⟩:=body;have ol:∀ y∈(["self",f1,f2,f3]:List Str).zip [Value.ref e,v1,v2,v3],(bo st).names.lookup y.1=some .local\/((bo st).names.lookup y.1=some .cell/\((cellsFrom (s.heap.objs.size+1) (bo st).names []).lookup y.1).isSome=true):=
  fun⟨n,v⟩ hy=>.inl (loc n (E3 hy).1)
 refine jJ (codeAny_call_function gO (KX _ _ lk) rfl S.co S.gen rfl (PySem.W.codeRec_of KX ji) (bd _ _ _ _ ?_));refine wpAny_newFunctionEnv_cells S.kind ol fun env he s1 x=>?_;refine⟨xN.keeps x.toInCall.keep,codeAny_func ?_⟩;have ek:env.scope.kind=.function:=by rw [he];exact S.kind
 have eL:env.locals=s.heap.objs.size:=by rw [he];rfl
 have kl:∀ n∈(["self",f1,f2,f3]:List Str),env.kindOf n=some .local:=fun n hn=>by rw [he];exact loc n hn
 have N1:=x.toInCall.ns;have g0:∀ {i:Nat}{n:Str}{v:Value},(["self",f1,f2,f3]:List Str)[i]?=some n->([Value.ref e,v1,v2,v3]:List Value)[i]?=some v ->
   bindL env.kindOf ((["self",f1,f2,f3]:List Str).zip [Value.ref e,v1,v2,v3]) (fun _=>none) n=some v:=
  fun{i n v} a b=>Iq S.nd a b (kl n (gL a))
 have gs:=g0 (i:=0) (n:="self") rfl rfl;have g1:=g0 (i:=1) (n:=f1) rfl rfl;have g2:=g0 (i:=2) (n:=f2) rfl rfl;have g3:=g0 (i:=3) (n:=f3) rfl rfl;have m0:=kl "self" (by simp)
 have m1:=kl f1 (by simp)
 have m2:=kl f2 (by simp)
 have m3:=kl f3 (by simp)
 obtain⟨hh,tk,rfl,kp⟩:=x.done;have Qq:=kp _ _ hx;have Gx:K.In hh:=KX.keeps kp;have Ad:env.locals≠e:=by rw [eL];exact ko (cz hx)
 show wpAny _ _ (execs (eQ st) _) _ _ _;rw [Kb];have tw:∀ (h:Heap),K.In h->∃ (nm q:Str)(N:Addr)(bs:List Value)(sn:List Str)(sub:List Value)(ab:Bool)(col:Option Bool)(dd:Option Addr)(k0 k1 k2 k3 k5:Option Value)(m:Str->Option Value),
  h.get? C=some (excClassObj nm q C N bs iG true sn sub ab col dd k0 k1 k2 k3 k5 "Exception.__new__")/\h.Ns N m/\m "__setattr__" = none/\m f1=none/\m f2=none/\m f3=none:=fun h X=>by
  obtain⟨nm,q,N,bs,sn,sub,ab,col,dd,k0,k1,k2,k3,k5,m,c1,c2,c3,c4,c5,c6,c7⟩:=c.at X;exact⟨nm,q,N,bs,sn,sub,ab,col,dd,k0,k1,k2,k3,k5,m,c1,c2,c4,c7 f1 (by simp),c7 f2 (by simp),c7 f3 (by simp)⟩
 have KC:∃ oC,K.lookup C=some oC:=by obtain⟨_,_,_,_,_,_,_,_,_,_,_,_,_,_,a,_⟩:=c.ex;exact⟨_,a⟩
 have QL:e≠C:=by
  rintro rfl;obtain⟨oC,z⟩:=KC;rw [Kj]at z;cases z
 obtain⟨nm,q,N,bs,sn,sub,ab,col,dd,k0,k1,k2,k3,k5,m,c1,c2,c3,c4,c5,c6⟩:=tw hh Gx;refine cJ (cr (cp (aY ek m1 N1 g1 (cp (aY ek m0 N1 gs ?_))) nd1) (sw ..));refine ZbB Hc c1 c2 c3 c4 (c.base f1 (by simp)) Qq rfl rfl (fun _ z=>by cases z) fun h2 RJ b1 b2 b3=>?_
 have N2:=N1;obtain⟨oL,Qn,Ql,l1,l2,l3,l4⟩:=N2;have N2:h2.Ns env.locals (bindL env.kindOf ((["self",f1,f2,f3]:List Str).zip [Value.ref e,v1,v2,v3]) (fun _=>none)):=⟨oL,Qn,Ql,b3 _ _ Ad l1,l2,l3,l4⟩;have NA:K.In h2:=fun b o z=>b3 b o (fun q=>by subst q;rw [Kj]at z;cases z) (Gx b o z)
 obtain⟨nm,q,N,bs,sn,sub,ab,col,dd,k0,k1,k2,k3,k5,m,c1,c2,c3,c4,c5,c6⟩:=tw h2 NA;have Lv:hh.objs.size≠e:=ko (cz Qq);have ndL:env.locals≠hh.objs.size:=eG (cz l1);have hhn:hh.get? hh.objs.size=none:=AN (bO _);refine cJ (cr (cp (aY ek m2 N2 g2 (cp (aY ek m0 N2 gs ?_))) nd2) (sw ..));refine Pf (ns:=[f1]) Hc c1 c2 c3 c5 (c.base f2 (by simp)) QL b1 rfl rfl (fun _ z=>by cases z) Lv b2 (Within.cons f1 v1 Within.nil) (by rw [ak];show 1<=16777216;decide) fun h3 tk3 d1 d2 d3=>?_
 have N3:h3.Ns env.locals (bindL env.kindOf ((["self",f1,f2,f3]:List Str).zip [Value.ref e,v1,v2,v3]) (fun _=>none)):=⟨oL,Qn,Ql,d3 _ _ Ad ndL (b3 _ _ Ad l1),l2,l3,l4⟩;have KX3:K.In h3:=fun b o z=>d3 b o (fun q=>by subst q;rw [Kj]at z;cases z) (fun q=>by subst q;have:=Gx _ _ z;rw [hhn]at this;cases this) (NA b o z)
 obtain⟨nm,q,N,bs,sn,sub,ab,col,dd,k0,k1,k2,k3,k5,m,c1,c2,c3,c4,c5,c6⟩:=tw h3 KX3;refine cJ (cr (cp (aY ek m3 N3 g3 (cp (aY ek m0 N3 gs ?_))) nd3) (sw ..));refine Pf (ns:=[f2,f1]) Hc c1 c2 c3 c6 (c.base f3 (by simp)) QL d1 rfl rfl (fun _ z=>by cases z) Lv d2 (Within.cons f2 v2 (Within.cons f1 v1 Within.nil)) (by rw [ak];show 2<=16777216;decide) fun h4 tk4 j1 j2 j3=>?_
 refine dW (hq h4 hh.objs.size tk4 j1 j2 ?_ Lv fun b o nb z=>?_)
 ·cases z:s.heap.get? hh.objs.size with
  |none=>rfl
  |some o=>exact absurd (cz (kp _ _ z)) (il _)
 ·have z1:=kp _ _ z;exact j3 b o nb (eG (cz z1)) (d3 b o nb (eG (cz z1)) (b3 b o nb z1))
end
structure jm(K:aq)(C fI:Addr)(f1 f2 f3:Str)(d3:Int):Prop where
 c:XC K C fI [f1,f2,f3]
 ex:∃ (qn:Str)(st:Stmt)(dV:Value)(fd:FuncData)(t:Tok),(∃ (oc:Value)(od:Option Addr)(kV gW pm:Value)(an:Option Addr)(bq ct:Value)(jc:Array (Option Value)),
   fd=PySem.W.fnOf "__init__" qn (lH st) (eQ st) (bo st) dV kV gW pm an bq ct/\K.lookup fI=some ⟨oc,od,.func fd,jc⟩/\PySem.W.codeIn K bq qn=true) /\
  cX ["self",f1,f2,f3] ["self",f1,f2,f3] (bo st)/\Binds K fd ["self",f1,f2,f3] []/\Binds K fd ["self",f1,f2,f3] [.int d3 t]/\Iw f1 f2 f3 (eQ st) /\
  ∀ x∈(["self",f1,f2,f3]:List Str),(bo st).names.lookup x=some .local
 sw:∀ (env:Env)(p1 p2 p3 p4:Pos)(f:Str),swapsWith (.Name f p3) (some (.Attribute (.Name "self" p1) f p2)) p4.line env=pure false
 nd1:(f1==("__debug__":Str))=false
 nd2:(f2==("__debug__":Str))=false
 nd3:(f3==("__debug__":Str))=false
abbrev wa(t:Addr):Array Value:=#[.ref t,.none,.none,.none,.bool false,.none]
def vN(d3:Int)(us:List V)(v1 v2 v3:V):Prop:=us=[v1,v2,v3]\/(us=[v1,v2]/\v3=.int d3)
section
variable{prog:Program}{w:World}{A:Around}{E:Value->Shared->Prop}{s:Shared}{K:aq}{C fI:Addr}{f1 f2 f3:Str}{d3:Int}
theorem Pd{v1 v2 v3:V}{vs:List V}{us:List Value}{Q:Value->Shared->Prop}(KX:K.In s.heap)(xN:s.heap.NoLimit)(T:jm K C fI f1 f2 f3 d3)(gO:A.depth+1<recursionLimit)(hv:vN d3 vs v1 v2 v3)(r:Vals vs us)
  (hq:∀ h' e dx t tk u1 u2 u3,RelV v1 u1->RelV v2 u2->RelV v3 u3->h'.get? e=some (iA C (some dx) (wa t) #[])->h'.Ns1 dx (flt f1 f2 f3 u1 u2 u3)->s.heap.get? e=none->s.heap.get? dx=none->dx≠e->(∀ b o,s.heap.get? b=some o->h'.get? b=some o)->Q (.ref e) { s with heap:=h',toks:=tk }):
  wpAny (model prog w) A (call (.ref C) us) Q E s:=by
 obtain⟨nm,q,N,bs,sn,sub,ab,col,dd,k0,k1,k2,k3,k5,m,c1,c2,c3,c4,c5,c6,c7⟩:=T.c.at KX;obtain⟨qn,st,dV,fd,tt,F,S,hb3,jS,body,loc⟩:=T.ex;have F':=F;obtain⟨oc,od,kV,gW,pm,an,bq,ct,jc,rfl,lk,ji⟩:=F';have hfc:oc=.type "function":=by
  have z:(K.lookup fI).map (·.cls)=some (.type "function"):=aJ.mp (show(PySem.W.typeIn K (.ref fI)==some (.type "function"))=true from T.c.fn);rw [lk]at z;exact Option.some.inj z
 have bds:∃ u1 u2 u3,RelV v1 u1/\RelV v2 u2/\RelV v3 u3/\us.length<=sizeLine/\∀ (s':Shared)(e:Addr),K.In s'.heap->BindsTo s' (PySem.W.fnOf "__init__" qn (lH st) (eQ st) (bo st) dV kV gW pm an bq ct) ⟨.ref e::us,[]⟩ ((["self",f1,f2,f3]:List Str).zip [.ref e,u1,u2,u3]):=by
  rcases hv with rfl |⟨rfl,rfl⟩
  ·cases r with
   |cons r1 r=>cases r with
    |cons r2 r=>cases r with
     |cons r3 r =>
      cases r;exact⟨_,_,_,r1,r2,r3,(by show 3<=sizeLine;decide),fun s' e X=>hb3 s' [.ref e,_,_,_] X rfl⟩
  ·cases r with
   |cons r1 r=>cases r with
    |cons r2 r =>
     cases r;exact⟨_,_,.int d3 tt,r1,r2,⟨_,rfl⟩,(by show 2<=sizeLine;decide),fun s' e X=>jS s' [.ref e,_,_] X rfl⟩
 obtain⟨u1,u2,u3,r1,r2,r3,hsz,bd⟩:=bds;obtain⟨hp,g,d,tk,os⟩:=s;refine wpAny_call_exc_init PySem.F.excBase_Exception c1 c2 c3 (KX _ _ lk) hfc (fun h' e hm=>?_) hsz;obtain⟨t,t1,t2,t3⟩:=hm.there;have ER:K.In h':=KX.keeps hm.keeps;refine ot (s:=⟨h',g,d,tk,os⟩) (e:=e) (v1:=u1) (v2:=u2) (v3:=u3) ER (xN.keeps hm.keeps) T.c F S (bd _ e ER) body T.sw loc T.nd1 T.nd2 T.nd3 (by rw [NW];exact gO) ?_ t1 fun h2 dx RJ b1 b2 b3 b4 b5=>⟨rfl,?_⟩
 ·cases z:K.lookup e with
  |none=>rfl
  |some o =>
   have z1:=KX _ _ z;rw [hm.new]at z1;cases z1
 ·refine hq h2 e dx t RJ u1 u2 u3 r1 r2 r3 b1 b2 hm.new ?_ b4 fun b o z=>b5 b o (fun q=>?_) (hm.keeps _ _ z)
  ·cases z:hp.get? dx with
   |none=>rfl
   |some o =>
    have z1:=hm.keeps _ _ z;rw [show h'.get? dx=none from b3]at z1;cases z1
  ·subst q;rw [hm.new]at z;cases z
theorem ZaU{Q:Value->Shared->Prop}(KX:K.In s.heap)(T:XP K C)
  (hq:∀ h' e t,h'.get? e=some (iA C none (wa t) #[])->s.heap.get? e=none->(∀ b o,s.heap.get? b=some o->h'.get? b=some o)->Q (.ref e) { s with heap:=h' }):
  wpAny (model prog w) A (call (.ref C) []) Q E s:=by
 obtain⟨nm,q,N,bs,sn,sub,ab,col,dd,k0,k1,k2,k3,k5,a1,a2,a3⟩:=T.ex;have G:s.heap.Ns N (s.heap.nsMap N):=.of_isNs (PySem.W.isNs_of_in KX a2);obtain⟨hp,g,d,tk,os⟩:=s;refine wpAny_call_exc_sub PySem.F.excBase_Exception (KX _ _ a1) G (lZ KX G a3) (fun h' e hm=>?_) (by show 0<=sizeLine;decide)
 obtain⟨t,t1,t2,t3⟩:=hm.there;exact hq h' e t t1 hm.new hm.keeps
end
section
variable{M:Model}{A:Around}{E:Value->Shared->Prop}{env:Env}
variable{nm q:Str}{C N:Addr}{bs bm:List Value}{gb:Bool}{sn:List Str}{sub:List Value}{ab:Bool}{col:Option Bool}{dd:Option Addr}{k0 k1 k2 k3 k5:Option Value}{c9:String}
theorem Og{s:Shared}{x:Sem Value}{Q:Flow->Shared->Prop}(fq:bm.contains (.type "BaseException")=true)(hh:A.handled=none)
  (h:wpAny M A x (fun v s1=>∃ e d t,v=.ref e/\(∃ nm q N bs gb sn sub ab col dd k0 k1 k2 k3 k5 c9,s1.heap.get? C=some (excClassObj nm q C N bs bm gb sn sub ab col dd k0 k1 k2 k3 k5 c9)) /\
    s1.heap.get? e=some (iA C d (wa t) #[])/\E (.ref e) s1) E s):wpAny M A (raiseStmt env (some x) none) Q E s:=by
 have BZ:(Value.ref C::bm).contains (.type "BaseException")=true:=by rw [E7,fq,Bool.or_true]
 unfold raiseStmt;refine aa (ax h (fun v s1 h1=>?_) fun _ _ x=>x);obtain⟨e,d',t,rfl,⟨nm,q,N,bs,gb,sn,sub,ab,col,dd,k0,k1,k2,k3,k5,c9,hC⟩,he,hE⟩:=h1;obtain⟨hp,g,d,tk,os⟩:=s1
 repeat (first |with_reducible refine a9 he ?_ |with_reducible refine a9 hC ?_ |(with_reducible refine fY hC ?_;rw [BZ]) |wp_step)
 exact wpAny_raiseNew_none hh hE
end
theorem oO{P:Program}{w:World}{H:Hp}{h:Heap}{a:Addr}{o:HO}(x:ObjOk P w H h a o):∃ q,h.get? a=some q:=by
 cases o with
 |lst xs=>obtain⟨_,_,_,_,e⟩:=x;exact⟨_,e⟩
 |tup xs=>obtain⟨_,_,_,ob,e,_⟩:=x;exact⟨_,e⟩
 |dK ah=>obtain⟨_,_,_,_,o,_,_,e,_⟩:=x;exact⟨_,e⟩
 |dT ah=>obtain⟨_,_,_,_,o,_,_,e,_⟩:=x;exact⟨_,e⟩
 |set S n=>obtain⟨o,_,_,_,e,_⟩:=x;exact⟨_,e⟩
 |ins C dx fs=>obtain⟨_,_,_,e,_⟩:=x;exact⟨_,e⟩
 |own y=>exact x
 |xd fs=>obtain⟨_,⟨_,_,_,e,_⟩,_⟩:=x;exact⟨_,e⟩
 |rng lo hi=>obtain⟨_,_,_,e⟩:=x;exact⟨_,e⟩
 |frz ob u=>obtain⟨e,_⟩:=x;exact⟨_,e⟩
 |tbl ps=>exact⟨_,x⟩
 |met f y=>exact⟨_,x⟩
 |ext φ=>obtain⟨_,e,_⟩:=x;exact e
section
variable{X:Cx}{pins:List (Addr×Obj)}{σ:L2.St}{H:Hp}{s:Shared}{a:Addr}{o:HO}
structure New(X:Cx)(pins:List (Addr×Obj))(H:Hp)(a:Addr):Prop where
 hn:H a=none
 h0:X.s_0.heap.get? a=none
 hL:a≠X.env.locals
 hc:∀ x c,X.env.cells.lookup x=some c->c≠a
 hp:∀ p∈X.pn++pins,p.1≠a
 hf:a∉cc X.stack
theorem kI(I:Inv X pins σ H s)(cw:X.ex=[])(n:s.heap.get? a=none):New X pins H a where
 hn:=by
  cases w:H a with
  |none=>rfl
  |some o =>
   obtain⟨q,z⟩:=oO (I.hok a o w);rw [n]at z;cases z
 h0:=by
  cases w:X.s_0.heap.get? a with
  |none=>rfl
  |some o =>
   obtain⟨q,z⟩:=I.base.there a o w (by rw [cw];simp)
   rw [n]at z;cases z
 hL:=by
  rintro rfl;obtain⟨m,⟨ob,_,_,e,_⟩,_⟩:=I.loc;rw [n]at e;cases e
 hc:=fun x c e z=>by
  subst z;obtain⟨v,ob,e1,_⟩:=I.cell x c e;rw [n]at e1;cases e1
 hp:=fun p hp z=>by
  have e:=(I.pin p hp).1;rw [z,n]at e;cases e
 hf:=fun z=>by
  obtain⟨_,ob,e,_⟩:=I.stack.mem z;rw [n]at e;cases e
theorem lr(I:Inv X pins σ H s)(N:New X pins H a)(new:ObjOk X.prog X.w (upd H a o) s.heap a o):Inv X pins σ (upd H a o) s:=by
 refine⟨I.ok,I.os,I.bare,⟨I.base.keep,I.base.slot,fun b ob q n hx=>?_,I.base.there,fun b xs q=>?_,fun b ob u q=>?_,fun b ps q=>?_⟩,I.loc,I.cell,?_,fun x c e=>?_,fun p hp=>?_,fun b u q=>?_,I.len⟩
 ·rw [aj (fun z=>by rw [z,N.h0]at q;cases q)]
  exact I.base.free b ob q n hx
 ·have z:=I.base.tups b xs q;rw [aj (ba z N.hn)];exact z
 ·have z:=I.base.frzs b ob u q;rw [aj (ba z N.hn)];exact z
 ·obtain⟨c8,z⟩:=I.base.tbls b ps q;exact⟨c8,by rw [aj (ba z N.hn)];exact z⟩
 ·rw [aj N.hL.symm];exact I.free
 ·rw [aj (N.hc x c e)];exact I.freeC x c e
 ·obtain⟨p1,p2,p3⟩:=I.pin p hp;exact⟨p1,by rw [aj (N.hp p hp)];exact p2,p3⟩
 ·by_cases hb:b=a
  ·subst hb;rw [Z2j]at q;cases q;exact new
  ·rw [aj hb]at q;exact(I.hok b u q).stay (fun c v _ e=>e) (fun c e=>by rw [aj (ba e N.hn)];exact e) fun c xs e=>by rw [aj (ba e N.hn)];exact e
end
section
variable{X:Cx}{pins:List (Addr×Obj)}{σ:L2.St}{H:Hp}{s:Shared}{C fI:Addr}{f1 f2 f3 x:Str}{d3:Int}
def Jr(X:Cx)(E:XK):Prop:=∀ (pins:List (Addr×Obj))(σ:L2.St)(H:Hp)(s:Shared)(e C:Addr)(d:Option Addr),Inv X pins σ H s->Gs true s.heap e C d->H e=none->X.s_0.heap.get? e=none ->
 (∀ dx,d=some dx->∃ fs,H dx=some (.xd fs))->E (.ref C) d H->X.xe (.ref e) s
def yQ(C:Addr)(f1 f2 f3:Str)(d3:Int)(E:XK)(ta:TA):TS:=fun _ σ H=>ta σ H fun vs H1=>∃ v1 v2 v3,vN d3 vs v1 v2 v3/\∀ dx,H1 dx=none->E (.ref C) (some dx) (upd H1 dx (.xd [(f3,v3),(f2,v2),(f1,v1)]))
theorem PY{f1 f2 f3:Str}{v1 v2 v3:V}{u1 u2 u3:Value}(r1:RelV v1 u1)(r2:RelV v2 u2)(r3:RelV v3 u3)(f:Str):RelO (([(f3,v3),(f2,v2),(f1,v1)]:List (Str×V)).lookup f) (flt f1 f2 f3 u1 u2 u3 f):=by
 have st:∀ (g:Str)(v:V)(u:Value)(l:List (Str×V))(o:Option Value),RelV v u->RelO (l.lookup f) o->RelO (((g,v)::l).lookup f) (if f=g then some u else o):=fun g v u l o r h=>by
  by_cases a:f=g
  ·rw [ae a];have b:(f==g)=true:=aJ.mpr a;simp only [List.lookup,b];exact r
  ·rw [ac a];have b:(f==g)=false:=aP.mpr a;simp only [List.lookup,b];exact h
 unfold flt;exact st f3 v3 u3 _ _ r3 (st f2 v2 u2 _ _ r2 (st f1 v1 u1 _ _ r1 True.intro))
theorem uN{a1:Expr}{as:List Expr}{ta:TA}{p pos bt:Pos}{E:XK}(T:jm X.K C fI f1 f2 f3 d3)(hc:X.calm=true)(cw:X.ex=[])(gO:X.A.depth+1<recursionLimit)(hg:Gl X x)(hm:X.mg x=some (.ref C))(hx:Jr X E)(ha:PA X (a1::as) ta)
  (gz:autoParam ((x==("__debug__":Str))=false) aD._auto_1)(he:autoParam (starEach (a1::as) X.env=(false,eval a1 X.env)::starEach as X.env) aR._auto_1)(ja:autoParam ((backTo bt (starEach as X.env)).any (·.1)=false) aR._auto_1):
  PS X (.Raise (some (.Call (.Name x p) (a1::as) [] bt)) none pos) (yQ C f1 f2 f3 d3 E ta):=by
 intro pins s σ H D I h;rw [arm_exec_Raise];have key:wpAny (model X.prog X.w) X.A (eval (.Call (.Name x p) (a1::as) [] bt) X.env) (fun v s1=>∃ e d t,v=.ref e /\
   (∃ nm q N bs gb sn sub ab col dd k0 k1 k2 k3 k5 c9,s1.heap.get? C=some (excClassObj nm q C N bs iG gb sn sub ab col dd k0 k1 k2 k3 k5 c9))/\s1.heap.get? e=some (iA C d (wa t) #[])/\X.xe (.ref e) s1) X.xe s:=by
  refine aT (mf I hg hm ?_ gz);refine vV (h₀:=X.base) I.ok.mod.kin T.c.kp (aQ (ha bt pins s σ H _ I h) fun us s1 ⟨vs,H1,I1,r,v1,v2,v3,hv,q⟩=>⟨I1.kIn,?_⟩) he ja;refine Pd I1.kIn I1.nolimit T gO hv r fun h' e dx t tk u1 u2 u3 r1 r2 r3 b1 b2 b3 b4 b5 b6=>⟨e,some dx,t,rfl,?_,b1,?_⟩
  ·obtain⟨nm,q,N,bs,sn,sub,ab,col,dd,k0,k1,k2,k3,k5,m,c1,_⟩:=T.c.at (I1.kIn.keeps b6);exact⟨nm,q,N,bs,true,sn,sub,ab,col,dd,k0,k1,k2,k3,k5,_,c1⟩
  ·have Ne:=kI I1 cw b3;have Nd:=kI I1 cw b4;have I2:Inv X pins σ H1 { s1 with heap:=h',toks:=tk }:=I1.kept b6
   have I3:=lr (o:=.xd [(f3,v3),(f2,v2),(f1,v1)]) I2 Nd ⟨_,b2,fun f=>PY r1 r2 r3 f⟩;exact hx pins σ _ _ e C (some dx) I3 ⟨_,_,b1,rfl,fun _=>rfl⟩ (by rw [aj b5.symm];exact Ne.hn) Ne.h0 (fun eO z=>by cases z;exact⟨_,Z2j⟩) (q dx Nd.hn)
 exact aa (bp (Og (bm:=iG) (by decide) (I.ok.hd hc) (aa (ax key (fun v s1 h1=>aa (bp (af h1))) fun _ _ z=>z))))
def uj(C:Addr)(E:XK):TS:=fun _ σ H=>E (.ref C) none H
theorem Zbn{p pos bt:Pos}{E:XK}(T:XP X.K C)(hc:X.calm=true)(cw:X.ex=[])(hg:Gl X x)(hm:X.mg x=some (.ref C))(hx:Jr X E)(gz:autoParam ((x==("__debug__":Str))=false) aD._auto_1):
  PS X (.Raise (some (.Call (.Name x p) [] [] bt)) none pos) (uj C E):=by
 intro pins s σ H D I h;rw [arm_exec_Raise];have key:wpAny (model X.prog X.w) X.A (eval (.Call (.Name x p) [] [] bt) X.env) (fun v s1=>∃ e d t,v=.ref e /\
   (∃ nm q N bs gb sn sub ab col dd k0 k1 k2 k3 k5 c9,s1.heap.get? C=some (excClassObj nm q C N bs iG gb sn sub ab col dd k0 k1 k2 k3 k5 c9))/\s1.heap.get? e=some (iA C d (wa t) #[])/\X.xe (.ref e) s1) X.xe s:=by
  refine aT (mf I hg hm ?_ gz);refine PySem.W.callWith_K0 I.kIn T.kp (ZaU I.kIn T fun h' e t b1 b2 b3=>⟨e,none,t,rfl,?_,b1,?_⟩)
  ·obtain⟨nm,q,N,bs,sn,sub,ab,col,dd,k0,k1,k2,k3,k5,a1,_⟩:=T.ex;exact⟨nm,q,N,bs,true,sn,sub,ab,col,dd,k0,k1,k2,k3,k5,_,I.kIn.keeps b3 _ _ a1⟩
  ·have Ne:=kI I cw b2;exact hx pins σ H _ e C none (I.kept (t':=s.toks) b3) ⟨_,_,b1,rfl,fun _=>rfl⟩ Ne.hn Ne.h0 (fun eO z=>by cases z) h
 exact aa (bp (Og (bm:=iG) (by decide) (I.ok.hd hc) (aa (ax key (fun v s1 h1=>aa (bp (af h1))) fun _ _ z=>z))))
end
def CXQ(z:Bool)(P:Program)(w:World):jW:=fun outer H s E e s'=>∃ (ea T C:Addr)(d:Option Addr)(H':Hp),e=.ref ea/\s'.os=s.os/\AllBare s'.gens/\Un (cc outer) [] H H' s.heap s'.heap/\HOk P w H' s'.heap /\
 Fly z s'.heap ea T C d .none/\H' ea=none/\H' T=none/\s.heap.get? ea=none/\s.heap.get? T=none/\(∀ dx,d=some dx->∃ fs,H' dx=some (.xd fs))/\E (.ref C) d H'
abbrev gP(P:Program)(w:World):jW:=CXQ true P w
theorem Fly.weak{z:Bool}{h:Heap}{e T C:Addr}{dx:Option Addr}{fl:Value}(f:Fly z h e T C dx fl):Fly false h e T C dx fl:=⟨f.obj,f.tb,f.ne,fun q=>by cases q⟩
theorem CXQ.weak{z:Bool}{P:Program}{w:World}{outer:List Env}{H:Hp}{s s':Shared}{E:XK}{e:Value}(c:CXQ z P w outer H s E e s'):CXQ false P w outer H s E e s':=by
 obtain⟨ea,T,C,d,H',h0,h1,h2,h3,h4,h5,h6⟩:=c;exact⟨ea,T,C,d,H',h0,h1,h2,h3,h4,h5.weak,h6⟩
section
variable{X:Cx}{z:Bool}{pins:List (Addr×Obj)}{σ:L2.St}{H:Hp}{s:Shared}{E':Value->Shared->Prop}{E:XK}
theorem Ix{env:Env}{outer:List Env}{L:Addr}(h:env.frame=some L):cc (env::outer)=L::cc outer:=by
 unfold cc;rw [zd,h]
theorem qp{h2:Heap}{ch:List Addr}(I:Inv X pins σ H s)(cq:X.stack=X.env::X.outer)(cM:X.env.frame=some X.env.locals)(cw:X.ex=[])(k:Kp (cc X.stack) ch s.heap h2)(h0:∀ b∈ch,X.s_0.heap.get? b=none):
  Un (cc X.outer) [] X.H_0 H X.s_0.heap h2:=by
 have lT:∀ b o,X.s_0.heap.get? b=some o->b∉ch:=fun b o q z=>by
  rw [h0 b z]at q;cases q
 have nx:∀ b:Addr,b∉X.ex:=fun b z=>by rw [cw]at z;cases z
 have nL:∀ b o,X.s_0.heap.get? b=some o->b∉cc X.outer->b∉cc X.stack:=fun b o q n z=>by
  rw [cq,Ix cM]at z;rcases bw.mp z with z |z
  ·exact absurd (iD (cz q) I.ok.above) (by rw [z];exact il _)
  ·exact n z
 refine⟨fun b o q n hb _=>k.keep b o (I.base.keep b o q n hb (nx b)) (lT b o q) (nL b o q hb),fun b o q n hb _=>?_,fun b o q n _=>I.base.free b o q n (nx b),fun b o q _=>?_,I.base.tups,I.base.frzs,I.base.tbls⟩
 ·obtain⟨sl,e⟩:=I.base.slot b o q n hb (nx b);obtain⟨tZ,e'⟩:=k.slot b _ e (lT b o q);exact⟨tZ,e'⟩
 ·obtain⟨o',e⟩:=I.base.there b o q (nx b);obtain⟨tZ,e'⟩:=k.slot b _ e (lT b o q);exact⟨_,e'⟩
theorem FH{h2:Heap}{ch:List Addr}(I:Inv X pins σ H s)(k:Kp (cc X.stack) ch s.heap h2)(hH:∀ b∈ch,H b=none):HOk X.prog X.w H h2:=fun a o e =>
 (I.hok a o e).stay (fun b u hb q=>by
   have hs:∃ z,H b=some z:=by
    rcases hb with rfl |hb
    ·exact⟨o,e⟩
    ·exact⟨_,hb⟩
   obtain⟨z,hz⟩:=hs;refine k.keep b u q (fun m=>?_) fun m=>?_
   ·rw [hH b m]at hz;cases hz
   ·rw [I.stkFree b m]at hz;cases hz) (fun _ q=>q) fun _ _ q=>q
theorem gB(I:Inv X pins σ H s)(cw:X.ex=[]){a:Addr}(n:s.heap.get? a=none):H a=none/\X.s_0.heap.get? a=none:=let N:=kI I cw n;⟨N.hn,N.h0⟩
def Ao(z:Bool)(X:Cx)(H:Hp)(h:Heap)(ea C:Addr)(dx:Option Addr):Prop:=(H ea=none/\X.s_0.heap.get? ea=none)/\(Gs z h ea C dx\/∃ T,Fly z h ea T C dx .none/\H T=none/\X.s_0.heap.get? T=none)
theorem Zbw{Q:Unit->Shared->Prop}{ea C:Addr}{dx:Option Addr}(I:Inv X pins σ H s)(cq:X.stack=X.env::X.outer)(cM:X.env.frame=some X.env.locals)(cw:X.ex=[])(he:Ao z X H s.heap ea C dx)
  (h:∀ h1 T ch,Fly z h1 ea T C dx (rawInt X.env.locals)->(H T=none/\X.s_0.heap.get? T=none)->Kp (cc X.stack) ch s.heap h1->(∀ b∈ch,H b=none/\X.s_0.heap.get? b=none)->Q () { s with heap:=h1 }):
  wpAny (model X.prog X.w) X.A (noteFrame (.ref ea) X.env) Q E' s:=by
 have hF:X.A.frames=some (X.env::X.outer):=by rw [<-cq];exact I.ok.frames
 have hL:s.heap.FunFrames X.base (X.env::X.outer):=by rw [<-cq];exact I.stack
 obtain⟨h0,hf |⟨T,hf,hT⟩⟩:=he
 ·refine Oc hF hL cM hf fun h1 T f n k=>h h1 T [ea] f (gB I cw n) (by rw [cq];exact k) fun b hb=>?_
  rw [du.mp hb];exact h0
 ·refine IL hF hL cM hf fun h1 T' f n k=>h h1 T' [T,ea] f (gB I cw n) (by rw [cq];exact k) fun b hb=>?_
  rcases bw.mp hb with rfl |hb
  ·exact hT
  ·rw [du.mp hb];exact h0
theorem Ic{ea C:Addr}{dx:Option Addr}(I:Inv X pins σ H s)(cq:X.stack=X.env::X.outer)(cM:X.env.frame=some X.env.locals)(cw:X.ex=[])(he:Ao z X H s.heap ea C dx)
  (hd:∀ eO,dx=some eO->∃ fs,H eO=some (.xd fs))(hE:E (.ref C) dx H):wpAny (model X.prog X.w) X.A (leaving X.env (.ref ea)) (fun _ s'=>CXQ z X.prog X.w X.outer X.H_0 X.s_0 E (.ref ea) s') E' s:=by
 unfold leaving;refine aa (Zbw I cq cM cw he fun h1 T ch f nT k hc=>?_);refine hX (fs:=cc X.stack) (s:={ s with heap:=h1 }) f fun h2 f2 k2=>?_
 have k3:=k.trans k2;have kQ:∀ b∈ch++[T],H b=none/\X.s_0.heap.get? b=none:=fun b hb=>by
  rcases dz.mp hb with hb |hb
  ·exact hc b hb
  ·rw [du.mp hb];exact nT
 exact⟨ea,T,C,dx,H,rfl,I.os,I.bare,qp I cq cM cw k3 fun b hb=>(kQ b hb).2,FH I k3 fun b hb=>(kQ b hb).1,f2,he.1.1,nT.1,he.1.2,nT.2,hd,hE⟩
end
section
variable{P:Program}{w:World}{K:aq}{mg:Str->Option Value}{base:Heap}{N:List Str}{qual:Str}{scope:Scope}{f:Addr}{cd:Value}{A:Around}{outer:List Env}{s0:Shared}{H0:Hp}{E:XK}{z:Bool}
abbrev uW(z:Bool)(P:Program)(w:World)(K:aq)(mg:Str->Option Value)(base:Heap)(N:List Str)(qual:Str)(scope:Scope)(f:Addr)(cd:Value)(A:Around)(outer:List Env)(s:Shared)(H:Hp)(E:XK):Cx:=
 j6 (CXQ z P w) P w K mg base N qual scope f cd A outer s H E
theorem rD:Jr (uW z P w K mg base N qual scope f cd A outer s0 H0 E) E:=by
 intro pins σ H s e C d I hf h1 h2 hd hE;exact Ic I rfl rfl rfl ⟨⟨h1,h2⟩,.inl (by obtain⟨vs,sl,e1,e2,e3⟩:=hf;exact⟨vs,sl,e1,e2,fun _=>e3 rfl⟩)⟩ hd hE
theorem gv:jo (CXQ z P w) (uW z P w K mg base N qual scope f cd A outer s0 H0 E) E:=by
 intro pins σ H s e s' I h;obtain⟨ea,T,C,dx,H',rfl,h1,h2,h3,h4,h5,h6,h7,h8,h9,ju,lN⟩:=h;have I':Inv (uW z P w K mg base N qual scope f cd A outer s0 H0 E) pins σ H' s':=I.call' (ch:=[]) h1 h3 h4 h2 (fun b z=>absurd z (by simp))
 exact Ic I' rfl rfl rfl ⟨⟨h6,(gB I rfl h8).2⟩,.inr ⟨T,h5,h7,(gB I rfl h9).2⟩⟩ ju lN
theorem Bo:PassesOwn (model P w) (uW z P w K mg base N qual scope f cd A outer s0 H0 E).A (uW z P w K mg base N qual scope f cd A outer s0 H0 E).env (uW z P w K mg base N qual scope f cd A outer s0 H0 E).xe:=PassesOwn.leaving
theorem kZ{x:Str}{st:Stmt}{fd:FuncData}{ps:List Str}{k:Nat}{sp:Sp}(F:Fun K x qual st f fd)(S:cX N ps (bo st))(len:∀ vs H Q E,sp vs H Q E->vs.length=ps.length)
  (gY:∀ (bq:Value)(A:Around)(outer:List Env)(s:Shared)(H:Hp)(vs:List V)(Q:VK)(E:XK),Room k (A.deeper (envOfC qual (bo st) s.heap.objs.size f bq))->sp vs H Q E ->
    ∃ t,PSs (uW z P w K mg base N qual (bo st) f bq A outer s H E) (eQ st) t/\t { nx:=fun _ H'=>Q .non H',rt:=Q } (start N vs) H):am P w K mg base (CXQ z P w) (k+1) f fd ps sp:=by
 obtain⟨oc,od,kV,gW,pm,an,bq,ct,jc,rfl,lk,ji⟩:=F.ex;exact nW lk ji S len fun A outer s H vs Q E hr kc=>gY bq A outer s H vs Q E hr kc
theorem iY{k:Nat}{fd:FuncData}{ps:List Str}{sp:Sp}(F:am P w K mg base (CXQ z P w) k f fd ps sp):am P w K mg base (CXQ false P w) k f fd ps sp:=
 ⟨F.len,fun A outer s H args us vs Q E hr he hb hv hs=>dA (F.run A outer s H args us vs Q E hr he hb hv hs) fun r s' q=>by
  cases r with
  |error e=>exact q.weak
  |ok fl=>cases fl<;>exact q⟩
end
structure lz(X:Cx)(pins:List (Addr×Obj))(H:Hp)(b:Addr):Prop where
 hn:H b=none
 h0:X.s_0.heap.get? b=none
 hL:b≠X.env.locals
 hc:∀ x c,X.env.cells.lookup x=some c->c≠b
 hp:∀ p∈X.pn++pins,p.1≠b
theorem New.off{X:Cx}{pins:List (Addr×Obj)}{H:Hp}{b:Addr}(n:New X pins H b):lz X pins H b:=⟨n.hn,n.h0,n.hL,n.hc,n.hp⟩
section
variable{X:Cx}{pins:List (Addr×Obj)}{σ:L2.St}{H:Hp}{s:Shared}
theorem rG{h1:Heap}{ch:List Addr}(I:Inv X pins σ H s)(cq:X.stack=X.env::X.outer)(cM:X.env.frame=some X.env.locals)(cw:X.ex=[])(k:Kp (cc X.stack) ch s.heap h1)(hc:∀ b∈ch,lz X pins H b):
  Inv X pins σ H { s with heap:=h1 }:=by
 have u:=qp I cq cM cw k fun b hb=>(hc b hb).h0;have cel:∀ {x:Str}{c:Addr}{v:Option Value},X.env.cells.lookup x=some c->s.heap.IsCell c v->h1.IsCell c v:=fun{x c v} e z=>by
  obtain⟨o,e1,e2⟩:=z;obtain⟨sl,e3⟩:=k.slot c o e1 fun m=>(hc c m).hc x c e rfl;exact⟨_,e3,e2⟩
 refine⟨I.ok,I.os,I.bare,?_,?_,fun x c e=>?_,I.free,I.freeC,fun p hp=>?_,FH I k fun b hb=>(hc b hb).hn,I.len⟩
 ·rw [cw];exact u
 ·obtain⟨m,⟨o,es,ep,e1,e2,r⟩,hl⟩:=I.loc;obtain⟨sl,e3⟩:=k.slot _ o e1 fun z=>(hc _ z).hL rfl;refine⟨m,⟨_,es,ep,e3,e2,r⟩,fun i x v a1 a2 a3=>?_⟩;obtain⟨u',r',q⟩:=hl i x v a1 a2 a3;refine⟨u',r',?_⟩;rcases q with q |⟨q1,c,q2,q3⟩
  ·exact .inl q
  ·exact .inr ⟨q1,c,q2,cel q2 q3⟩
 ·obtain⟨v,z⟩:=I.cell x c e;exact⟨v,cel e z⟩
 ·obtain⟨p1,p2,p3,p4,p5⟩:=I.pin p hp;refine⟨k.keep _ _ p1 (fun m=>(hc _ m).hp p hp rfl) fun m=>?_,p2,p3,p4,p5⟩;rw [cq,Ix cM]at m;rcases bw.mp m with m |m
  ·exact p3 m
  ·exact p4 m
def blank(X:Cx):L2.St:=List.replicate X.N.length none
theorem N0(X:Cx){i:Nat}{v:V}:(blank X)[i]?≠some (some v):=by
 unfold blank;rw [List.getElem?_replicate];split<;>intro z<;>cases z
theorem Inv.blank(I:Inv X pins σ H s):Inv X pins (blank X) H s:=I.weak (by unfold EX.blank;rw [G8,I.len]) fun i v e=>absurd e (N0 X)
theorem Pn{h1:Heap}{m:Str->Option Value}{t:Nat}(I:Inv X pins σ H s)(hn:h1.Ns X.env.locals m)(hs:Heap.SameBut X.env.locals s.heap h1):Inv X pins (EX.blank X) H { s with heap:=h1,toks:=t }:=by
 have ne:∀ b o,X.s_0.heap.get? b=some o->b≠X.env.locals:=fun b o e=>eG (iD (cz e) I.ok.above);refine⟨I.ok,I.os,I.bare,⟨fun b o e n hb hx=>(hs.2 b (ne b o e)).trans (I.base.keep b o e n hb hx),fun b o e n hb hx=>?_,I.base.free,fun b o e hx=>?_,I.base.tups,I.base.frzs,I.base.tbls⟩,⟨m,hn,fun i x v _ e _=>absurd e (N0 X)⟩,
  fun x c e=>?_,I.free,I.freeC,fun p hp=>?_,fun a o e=>(I.hok a o e).stay (fun b u hb q=>(hs.2 b ?_).trans q) (fun _ q=>q) fun _ _ q=>q,by unfold EX.blank;rw [G8]⟩
 ·obtain⟨sl,z⟩:=I.base.slot b o e n hb hx;exact⟨sl,(hs.2 b (ne b o e)).trans z⟩
 ·obtain⟨o',z⟩:=I.base.there b o e hx;exact⟨o',(hs.2 b (ne b o e)).trans z⟩
 ·obtain⟨v,z⟩:=I.cell x c e;exact⟨v,z.sameBut hs (I.cne x c e)⟩
 ·obtain⟨p1,p2,p3,p4⟩:=I.pin p hp;exact⟨(hs.2 _ p3).trans p1,p2,p3,p4⟩
 ·rintro rfl;rcases hb with rfl |hb
  ·rw [I.free]at e;cases e
  ·rw [I.free]at hb;cases hb
abbrev XS(X:Cx)(ea:Addr):Cx:={ X with A:=X.A.mark (some (.ref ea)),calm:=false,xe:=fun _ _=>False }
abbrev XB(X:Cx)(pins:List (Addr×Obj))(E:Value->Shared->Prop):Cx:={ X with pn:=X.pn++pins,xe:=E }
theorem Inv.toS(I:Inv X pins σ H s)(ea:Addr):Inv (XS X ea) pins σ H s:=
 ⟨⟨I.ok.mod,I.ok.kind,I.ok.glob,I.ok.blt,I.ok.above,I.ok.inj,I.ok.has,I.ok.cab,(fun h=>by cases h),I.ok.frames,I.ok.stk,I.ok.exf,I.ok.bs,I.ok.bsz,I.ok.noex,I.ok.exfs,I.ok.funs,I.ok.frf⟩,I.os,I.bare,I.base,I.loc,I.cell,I.free,I.freeC,I.pin,I.hok,I.len⟩
theorem Inv.ofS{ea:Addr}(ok:X.Ok)(I:Inv (XS X ea) pins σ H s):Inv X pins σ H s:=⟨ok,I.os,I.bare,I.base,I.loc,I.cell,I.free,I.freeC,I.pin,I.hok,I.len⟩
theorem Inv.toB(I:Inv X pins σ H s)(E:Value->Shared->Prop):Inv (XB X pins E) [] σ H s:=
 ⟨⟨I.ok.mod,I.ok.kind,I.ok.glob,I.ok.blt,I.ok.above,I.ok.inj,I.ok.has,I.ok.cab,I.ok.hd,I.ok.frames,I.ok.stk,I.ok.exf,I.ok.bs,I.ok.bsz,I.ok.noex,I.ok.exfs,I.ok.funs,I.ok.frf⟩,I.os,I.bare,I.base,I.loc,I.cell,I.free,I.freeC,fun p hp=>I.pin p (by rw [jZ]at hp;exact hp),I.hok,I.len⟩
theorem Inv.ofB{E:Value->Shared->Prop}{iT:List (Addr×Obj)}(ok:X.Ok)(I:Inv (XB X pins E) iT σ H s):Inv X pins σ H s:=
 ⟨ok,I.os,I.bare,I.base,I.loc,I.cell,I.free,I.freeC,fun p hp=>I.pin p (jY _ hp),I.hok,I.len⟩
def XE(z:Bool)(ea C dx:Addr):HO:=.ext fun h=>∃ vs sl,h.get? ea=some (iA C (some dx) vs sl)/\(z=true->vs[2]?=some .none)
theorem vM{P:Program}{w:World}{H:Hp}{h:Heap}{ea C dx:Addr}{z:Bool}(e:∃ vs sl,h.get? ea=some (iA C (some dx) vs sl)/\(z=true->vs[2]?=some .none)):ObjOk P w H h ea (XE z ea C dx):=by
 obtain⟨vs,sl,e,q⟩:=e;exact⟨⟨vs,sl,e,q⟩,⟨_,e⟩,fun h1 h2 ⟨vs,sl,a,q⟩ k=>⟨vs,sl,k _ a,q⟩⟩
structure qQ(z:Bool)(X:Cx)(pins:List (Addr×Obj))(H:Hp)(s:Shared)(ea T C:Addr)(d:Option Addr):Prop where
 inv:Inv X pins (EX.blank X) H s
 fly:Fly z s.heap ea T C d .none
 oe:lz X pins H ea
 oT:lz X pins H T
 fe:ea∉cc X.stack
 hd:∀ dx,d=some dx->∃ fs,H dx=some (.xd fs)
theorem Zbj{M:Model}{A:Around}{E:Value->Shared->Prop}{h:Heap}{g:Array GenState}{d:Drawn}{t:Nat}{os:OsState}{e C D:Addr}{oe:Obj}{Q:Bool->Shared->Prop}{K:aq}(X:K.In h)
  (kC:qX K C)(kD:qX K D)(he:h.get? e=some oe)(wS:oe.cls=.ref C)(bV:C≠D)
  (hq:Q false ⟨h,g,d,t,os⟩):wpAny M A (excMatches (.ref e) (.ref D)) Q E ⟨h,g,d,t,os⟩:=by
 obtain⟨nm,q,N,bs,sn,sub,ab,col,dd,k0,k1,k2,k3,k5,lC⟩:=kC;obtain⟨nm',q',N',bs',sn',sub',ab',col',mh,k0',k1',k2',z0,k5',lD⟩:=kD;have hC:=X _ _ lC;have hD:=X _ _ lD;have BZ:(Value.ref D::iG).contains (.type "BaseException")=true:=by rw [E7,show iG.contains (.type "BaseException")=true by decide,Bool.or_true]
 have hcC:(Value.ref C::iG).contains (.ref D)=false:=by
  have:(Value.ref D==Value.ref C)=false:=by
   rw [aP];intro z;cases z;exact bV rfl
  rw [E7,this];rfl
 have f:=tc_notTuple;unfold excMatches
 repeat (first |(with_reducible refine a9 he ?_;rw [wS]) |with_reducible refine a9 hD ?_ |(with_reducible refine fY hD ?_;rw [BZ]) |(with_reducible refine fY hC ?_;rw [hcC]) |wp_step)
 exact hq
section
variable{z:Bool}{C C1 ea T i:Addr}{d:Option Addr}{n x:Str}{p pos:Pos}{b0:Stmt}{jH:List Stmt}{d9:List ExceptHandler}{th:TS}{D:dI}
theorem zu{nm:Option Str}(a:qQ z X pins H s ea T C d)(hg:Gl X x)(hm:X.mg x=some (.ref C1))(kC:qX X.K C)(k1:qX X.K C1)(bV:C≠C1)
  (h:wpAny (model X.prog X.w) X.A (handleBy (.ref ea) X.env d9) (SP X pins D) X.xe s)(gz:autoParam ((x==("__debug__":Str))=false) aD._auto_1):
  wpAny (model X.prog X.w) X.A (handleBy (.ref ea) X.env (.ExceptHandler (some (.Name x p)) nm (b0::jH) pos::d9)) (SP X pins D) X.xe s:=by
 obtain⟨EI,qP,e2,_⟩:=a.fly.obj;refine fX (eJ (mf (X:=XS X ea) (Inv.toS a.inv ea) hg hm ?_ gz)) (by intro z;cases z)
 have KX:=a.inv.kIn;obtain⟨hp,g,dr,tk,os⟩:=s;exact Zbj KX kC k1 e2 rfl bV h
theorem dS{Q:Bool->Shared->Prop}{A:Around}{E:Value->Shared->Prop}(a:qQ z X pins H s ea T C d)(kC:qX X.K C)(h:Q true s):wpAny (model X.prog X.w) A (excMatches (.ref ea) (.ref C)) Q E s:=by
 obtain⟨EI,qP,e2,_⟩:=a.fly.obj;obtain⟨nm,q,N,bs,sn,sub,ab,col,dd,k0,k1',k2',k3,k5,c1⟩:=kC;have KX:=a.inv.kIn;obtain⟨hp,g,dr,tk,os⟩:=s;exact wpAny_excMatches_sub_self (KX _ _ c1) e2 rfl (by decide) h
theorem oA(a:qQ z X pins H s ea T C d)(cq:X.stack=X.env::X.outer)(cM:X.env.frame=some X.env.locals)(cw:X.ex=[]){h3:Heap}(f3:Fly z h3 ea T C d .none)(k3:Kp (cc X.stack) [T] s.heap h3):qQ z X pins H { s with heap:=h3 } ea T C d:=
 ⟨rG a.inv cq cM cw k3 (fun b hb=>by rw [du.mp hb];exact a.oT),f3,a.oe,a.oT,a.fe,a.hd⟩
theorem BX{dx:Addr}(a:qQ z X pins H s ea T C (some dx))(kC:qX X.K C)(cq:X.stack=X.env::X.outer)(cM:X.env.frame=some X.env.locals)(cw:X.ex=[])(hg:Gl X x)(hm:X.mg x=some (.ref C))(hN:X.N.Nodup)(hi:X.N[i]?=some n)(hl:X.env.scope.names.lookup n=some .local)
  (hs:∀ ea,PSs (XS X ea) (b0::jH) th)(hE:∀ ea,H ea=none->ea≠dx->th { nx:=fun _ _=>False,rt:=D.rt } ((EX.blank X).set i (some (.ref ea))) (upd H ea (XE z ea C dx)))(gz:autoParam ((x==("__debug__":Str))=false) aD._auto_1):
  wpAny (model X.prog X.w) X.A (handleBy (.ref ea) X.env (.ExceptHandler (some (.Name x p)) (some n) (b0::jH) pos::d9)) (SP X pins D) X.xe s:=by
 refine fX (eJ (mf (X:=XS X ea) (Inv.toS a.inv ea) hg hm (dS a kC ?_) gz)) (by intro z;cases z)
 refine codeAny_handlers_suite_as ?_;refine hX (fs:=cc X.stack) a.fly fun h3 f3 z0=>?_;have a3:=oA a cq cM cw f3 z0;obtain⟨MA,Mg,e3,_⟩:=f3.obj;have I4:=lr (a:=ea) (o:=XE z ea C dx) a3.inv ⟨a.oe.hn,a.oe.h0,a.oe.hL,a.oe.hc,a.oe.hp,a.fe⟩ (vM ⟨MA,Mg,e3,fun hz=>f3.cx hz _ _ e3 rfl⟩);have hd:ea≠dx:=fun z=>by
  obtain⟨fs,hf⟩:=a.hd dx rfl;rw [<-z,a.oe.hn]at hf;cases hf
 refine Fn (X:=XS X ea) (v:=.ref ea) (Inv.toS I4 ea) hN hi (.inl hl) rfl (fun s5 I5=>?_) (.inr hl);refine ax (hs ea pins s5 _ _ { nx:=fun _ _=>False,rt:=D.rt } I5 (hE ea a.oe.hn hd)) (fun fl s6 h6=>?_) fun _ _ z=>z.elim;cases fl with
 |ret u =>
  obtain⟨v,σ6,H6,I6,r6,q6⟩:=h6;have I7:Inv X pins σ6 H6 s6:=Inv.ofS a.inv.ok I6;obtain⟨m6,n6,_⟩:=I7.loc;refine wpAny_nameGoes hl n6 (by rw [a.inv.ok.kind];rfl) fun h7 m7 n7 sb7=>?_
  exact⟨v,_,H6,Pn I7 n7 sb7,r6,q6⟩
 |next=>obtain⟨_,_,_,z⟩:=h6;exact z.elim
 |brk=>obtain⟨_,_,_,z⟩:=h6;exact z.elim
 |cont=>obtain⟨_,_,_,z⟩:=h6;exact z.elim
theorem Jq(a:qQ z X pins H s ea T C d)(kC:qX X.K C)(cq:X.stack=X.env::X.outer)(cM:X.env.frame=some X.env.locals)(cw:X.ex=[])(hg:Gl X x)(hm:X.mg x=some (.ref C))
  (hs:∀ ea,PSs (XS X ea) (b0::jH) th)(hE:th { nx:=fun _ _=>False,rt:=D.rt } (EX.blank X) H)(gz:autoParam ((x==("__debug__":Str))=false) aD._auto_1):
  wpAny (model X.prog X.w) X.A (handleBy (.ref ea) X.env (.ExceptHandler (some (.Name x p)) none (b0::jH) pos::d9)) (SP X pins D) X.xe s:=by
 refine fX (eJ (mf (X:=XS X ea) (Inv.toS a.inv ea) hg hm (dS a kC ?_) gz)) (by intro z;cases z)
 refine codeAny_handlers_suite ?_;refine hX (fs:=cc X.stack) a.fly fun h3 f3 z0=>?_;have a3:=oA a cq cM cw f3 z0;refine ax (hs ea pins _ _ _ { nx:=fun _ _=>False,rt:=D.rt } (Inv.toS a3.inv ea) hE) (fun fl s6 h6=>?_) fun _ _ z=>z.elim;cases fl with
 |ret u =>
  obtain⟨v,σ6,H6,I6,r6,q6⟩:=h6;exact⟨v,σ6,H6,Inv.ofS a.inv.ok I6,r6,q6⟩
 |next=>obtain⟨_,_,_,z⟩:=h6;exact z.elim
 |brk=>obtain⟨_,_,_,z⟩:=h6;exact z.elim
 |cont=>obtain⟨_,_,_,z⟩:=h6;exact z.elim
end
theorem wp{z:Bool}{ea T C:Addr}{d:Option Addr}{Q:Flow->Shared->Prop}{g:Sem Flow}(I:Inv X pins σ H s)(cq:X.stack=X.env::X.outer)(cM:X.env.frame=some X.env.locals)(cw:X.ex=[])(oe:lz X pins H ea)(oT:lz X pins H T)(hfe:ea∉cc X.stack)
  (hf:Fly z s.heap ea T C d .none)(hd:∀ dx,d=some dx->∃ fs,H dx=some (.xd fs))
  (h:∀ s3 T1,qQ z X pins H s3 ea T1 C d->wpAny (model X.prog X.w) X.A g Q X.xe s3):
  wpAny (model X.prog X.w) X.A (noteFrame (.ref ea) X.env) (fun _ s2=>wpAny (model X.prog X.w) X.A (setFlight (.ref ea) none) (fun _ s3=>wpAny (model X.prog X.w) X.A g Q X.xe s3) X.xe s2) X.xe s:=by
 have hF:X.A.frames=some (X.env::X.outer):=by rw [<-cq];exact I.ok.frames
 have hL:s.heap.FunFrames X.base (X.env::X.outer):=by rw [<-cq];exact I.stack
 have Ib:=Inv.blank I;refine IL hF hL cM hf fun h1 T1 f1 nT k1=>?_;rw [<-cq]at k1;refine hX (fs:=cc X.stack) (s:={ s with heap:=h1 }) f1 fun h2 f2 k2=>?_
 have Dk:lz X pins H T1:=(kI I cw nT).off;have I2:Inv X pins (EX.blank X) H { s with heap:=h2 }:=rG Ib cq cM cw (k1.trans k2) fun b hb=>by
  rcases dz.mp hb with hb |hb
  ·rcases bw.mp hb with rfl |hb
   ·exact oT
   ·rw [du.mp hb];exact oe
  ·rw [du.mp hb];exact Dk
 exact h _ T1 ⟨I2,f2,oe,Dk,hfe,hd⟩
def Mt(W:dI->XK)(tb:XK->TS):TS:=fun D σ H=>tb (W D) D σ H
theorem yu{z:Bool}{dO:Pos}{h0:ExceptHandler}{hs:List ExceptHandler}{body:List Stmt}{tb:XK->TS}{W:dI->XK}
  (cq:X.stack=X.env::X.outer)(cM:X.env.frame=some X.env.locals)(cw:X.ex=[])
  (hb:∀ (pins:List (Addr×Obj))(E1:Value->Shared->Prop)(Ew:XK),jo (CXQ z X.prog X.w) (XB X pins E1) Ew->PSs (XB X pins E1) body (tb Ew))
  (hh:∀ (pins:List (Addr×Obj))(D:dI)(H:Hp)(s:Shared)(ea T C:Addr)(d:Option Addr),qQ z X pins H s ea T C d->W D (.ref C) d H->wpAny (model X.prog X.w) X.A (handleBy (.ref ea) X.env (h0::hs)) (SP X pins D) X.xe s):
  PS X (.Try body (h0::hs) [] [] dO) (Mt W tb):=by
 intro pins s σ H D I h;have hok:=I.ok;refine wpAny_Try_except ?_;have LL:jo (CXQ z X.prog X.w) (XB X pins fun e s1=>wpAny (model X.prog X.w) X.A (noteFrame e X.env) (fun _ s2=>wpAny (model X.prog X.w) X.A (setFlight e none) (fun _ s3 =>
   wpAny (model X.prog X.w) X.A (handleBy e X.env (h0::hs)) (SP X pins D) X.xe s3) X.xe s2) X.xe s1) (W D):=by
  intro iT σ' H' s' e iw I' q;obtain⟨ea,T,C',d,H2,rfl,h1,h2,h3,h4,h5,h6,h7,h8,h9,ju,lN⟩:=q;have I2:=I'.call' (ch:=[]) h1 h3 h4 h2 (fun b z=>absurd z (by simp))
  have J':Inv X pins σ' H' s':=Inv.ofB hok I';have J2:Inv X pins σ' H2 iw:=Inv.ofB hok I2;have Ne:=kI J' cw h8;have NT:=kI J' cw h9;exact wp J2 cq cM cw ⟨h6,Ne.h0,Ne.hL,Ne.hc,Ne.hp⟩ ⟨h7,NT.h0,NT.hL,NT.hc,NT.hp⟩ Ne.hf h5 ju fun s3 T1 a=>hh pins D H2 s3 ea T1 C' d a lN
 refine ax (hb pins _ _ LL [] s σ H D (Inv.toB I _) h) (fun f s1 q=>?_) fun _ _ z=>z;cases f with
 |next =>
  obtain⟨σ',H',I',q⟩:=q;exact dW ⟨σ',H',Inv.ofB hok I',q⟩
 |ret u =>
  obtain⟨v,σ',H',I',r,q⟩:=q;exact⟨v,σ',H',Inv.ofB hok I',r,q⟩
 |brk =>
  obtain⟨σ',H',I',q⟩:=q;exact⟨σ',H',Inv.ofB hok I',q⟩
 |cont =>
  obtain⟨σ',H',I',q⟩:=q;exact⟨σ',H',Inv.ofB hok I',q⟩
end
end EX
end
section
namespace EX
open PySem PySem.Spec PyProof.Rows L2
open Builtin Builtin.ObjectAttr
open PySem.W (Looks)
structure XG(K:aq)(C:Addr):Prop where
 ga:PySem.W.findIn K (.ref C) "__getattribute__" = some (some (.builtin "BaseException.__getattribute__"))
 gh:PySem.W.findIn K (.ref C) "__getattr__" = some none
 hd:PySem.W.hasDictIn K C=true
 sub:PySem.W.mroIn K C (.type "BaseException")=some true
theorem su:builtinKind "BaseException.__getattribute__" = some .slot:=by decide +kernel
theorem nX:splitId "BaseException.__getattribute__" = some ("BaseException","__getattribute__"):=by decide +kernel
theorem kM:Slot "Exception" "__getattribute__" "BaseException.__getattribute__":=
 .of (owner:="BaseException") (n:="__getattribute__") (by rw [jT,eI];kernel_rfl) (by decide +kernel) (by decide +kernel) (by decide +kernel)
  (by first |exact .inl (by decide +kernel) |exact .inr (by decide +kernel)) (by rw [isSubtype_type];kernel_rfl)
section
variable{X:Cx}{pins:List (Addr×Obj)}{σ:L2.St}{H:Hp}{s:Shared}{ea C dx:Addr}{fs:List (Str×V)}{f:Str}{v:V}{A:Around}{E:Value->Shared->Prop}
theorem ux{b:Bool}{z:Bool}{Q:Value->Shared->Prop}(I:Inv X pins σ H s)(e:H ea=some (XE z ea C dx))(ed:H dx=some (.xd fs))(g:XG X.K C)(n:NoAttr X.K C f)(l:fs.lookup f=some v)
  (h:∀ u s',Inv X pins σ H s'->RelV v u->Q u s'):wpAny (model X.prog X.w) A (getAttr (.ref ea) f b) Q E s:=by
 obtain⟨⟨vs,sl,e1,_⟩,_⟩:=(show ObjOk X.prog X.w H s.heap ea (XE z ea C dx)from I.hok ea _ e);obtain⟨mA,n1,r⟩:=(show ObjOk X.prog X.w H s.heap dx (.xd fs)from I.hok dx _ ed);obtain⟨u,hu,ru⟩:=RelO.some_of (v:=v) (o:=mA f) (by rw [<-l];exact r f)
 obtain⟨od,ho,hl⟩:=OL n1;have J:PySem.W.InstAt s.heap ea (iA C (some dx) vs sl) C (some od):=⟨e1,rfl,rfl,ho⟩;have hf:PySem.W.findObj X.K C (some od) f=some (.value u):=PySem.W.findObj_own g.hd n rfl (by rw [hl,hu])
 have KX:=I.kIn;have hQ:=h u { s with toks:=s.toks+1 } (I.tok _) ru
 obtain⟨hp,gg,d,tk,os⟩:=s;have L0:Looks (model X.prog X.w) hp (typeOf (.ref ea)) (.ref C):=J.type;have L1:Looks (model X.prog X.w) hp (typeLookup (.ref C) "__getattribute__") (some (.builtin "BaseException.__getattribute__")):=G6 KX g.ga;have L2:Looks (model X.prog X.w) hp (typeLookup (.ref C) "__getattr__") none:=G6 KX g.gh;have L3:Looks (model X.prog X.w) hp (find (.ref ea) (.ref C) f) (.value u):=PySem.W.looks_find KX J hf;have L4:Looks (model X.prog X.w) hp (isInstance (.ref ea) (.type "BaseException")) true:=L0.andThen (PySem.W.looks_mroIn KX g.sub);unfold getAttr getAttrBy;refine aa (wpAny_mkText (bx (aa (L0.at (aa (L1.at ?_))))));show wpAny _ _ (getAttrByItsOwn _ _ _ _ _ _) _ _ _;unfold getAttrByItsOwn;refine aa (L2.at (aa (iz (bx ?_))));have hx0:(b&&onTheHeap (Value.builtin "BaseException.__getattribute__"))=false:=by cases b<;>rfl
 unfold callGetattribute;rw [hx0,ac (by decide)]
 unfold boundAndCalled;rw [kM.bind];refine aa (af ?_);refine jJ (codeAny_call_builtin kM.plain PySem.F.entry_bexc_ga (@PySem.W.check_slot (model X.prog X.w) _ _ ⟨hp,gg,d,tk+1,os⟩ "BaseException.__getattribute__" "BaseException" "__getattribute__" (.ref ea) [.str f tk] [] _ su nX L4 (PySem.F.args_bexc_ga _ _) ?_));unfold Builtin.«object.__getattribute__»
 repeat lk
 show wpAny _ _ (handedOut u) _ _ _;rw [PySem.W.handedOut_of (OE ru)];exact af hQ
def RI(K:aq)(ta:TE)(f:Str):TE:=fun σ H Q=>ta σ H fun x H1=>∃ z ea C dx fs v,x=.ref ea/\H1 ea=some (XE z ea C dx)/\H1 dx=some (.xd fs)/\XG K C/\NoAttr K C f/\fs.lookup f=some v/\Q v H1
theorem DB{e:Expr}{pos:Pos}{ta:TE}(he:PE X e ta)(hb:attributeBase e f X.env (eval e X.env)=eval e X.env):PE X (.Attribute e f pos) (RI X.K ta f):=by
 intro pins s σ H Q I h;refine Qa hb (aQ (he pins s σ H _ I h) fun u s1 zz=>?_);obtain⟨x,H1,I1,rx,z,a,C,dx,fs,v,ex,ea,ed,c,n,l,q⟩:=zz;subst ex;obtain rfl:u=Value.ref a:=rx;exact ux I1 ea ed c n l fun u' s2 I2 ru=>⟨v,H1,I2,ru,q⟩
end
section
variable{P:Program}{w:World}{K:aq}{mg:Str->Option Value}{base:Heap}{N ps:List Str}{qual x:Str}{f:Addr}{st:Stmt}{fd:FuncData}{k:Nat}{sp:Sp}
end
section
variable{X:Cx}{k:Nat}{f:Addr}{fd:FuncData}{ps:List Str}{sp:Sp}{x:Str}{p pos:Pos}{e:Expr}{es:List Expr}{t:TA}
end
end EX
end
section
namespace EX
open PySem PySem.Spec PyProof.Rows L2
theorem Z7t{env By:Env}(h:env.frame=By.frame)(e:Value):noteFrame e env=noteFrame e By:=by
 unfold noteFrame PySem.frameOf;rw [h]
theorem Kp.refl(fs ch:List Addr)(h:Heap):Kp fs ch h h:=⟨fun b o e _ _=>e,fun b o e _=>⟨o.slots,e⟩⟩
section
variable{M:Model}{A:Around}{E:Value->Shared->Prop}{s:Shared}
theorem Iv{z:Bool}{base:Heap}{env:Env}{outer:List Env}{L e T C:Addr}{dx:Option Addr}{fl:Value}{Q:Unit->Shared->Prop}
  (cM:A.frames=some (env::outer))(hl:s.heap.FunFrames base (env::outer))(hf:env.frame=some L)(he:Fly z s.heap e T C dx fl)
  (h:∀ h' T',Fly z h' e T' C dx (rawInt L)->(T'=T\/s.heap.get? T'=none)->Kp (cc (env::outer)) [T,e] s.heap h'->Q () { s with heap:=h' }):wpAny M A (noteFrame (.ref e) env) Q E s:=by
 by_cases Ca:(fl==rawInt L)=true
 ·have hfl':=Ca;obtain⟨⟨vs,sl,e1,e2⟩,⟨oT,ts,t1,t2,t3⟩,ne⟩:=id he;have q:fl=rawInt L:=eq_of_beq Ca;subst q;unfold noteFrame;rw [hf];refine aa (aN e1 rfl e2 ?_);rw [ae (show(Value.ref T != Value.none)=true by simp)]
  refine aa (aN t1 t2 t3 ?_);rw [ae Ca];exact af (h s.heap T he (.inl rfl) (Kp.refl _ _ _))
 ·obtain⟨⟨vs,sl,e1,e2⟩,⟨oT,ts,t1,t2,t3⟩,ne,cx⟩:=he;unfold noteFrame;rw [hf];refine aa (aN e1 rfl e2 ?_);rw [ae (show(Value.ref T != Value.none)=true by simp)]
  refine aa (aN t1 t2 t3 ?_);rw [ac Ca];refine aa (bK t1 t2 (qw.mp t3).1 ?_);have fh:∀ b,b≠T->(s.heap.update T (Obj.mapFields (·.setIfInBounds 3 Value.none))).get? b=s.heap.get? b:=fun b hb=>j0 _ _ (Ne.symm hb);have nr:∀ b o,s.heap.get? b=some o->(∀ vs,o.data≠.fields vs)->b≠T:=fun b o hb hn q=>by
   rw [q,t1]at hb;cases hb;exact hn ts t2
  refine IM cM (hl.of_keeps fun b o hb hn=>⟨o,(fh b (nr b o hb hn)).trans hb,rfl⟩) hf ((fh e ne.symm).trans e1) (qw.mp e2).1 (fun hz=>cx hz _ _ e1 rfl) fun h' T' f n k=>h h' T' f ?_ ⟨fun b o q n1 n2=>?_,fun b o q n1=>?_⟩
  ·by_cases z:T'=T
   ·exact .inl z
   ·right;rw [<-fh T' z];exact n
  ·simp only [bw,ik,or_false,b9]at n1;exact k.keep b o ((fh b n1.1).trans q) (by simpa using n1.2) n2
  ·simp only [bw,ik,or_false,b9]at n1;exact k.slot b o ((fh b n1.1).trans q) (by simpa using n1.2)
end
section
variable{X:Cx}{pins:List (Addr×Obj)}{σ:L2.St}{H:Hp}{s:Shared}{E':Value->Shared->Prop}{E:XK}
theorem OV{z:Bool}{ea T C:Addr}{dx:Option Addr}{fl:Value}(I:Inv X pins σ H s)(cq:X.stack=X.env::X.outer)(cM:X.env.frame=some X.env.locals)(cw:X.ex=[])(hf:Fly z s.heap ea T C dx fl)
  (h1:H ea=none/\X.s_0.heap.get? ea=none)(hT:H T=none/\X.s_0.heap.get? T=none)
  (hd:∀ eO,dx=some eO->∃ fs,H eO=some (.xd fs))(hE:E (.ref C) dx H):wpAny (model X.prog X.w) X.A (leaving X.env (.ref ea)) (fun _ s'=>CXQ z X.prog X.w X.outer X.H_0 X.s_0 E (.ref ea) s') E' s:=by
 have hF:X.A.frames=some (X.env::X.outer):=by rw [<-cq];exact I.ok.frames
 have hL:s.heap.FunFrames X.base (X.env::X.outer):=by rw [<-cq];exact I.stack
 unfold leaving;refine aa (Iv hF hL cM hf fun FT T' f n k=>?_);have nT:H T'=none/\X.s_0.heap.get? T'=none:=by
  rcases n with rfl |n
  ·exact hT
  ·exact gB I cw n
 have k':Kp (cc X.stack) [T,ea] s.heap FT:=by rw [cq];exact k
 refine hX (fs:=cc X.stack) (s:={ s with heap:=FT }) f fun h2 f2 k2=>?_
 have k3:=k'.trans k2;have kQ:∀ b∈[T,ea]++[T'],H b=none/\X.s_0.heap.get? b=none:=fun b hb=>by
  simp only [E6,AF,bw,ik,or_false]at hb;rcases hb with rfl |rfl |rfl
  ·exact hT
  ·exact h1
  ·exact nT
 exact⟨ea,T',C,dx,H,rfl,I.os,I.bare,qp I cq cM cw k3 fun b hb=>(kQ b hb).2,FH I k3 fun b hb=>(kQ b hb).1,f2,h1.1,nT.1,h1.2,nT.2,hd,hE⟩
theorem rP{z:Bool}{H3:Hp}{s3:Shared}{scope:Scope}{ce:Env}{fp:List Addr}{use:Option (Value->Sem Unit)}{Qf:Value->Shared->Prop}{acc:Value}(I3:Inv X pins σ H3 s3)(cq:X.stack=X.env::X.outer)(cM:X.env.frame=some X.env.locals)(cw:X.ex=[])
  (xq:∀ e s',wpAny (model X.prog X.w) X.A (leaving X.env e) (fun _ iw=>CXQ z X.prog X.w X.outer X.H_0 X.s_0 E e iw) (fun e' iw=>CXQ z X.prog X.w X.outer X.H_0 X.s_0 E e' iw) s'->X.xe e s')
  (f3:∀ b∈fp,eN X pins H3 b/\b<s3.heap.objs.size)(zO:ce.frame=X.env.frame)(cL:ce.locals=s3.heap.objs.size):
  jo (CXQ z X.prog X.w) ((X.blk s3 H3 scope ce fp).wish (notedBy (model X.prog X.w) X.A ce fun e s'=>compPost (model X.prog X.w) X.A X.xe use Qf acc s3.heap.objs.size (.error e) s')) E:=by
 intro iT σ' H5 s5 e s6 I5 Kf;obtain⟨ea,T,C,dx,H',rfl,h1,h2,h3,h4,h5,h6,h7,h8,h9,ju,lN⟩:=Kf;have I6:=I5.call' (ch:=[]) h1 h3 h4 h2 (fun b z=>absurd z (by simp))
 show wpAny (model X.prog X.w) X.A (noteFrame (.ref ea) ce) _ _ s6;rw [Z7t zO];have hF:X.A.frames=some (X.env::X.outer):=by rw [<-cq];exact I3.ok.frames
 have hL:s6.heap.FunFrames X.base (X.env::X.outer):=by
  have z:s6.heap.FunFrames X.base X.stack:=I6.stack;rw [<-cq];exact z
 have vL:Un (cc X.stack) fp H3 H' s3.heap s6.heap:=I6.base;refine Iv hF hL cM h5 fun QC T7 f7 n7 k7=>?_;have k7:Kp (cc X.stack) [T,ea] s6.heap QC:=by rw [cq];exact k7
 obtain⟨m,hn,_⟩:=I6.loc;have hn:s6.heap.Ns ce.locals m:=hn;rw [cL]at hn;have hnC:=hn;obtain⟨oC,es,ep,eC,dC,rC⟩:=hnC;have Dh:∀ {b:Addr},s6.heap.get? b=none->b∉fp->s3.heap.get? b=none:=fun{b} n hb=>by
  cases w:s3.heap.get? b with
  |none=>rfl
  |some o =>
   obtain⟨q,z⟩:=vL.there b o w hb;rw [n]at z;cases z
 have kY:∀ {b:Addr},s5.heap.get? b=none->b∉fp->s3.heap.get? b=none:=fun{b} n hb=>by
  cases w:s3.heap.get? b with
  |none=>rfl
  |some o =>
   obtain⟨q,z⟩:=I5.base.there b o w hb;rw [n]at z;cases z
 have vm:∀ {b:Addr},(b∉fp->s3.heap.get? b=none)->X.s_0.heap.get? b=none:=fun{b} n=>by
  by_cases hb:b∈fp
  ·rcases(f3 b hb).1.2.2.2.1 with z |z
   ·rw [cw]at z;cases z
   ·exact AN z
  ·exact(gB I3 cw (n hb)).2
 have nCf:s3.heap.objs.size∉cc X.stack:=fun z=>by
  have zl:s3.heap.FunFrames X.base X.stack:=I3.stack;obtain⟨_,o,ho,_⟩:=zl.mem z;exact absurd (cz ho) (il _)
 have Ls:s3.heap.objs.size≠ea:=fun z=>by
  obtain⟨⟨vs,sl,e1,e2⟩,_⟩:=h5;rw [z,e1]at eC;cases eC;cases dC
 have nCT:s3.heap.objs.size≠T:=fun z=>by
  obtain⟨_,⟨oT,ts,t1,t2,t3⟩,_⟩:=h5;rw [z,t1]at eC;cases eC;rw [t2]at dC;cases dC
 have JI:QC.get? s3.heap.objs.size=some oC:=k7.keep _ _ eC (by simp only [bw,ik,or_false,b9];exact⟨nCT,Ls⟩) nCf
 have QF:H' T7=none:=by
  rcases n7 with rfl |n7
  ·exact h7
  ·cases w:H' T7 with
   |none=>rfl
   |some o =>
    obtain⟨q,z⟩:=oO (I6.hok T7 o w);rw [n7]at z;cases z
 refine⟨m,⟨oC,es,ep,JI,dC,rC⟩,fun h' sb cj _=>?_⟩;obtain⟨⟨vs,sl,e1,e2⟩,⟨oT,ts,t1,t2,t3⟩,ne,cx7⟩:=id f7;have Lr:s3.heap.objs.size≠T7:=fun z=>by
  rw [z,t1]at JI;cases JI;rw [t2]at dC;cases dC
 have Bw:h'.get? ea=some (iA C dx vs sl):=(sb.2 ea (Ne.symm Ls)).trans e1;have RH:h'.get? T7=some oT:=(sb.2 T7 (Ne.symm Lr)).trans t1;have hsz:=(qw.mp t3).1;unfold PySem.passOn setFlight;refine aa (aN Bw rfl e2 ?_);rw [ac (show ¬ ((Value.ref T7==Value.none)=true) by simp)]
 refine aa (aa (aN Bw rfl e2 ?_));rw [ae (show(Value.ref T7 != Value.none)=true by simp)]
 refine bK RH t2 hsz ?_;refine lW (xq _ _ ?_);generalize Ca:(cj.frame.elim Value.none fun f=>rawInt f)=fl;have fh:∀ b,b≠T7->(h'.update T7 (Obj.mapFields (·.setIfInBounds 3 fl))).get? b=h'.get? b:=fun b hb=>j0 _ _ (Ne.symm hb);have f8:Fly z (h'.update T7 (Obj.mapFields (·.setIfInBounds 3 fl))) ea T7 C dx fl:=⟨⟨vs,sl,(fh ea ne.symm).trans Bw,e2⟩,⟨_,_,lY _ RH (Obj.isFreed_of_fields (Obj.data_mapFields t2 _)),Obj.data_mapFields t2 _,by simp [hsz]⟩,ne,fun hz o vs q=>cx7 hz o vs (((fh ea ne.symm).trans (sb.2 ea (Ne.symm Ls))).symm.trans q)⟩
 have k8:Kp (cc X.stack) [T,ea,s3.heap.objs.size,T7] s6.heap (h'.update T7 (Obj.mapFields (·.setIfInBounds 3 fl))):=by
  refine⟨fun b o q n1 n2=>?_,fun b o q n1=>?_⟩
  ·simp only [bw,ik,or_false,b9]at n1;rw [fh b n1.2.2.2,sb.2 b n1.2.2.1];exact k7.keep b o q (by simp only [bw,ik,or_false,b9];exact⟨n1.1,n1.2.1⟩) n2
  ·simp only [bw,ik,or_false,b9]at n1;rw [fh b n1.2.2.2,sb.2 b n1.2.2.1];exact k7.slot b o q (by simp only [bw,ik,or_false,b9];exact⟨n1.1,n1.2.1⟩)
 have freeC:H' s3.heap.objs.size=none:=by
  have z:H' ce.locals=none:=I6.free;rw [cL]at z;exact z
 have kR:∀ b∈[T,ea,s3.heap.objs.size,T7],H' b=none/\(b∉fp->s3.heap.get? b=none):=fun b hb=>by
  simp only [bw,ik,or_false]at hb;rcases hb with rfl |rfl |rfl |rfl
  ·exact⟨h7,kY h9⟩
  ·exact⟨h6,kY h8⟩
  ·exact⟨freeC,fun _=>AN (bO _)⟩
  ·refine⟨QF,fun hb=>?_⟩;rcases n7 with rfl |n7
   ·exact kY h9 hb
   ·exact Dh n7 hb
 have un8:Un (cc X.stack) fp H3 H' s3.heap (h'.update T7 (Obj.mapFields (·.setIfInBounds 3 fl))):=by
  have lT:∀ b o,s3.heap.get? b=some o->b∉fp->b∉[T,ea,s3.heap.objs.size,T7]:=fun b o q hb z=>by
   rw [(kR b z).2 hb]at q;cases q
  refine⟨fun b o q n hb hx=>k8.keep b o (vL.keep b o q n hb hx) (lT b o q hx) hb,fun b o q n hb hx=>?_,vL.free,fun b o q hx=>?_,vL.tups,vL.frzs,vL.tbls⟩
  ·obtain⟨tZ,e'⟩:=vL.slot b o q n hb hx;obtain⟨qP,Bx⟩:=k8.slot b _ e' (lT b o q hx);exact⟨qP,Bx⟩
  ·obtain⟨o',e'⟩:=vL.there b o q hx;obtain⟨qP,Bx⟩:=k8.slot b _ e' (lT b o q hx);exact⟨_,Bx⟩
 have KM:HOk X.prog X.w H' (h'.update T7 (Obj.mapFields (·.setIfInBounds 3 fl))):=FH (X:=(X.blk s3 H3 scope ce fp).wish _) I6 k8 fun b hb=>(kR b hb).1;have I8:Inv X pins σ H' { s6 with heap:=h'.update T7 (Obj.mapFields (·.setIfInBounds 3 fl)) }:=
  I3.call' (ch:=fp) I6.os un8 KM I6.bare fun b hb=>⟨(f3 b hb).1.2.2.2.1,(f3 b hb).1.2.1,(f3 b hb).1.2.2.2.2.1,(f3 b hb).1.2.2.2.2.2⟩
 exact OV I8 cq cM cw f8 ⟨h6,vm (kY h8)⟩ ⟨QF,vm (kR T7 (by simp)).2⟩ ju lN
end
theorem Z8B:entryFor table "proto.unchain" = some Builtin.«proto.unchain»:=entryFor_of_tree (by kernel_rfl)
abbrev BM(t ea:Addr):Array Value:=#[.ref t,.none,.ref ea,.ref ea,.bool true,.none]
section
variable{P:Program}{w:World}{A:Around}{E:Value->Shared->Prop}{env:Env}{C ea:Addr}
theorem ZaK{s:Shared}{x c:Sem Value}{Q:Flow->Shared->Prop}(hh:A.handled=some (.ref ea))
  (h:wpAny (model P w) A x (fun v s1=>∃ e d t,v=.ref e/\wpAny (model P w) A c (fun cv s2=>cv=.ref ea/\e≠ea/\(∃ nm q N bs gb sn sub ab col dd k0 k1 k2 k3 k5 c9,s2.heap.get? C=some (excClassObj nm q C N bs iG gb sn sub ab col dd k0 k1 k2 k3 k5 c9)) /\
    s2.heap.get? e=some (iA C d (wa t) #[])/\C≠e/\(∃ vs sl dd,s2.heap.get? ea=some (iA C dd vs sl)/\vs[2]?=some .none) /\
    ∀ h',h'.get? e=some (iA C d (BM t ea) #[])->(∀ b,b≠e->h'.get? b=s2.heap.get? b)->E (.ref e) { s2 with heap:=h' }) E s1) E s):wpAny (model P w) A (raiseStmt env (some x) (some c)) Q E s:=by
 have BZ:(Value.ref C::iG).contains (.type "BaseException")=true:=by rw [E7,show iG.contains (.type "BaseException")=true by decide,Bool.or_true]
 unfold raiseStmt;refine aa (ax h (fun v s1 h1=>?_) fun _ _ x=>x);obtain⟨e,d',t,rfl,h1⟩:=h1;refine aa (bx (ax h1 (fun cv s2 h2=>aa (af ?_)) fun _ _ x=>x));obtain⟨rfl,ne,⟨nm,q,N,bs,gb,sn,sub,ab,col,dd,k0,k1,k2,k3,k5,c9,hC⟩,he,xR,⟨vs,sl,mh,ha,ha2⟩,hE⟩:=h2;obtain⟨hp,g,d,tk,os⟩:=s2
 repeat (first |with_reducible refine a9 he ?_ |with_reducible refine a9 ha ?_ |with_reducible refine a9 hC ?_ |(with_reducible refine fY hC ?_;rw [BZ]) |wp_step)
 have e1:(hp.update e (Obj.mapFields fun x=>x.setIfInBounds 3 (Value.ref ea))).get? e=some (iA C d' #[.ref t,.none,.none,.ref ea,.bool false,.none] #[]):=lY _ he rfl;have e2:((hp.update e (Obj.mapFields fun x=>x.setIfInBounds 3 (Value.ref ea))).update e (Obj.mapFields fun x=>x.setIfInBounds 4 (Value.bool true))).get? e=some (iA C d' #[.ref t,.none,.none,.ref ea,.bool true,.none] #[]):=lY _ e1 rfl;have fh:∀ b,b≠e->((hp.update e (Obj.mapFields fun x=>x.setIfInBounds 3 (Value.ref ea))).update e (Obj.mapFields fun x=>x.setIfInBounds 4 (Value.bool true))).get? b=hp.get? b:=fun b hb=>(j0 _ _ (Ne.symm hb)).trans (j0 _ _ (Ne.symm hb));generalize (hp.update e (Obj.mapFields fun x=>x.setIfInBounds 3 (Value.ref ea))).update e (Obj.mapFields fun x=>x.setIfInBounds 4 (Value.bool true))=h2 at e2 fh ⊢;have ha':h2.get? ea=some (iA C mh vs sl):=(fh ea ne.symm).trans ha;unfold raiseNew;refine aa (wpAny_handled ?_);rw [hh];have bV:(Value.ref ea != Value.ref e)=true:=by
  simp only [gU,F6,Value.ref.injEq];exact ne.symm
 dsimp only;rw [ae bV];refine aa (bx (runValue_entry Z8B ?_));unfold Builtin.«proto.unchain»;dsimp only;refine aa (aN ha' rfl ha2 ?_);rw [ae (by rfl)]
 refine af ⟨_,rfl,?_⟩;refine aa (bK (i:=2) (x:=.ref ea) e2 rfl (by show 2<6;decide) (lW ?_))
 exact hE _ (lY _ e2 rfl) fun b hb=>(j0 _ _ (Ne.symm hb)).trans (fh b hb)
end
def PN(X:Cx)(E:XK):Prop:=∀ (pins:List (Addr×Obj))(σ:L2.St)(H:Hp)(s:Shared)(ea T C:Addr)(d:Option Addr)(fl:Value),Inv X pins σ H s->Fly false s.heap ea T C d fl->(H ea=none/\X.s_0.heap.get? ea=none)->(H T=none/\X.s_0.heap.get? T=none) ->
 (∀ dx,d=some dx->∃ fs,H dx=some (.xd fs))->E (.ref C) d H->X.xe (.ref ea) s
section
variable{P:Program}{w:World}{K:aq}{mg:Str->Option Value}{base:Heap}{N:List Str}{qual:Str}{scope:Scope}{f:Addr}{cd:Value}{A:Around}{outer:List Env}{s0:Shared}{H0:Hp}{E:XK}
theorem ZaR:PN (uW false P w K mg base N qual scope f cd A outer s0 H0 E) E:=by
 intro pins σ H s ea T C d fl I hf h1 h2 hd hE;exact OV I rfl rfl rfl hf h1 h2 hd hE
end
section
variable{M:Model}{A:Around}{E:Value->Shared->Prop}{s:Shared}
theorem O3{z:Bool}{fs:List Addr}{e T C:Addr}{dx:Option Addr}{fl:Value}{fr:Option Addr}{Q:Unit->Shared->Prop}(he:Fly z s.heap e T C dx fl)
  (h:∀ h' fl',Fly z h' e T C dx fl'->Kp fs [T] s.heap h'->Q () { s with heap:=h' }):wpAny M A (setFlight (.ref e) fr) Q E s:=by
 obtain⟨⟨vs,sl,e1,e2⟩,⟨oT,ts,t1,t2,t3⟩,ne,cx⟩:=he;have sz:=(qw.mp t3).1;have fh:∀ v b,b≠T->(s.heap.update T (Obj.mapFields (·.setIfInBounds 3 v))).get? b=s.heap.get? b:=fun v b hb=>j0 _ _ (Ne.symm hb);unfold setFlight;refine aa (aN e1 rfl e2 ?_);rw [ae (show(Value.ref T != Value.none)=true by simp)]
 refine bK t1 t2 sz (h _ _ ⟨⟨vs,sl,(fh _ e ne.symm).trans e1,e2⟩,⟨_,_,lY _ t1 (Obj.isFreed_of_fields (Obj.data_mapFields t2 _)),Obj.data_mapFields t2 _,by simp [sz];rfl⟩,ne,fun hz o vs q=>cx hz o vs ((fh _ e ne.symm).symm.trans q)⟩ ⟨?_,?_⟩)
 ·exact fun b o q n1 _=>(fh _ b fun z=>n1 (by rw [z];exact du.mpr rfl)).trans q
 ·exact fun b o q n1=>⟨o.slots,(fh _ b fun z=>n1 (by rw [z];exact du.mpr rfl)).trans q⟩
theorem EC{z:Bool}{e T C:Addr}{dx:Option Addr}{fl:Value}{Q:Value->Shared->Prop}(he:Fly z s.heap e T C dx fl)(h:Q (.ref T) s):wpAny M A (field (.ref e) 1) Q E s:=by
 obtain⟨⟨vs,sl,e1,e2⟩,_⟩:=he;exact aN e1 rfl e2 h
theorem Fly.same{z:Bool}{L:Addr}{h h':Heap}{e T C:Addr}{dx:Option Addr}{fl:Value}(he:Fly z h e T C dx fl)(sb:Heap.SameBut L h h')(n1:e≠L)(n2:T≠L):Fly z h' e T C dx fl:=by
 obtain⟨⟨vs,sl,e1,e2⟩,⟨oT,ts,t1,t2,t3⟩,ne,cx⟩:=he;exact⟨⟨vs,sl,(sb.2 e n1).trans e1,e2⟩,⟨oT,ts,(sb.2 T n2).trans t1,t2,t3⟩,ne,fun hz o vs q=>cx hz o vs ((sb.2 e n1).symm.trans q)⟩
end
structure AtS(z:Bool)(X:Cx)(pins:List (Addr×Obj))(σ:L2.St)(H:Hp)(s:Shared)(ea T C:Addr)(d:Option Addr):Prop where
 inv:Inv X pins σ H s
 fly:Fly z s.heap ea T C d .none
 oe:lz X pins H ea
 oT:lz X pins H T
 fe:ea∉cc X.stack
 hd:∀ dx,d=some dx->∃ fs,H dx=some (.xd fs)
theorem AtS.toH{z:Bool}{X:Cx}{pins:List (Addr×Obj)}{σ:L2.St}{H:Hp}{s:Shared}{ea T C:Addr}{d:Option Addr}(a:AtS z X pins σ H s ea T C d):qQ z X pins H s ea T C d:=⟨Inv.blank a.inv,a.fly,a.oe,a.oT,a.fe,a.hd⟩
section
variable{X:Cx}{pins:List (Addr×Obj)}{σ:L2.St}{H:Hp}{s:Shared}{C ea T i dx fI:Addr}{n x f1 f2 f3:Str}{d3:Int}{p p1 p2 pos bt LZ:Pos}{d9:List ExceptHandler}{D:dI}
theorem wP{a1:Expr}{as:List Expr}{ta:TA}{E:XK}(a:AtS true X pins σ H s ea T C (some dx))(TI:jm X.K C fI f1 f2 f3 d3)(cq:X.stack=X.env::X.outer)(cM:X.env.frame=some X.env.locals)(cw:X.ex=[])(gO:X.A.depth+1<recursionLimit)
  (hg:Gl X x)(hm:X.mg x=some (.ref C))(hN:X.N.Nodup)(hi:X.N[i]?=some n)(hl:X.env.scope.names.lookup n=some .local)(hx:PN X E)
  (ha:∀ ea,PA (XS X ea) (a1::as) ta)(hE:∀ ea,H ea=none->ea≠dx->ta (σ.set i (some (.ref ea))) (upd H ea (XE true ea C dx)) fun vs H1=>H1 ea=some (XE true ea C dx) /\
    ∃ v1 v2 v3,vN d3 vs v1 v2 v3/\∀ fb,H1 fb=none->E (.ref C) (some fb) (upd H1 fb (.xd [(f3,v3),(f2,v2),(f1,v1)])))(gz:autoParam ((x==("__debug__":Str))=false) aD._auto_1)(wU:autoParam ((n==("__debug__":Str))=false) aD._auto_1)(hcn:autoParam ((n==("__classdict__":Str))=false) aD._auto_1)
  (he:autoParam (starEach (a1::as) X.env=(false,eval a1 X.env)::starEach as X.env) aR._auto_1)(ja:autoParam ((backTo bt (starEach as X.env)).any (·.1)=false) aR._auto_1):
  wpAny (model X.prog X.w) X.A (handleBy (.ref ea) X.env (.ExceptHandler (some (.Name x p)) (some n) [.Raise (some (.Call (.Name x p1) (a1::as) [] bt)) (some (.Name n p2)) LZ] pos::d9)) (SP X pins D) X.xe s:=by
 refine fX (eJ (mf (X:=XS X ea) (Inv.toS a.inv ea) hg hm (dS a.toH TI.c.k1 ?_) gz)) (by intro z;cases z)
 refine codeAny_handlers_suite_as ?_;refine hX (fs:=cc X.stack) a.fly fun h3 Qu z0=>?_;have a3:Inv X pins σ H { s with heap:=h3 }:=rG a.inv cq cM cw z0 (fun b hb=>by rw [du.mp hb];exact a.oT)
 obtain⟨MA,Mg,e3,_⟩:=Qu.obj;have I4:=lr (a:=ea) (o:=XE true ea C dx) a3 ⟨a.oe.hn,a.oe.h0,a.oe.hL,a.oe.hc,a.oe.hp,a.fe⟩ (vM ⟨MA,Mg,e3,fun hz=>Qu.cx hz _ _ e3 rfl⟩);have hd:ea≠dx:=fun z=>by
  obtain⟨fs,hf⟩:=a.hd dx rfl;rw [<-z,a.oe.hn]at hf;cases hf
 have QO:i<σ.length:=by rw [a.inv.len];exact(eg.mp hi).1
 refine Fn (X:=XS X ea) (v:=.ref ea) (Inv.toS I4 ea) hN hi (.inl hl) rfl (fun s5 I5=>?_) (.inr hl);refine cJ ?_;rw [arm_exec_Raise];refine aa (bp (ZaK (C:=C) (ea:=ea) rfl ?_));have key:wpAny (model X.prog X.w) (XS X ea).A (eval (.Call (.Name x p1) (a1::as) [] bt) X.env) (fun v s1=>∃ e2 fb t H2,v=.ref e2/\Inv (XS X ea) pins (σ.set i (some (.ref ea))) H2 s1/\s1.heap.get? e2=some (iA C (some fb) (wa t) #[])/\New (XS X ea) pins H2 e2 /\
   H2 ea=some (XE true ea C dx)/\(∃ fs,H2 fb=some (.xd fs))/\E (.ref C) (some fb) H2) (fun _ _=>False) s5:=by
  refine aT (mf I5 hg hm ?_ gz);refine vV (h₀:=X.base) I5.ok.mod.kin TI.c.kp (aQ (ha ea bt pins s5 _ _ _ I5 (hE ea a.oe.hn hd)) fun us s1 ⟨vs,H1,I1,r,wV,v1,v2,v3,hv,q⟩=>⟨I1.kIn,?_⟩) he ja;refine Pd I1.kIn I1.nolimit TI gO hv r fun h' e fb t tk u1 u2 u3 r1 r2 r3 b1 b2 b3 b4 b5 b6=>⟨e,fb,t,upd H1 fb (.xd [(f3,v3),(f2,v2),(f1,v1)]),rfl,?_⟩;have Ne:=kI I1 cw b3;have Nd:=kI I1 cw b4;have I2:Inv (XS X ea) pins _ H1 { s1 with heap:=h',toks:=tk }:=I1.kept b6
  have I3:=lr (o:=.xd [(f3,v3),(f2,v2),(f1,v1)]) I2 Nd ⟨_,b2,fun f=>PY r1 r2 r3 f⟩;refine⟨I3,b1,⟨by rw [aj b5.symm];exact Ne.hn,Ne.h0,Ne.hL,Ne.hc,Ne.hp,Ne.hf⟩,?_,⟨_,Z2j⟩,q fb Nd.hn⟩
  rw [aj fun z=>?_]
  ·exact wV
  ·rw [z,Nd.hn]at wV;cases wV
 refine aa (ax key (fun v s1 h1=>aa (bp (af ?_))) fun _ _ z=>z.elim);obtain⟨e2,fb,t,H2,rfl,I2,b1,Ne,wV,sH,hq⟩:=h1;refine⟨e2,some fb,t,rfl,?_⟩;have ld:∀ {E':Value->Shared->Prop}{Q:Value->Shared->Prop},Q (.ref ea) s1->wpAny (model X.prog X.w) (XS X ea).A (eval (.Name n p2) X.env) Q E' s1:=fun{E' Q} hQ=>by
  obtain⟨m,hn,QR⟩:=I2.loc;obtain⟨u,r,l⟩:=QR i n (.ref ea) hi (by rw [AO QO]) (.inl hl)
  obtain rfl:u=.ref ea:=r;rcases l with⟨hk,hmm⟩ |⟨hk,c,hc,hcell⟩
  ·exact cp (aY I2.ok.kind hk hn hmm hQ) wU
  ·rcases hk with hk |hk
   ·exact cp (wpAny_loadName_cell I2.ok.kind hk hc hcell hQ) wU
   ·exact cp (wpAny_loadName_free I2.ok.kind hk hc hcell hQ hcn) wU
 have F7:e2≠ea:=fun z=>by
  rw [<-z,Ne.hn]at wV;cases wV
 obtain⟨⟨EI,qP,ea1,ea2⟩,_⟩:=(show ObjOk X.prog X.w H2 s1.heap ea (XE true ea C dx)from I2.hok ea _ wV);have cls:∃ nm q N bs gb sn sub ab col dd k0 k1 k2 k3 k5 c9,s1.heap.get? C=some (excClassObj nm q C N bs iG gb sn sub ab col dd k0 k1 k2 k3 k5 c9):=by
  obtain⟨nm,q,N,bs,sn,sub,ab,col,dd,k0,k1,k2,k3,k5,m,c1,_⟩:=TI.c.at I2.kIn;exact⟨nm,q,N,bs,true,sn,sub,ab,col,dd,k0,k1,k2,k3,k5,_,c1⟩
 have xR:C≠e2:=fun z=>by
  obtain⟨nm,q,N,bs,gb,sn,sub,ab,col,dd,k0,k1,k2,k3,k5,c9,hC⟩:=cls;rw [z,b1]at hC;cases hC
 refine aa (ld (aa (bp (af ⟨rfl,F7,cls,b1,xR,⟨EI,qP,_,ea1,ea2 rfl⟩,fun h' q1 q2=>?_⟩))));have k6:Kp (cc X.stack) [e2] s1.heap h':=⟨fun b o q n1 _=>(q2 b fun z=>n1 (by rw [z];exact du.mpr rfl)).trans q,fun b o q n1=>⟨o.slots,(q2 b fun z=>n1 (by rw [z];exact du.mpr rfl)).trans q⟩⟩
 have Oe:lz (XS X ea) pins H2 e2:=Ne.off;have I6:Inv (XS X ea) pins (σ.set i (some (.ref ea))) H2 { s1 with heap:=h' }:=rG I2 cq cM cw k6 fun b hb=>by rw [du.mp hb];exact Oe
 have hF:(X.A.mark (some (.ref ea))).frames=some (X.env::X.outer):=by rw [<-cq];exact I6.ok.frames
 have hL6:h'.FunFrames X.base (X.env::X.outer):=by rw [<-cq];exact I6.stack
 refine Oc (z:=false) (s:={ s1 with heap:=h' }) hF hL6 cM ⟨_,_,q1,rfl,fun z=>by cases z⟩ fun h7 T7 f7 n7 k7=>?_
 have k7:Kp (cc X.stack) [e2] h' h7:=by rw [cq];exact k7
 have I7:Inv (XS X ea) pins (σ.set i (some (.ref ea))) H2 { s1 with heap:=h7 }:=rG (s:={ s1 with heap:=h' }) I6 cq cM cw k7 fun b hb=>by rw [du.mp hb];exact Oe
 have N7:=kI I6 cw n7;obtain⟨m7,hn7,_⟩:=I7.loc;refine wpAny_nameGoes hl hn7 (by rw [a.inv.ok.kind];rfl) fun h8 m8 n8 RA=>?_
 have I8:Inv (XS X ea) pins (EX.blank (XS X ea)) H2 { s1 with heap:=h8,toks:=s1.toks+1 }:=Pn (s:={ s1 with heap:=h7 }) I7 n8 RA
 have f8:Fly false h8 e2 T7 C (some fb) (rawInt X.env.locals):=f7.same RA Ne.hL N7.hL;unfold PySem.passOn;refine aa (EC (s:={ s1 with heap:=h8,toks:=s1.toks+1 }) f8 ?_)
 rw [ac (show ¬ ((Value.ref T7==Value.none)=true) by simp)]
 refine aa (O3 (fs:=cc X.stack) (s:={ s1 with heap:=h8,toks:=s1.toks+1 }) f8 fun h9 fl9 f9 k9=>lW ?_)
 have I9:Inv (XS X ea) pins (EX.blank (XS X ea)) H2 { s1 with heap:=h9,toks:=s1.toks+1 }:=rG (s:={ s1 with heap:=h8,toks:=s1.toks+1 }) I8 cq cM cw k9 fun b hb=>by rw [du.mp hb];exact N7.off
 have hL9:h9.FunFrames X.base (X.env::X.outer):=by rw [<-cq];exact I9.stack
 refine Iv (s:={ s1 with heap:=h9,toks:=s1.toks+1 }) hF hL9 cM f9 fun ju GO Qs Aa Le=>?_
 have Le:Kp (cc X.stack) [T7,e2] h9 ju:=by rw [cq];exact Le
 have GK:lz (XS X ea) pins H2 GO:=by
  rcases Aa with rfl |Aa
  ·exact N7.off
  ·exact(kI I9 cw Aa).off
 have Ap:Inv (XS X ea) pins (EX.blank (XS X ea)) H2 { s1 with heap:=ju,toks:=s1.toks+1 }:=rG (s:={ s1 with heap:=h9,toks:=s1.toks+1 }) I9 cq cM cw Le fun b hb=>by
  rcases bw.mp hb with rfl |hb
  ·exact N7.off
  ·rw [du.mp hb];exact Oe
 show cameBackBy _ _ _ _ _ _;unfold cameBackBy;refine aa (EC (s:={ s1 with heap:=ju,toks:=s1.toks+1 }) Qs ?_)
 rw [ac (show ¬ ((Value.ref GO==Value.none)=true) by simp)]
 refine O3 (fs:=cc X.stack) (s:={ s1 with heap:=ju,toks:=s1.toks+1 }) Qs fun lN JP f11 k11=>?_
 have Aq:Inv (XS X ea) pins (EX.blank (XS X ea)) H2 { s1 with heap:=lN,toks:=s1.toks+1 }:=rG (s:={ s1 with heap:=ju,toks:=s1.toks+1 }) Ap cq cM cw k11 fun b hb=>by rw [du.mp hb];exact GK
 exact hx pins _ H2 _ e2 GO C (some fb) JP (Inv.ofS a.inv.ok Aq) f11 ⟨Ne.hn,Ne.h0⟩ ⟨GK.hn,GK.h0⟩ (fun eO z=>by cases z;exact sH) hq
def EA(sp:Sp)(W:dI->L2.St->XK)(t:TA):TS:=fun D σ H=>t σ H fun vs H1=>sp vs H1 D.rt (W D σ)
theorem tN{z:Bool}{k:Nat}{f:Addr}{fd:FuncData}{ps:List Str}{sp:Sp}{y:Str}{q1 q2 q3 dO:Pos}{e:Expr}{es:List Expr}{t:TA}{h0:ExceptHandler}{hs:List ExceptHandler}{W:dI->L2.St->XK}
  (F:am X.prog X.w X.K X.mg X.base (CXQ z X.prog X.w) k f fd ps sp)(hr:Room k X.A)(hg:Gl X y)(hm:X.mg y=some (.ref f))(hk:PySem.W.keepIn X.K (.ref f)=true)(hb:Binds X.K fd ps [])
  (cq:X.stack=X.env::X.outer)(cM:X.env.frame=some X.env.locals)(cw:X.ex=[])(ha:∀ (pins:List (Addr×Obj))(E1:Value->Shared->Prop),PA (XB X pins E1) (e::es) t)
  (hh:∀ (pins:List (Addr×Obj))(D:dI)(σ:L2.St)(H:Hp)(s:Shared)(ea T C:Addr)(d:Option Addr),AtS z X pins σ H s ea T C d->W D σ (.ref C) d H->wpAny (model X.prog X.w) X.A (handleBy (.ref ea) X.env (h0::hs)) (SP X pins D) X.xe s)
  (gz:autoParam ((y==("__debug__":Str))=false) aD._auto_1)(he:autoParam (starEach (e::es) X.env=(false,eval e X.env)::starEach es X.env) aR._auto_1)(ja:autoParam ((backTo q2 (starEach es X.env)).any (·.1)=false) aR._auto_1):
  PS X (.Try [.Return (some (.Call (.Name y q1) (e::es) [] q2)) q3] (h0::hs) [] [] dO) (EA sp W t):=by
 intro pins s σ H D I h;have hok:=I.ok;refine wpAny_Try_except (cJ (wpAny_Return_some ?_));generalize xq:(fun e s1=>wpAny (model X.prog X.w) X.A (noteFrame e X.env) (fun _ s2=>wpAny (model X.prog X.w) X.A (setFlight e none) (fun _ s3=>wpAny (model X.prog X.w) X.A (handleBy e X.env (h0::hs)) (SP X pins D) X.xe s3) X.xe s2) X.xe s1)=xe;have I':=Inv.toB I xe;refine aT (mf (X:=XB X pins xe) I' hg hm ?_ gz);refine vV (h₀:=X.base) I'.ok.mod.kin hk (aQ (ha pins xe q2 [] s σ H _ I' h) fun us s1 hq=>?_) he ja;obtain⟨vs,H1,I1,r,q⟩:=hq;refine⟨I1.kIn,?_⟩;have hl:us.length=ps.length:=by rw [<-r.length];exact F.len _ _ _ _ q
 have j9:=hb s1 us I1.kIn (by rw [jZ];exact hl)
 rw [jZ]at j9;have J1:Inv X pins σ H1 s1:=Inv.ofB hok I1;refine jJ (dA (F.run X.A X.stack s1 H1 ⟨us,[]⟩ us vs D.rt (W D σ) hr J1.env0 j9 r q) fun r s' hq=>?_);cases r with
 |error e =>
  obtain⟨ea,T,C',d,H2,rfl,h1,h2,h3,h4,h5,h6,h7,h8,h9,ju,lN⟩:=hq;show xe _ _;rw [<-xq];have J2:Inv X pins σ H2 s':=J1.call' (ch:=[]) h1 h3 h4 h2 (fun b z=>absurd z (by simp))
  have Ne:=kI J1 cw h8;have NT:=kI J1 cw h9;have hF:X.A.frames=some (X.env::X.outer):=by rw [<-cq];exact J2.ok.frames
  have hL:s'.heap.FunFrames X.base (X.env::X.outer):=by rw [<-cq];exact J2.stack
  refine IL hF hL cM h5 fun g1 T1 f1 nT k1=>?_;rw [<-cq]at k1;refine hX (fs:=cc X.stack) (s:={ s' with heap:=g1 }) f1 fun g2 f2 k2=>?_
  have oe:lz X pins H2 ea:=⟨h6,Ne.h0,Ne.hL,Ne.hc,Ne.hp⟩;have Dk:lz X pins H2 T1:=(kI J2 cw nT).off;have J3:Inv X pins σ H2 { s' with heap:=g2 }:=rG J2 cq cM cw (k1.trans k2) fun b hb=>by
   rcases dz.mp hb with hb |hb
   ·rcases bw.mp hb with rfl |hb
    ·exact⟨h7,NT.h0,NT.hL,NT.hc,NT.hp⟩
    ·rw [du.mp hb];exact oe
   ·rw [du.mp hb];exact Dk
  exact hh pins D σ H2 _ ea T1 C' d ⟨J3,f2,oe,Dk,Ne.hf,ju⟩ lN
 |ok fl =>
  cases fl with
  |ret u =>
   obtain⟨v,H2,J2,rv,q2⟩:=J1.after hq;exact⟨v,σ,H2,J2,rv,q2⟩
  |next=>exact False.elim hq
  |brk=>exact False.elim hq
  |cont=>exact False.elim hq
end
end EX
end
section
namespace L2
open PySem PySem.Spec PyProof.Rows EX
section
variable{X:Cx}
theorem oB{pins:List (Addr×Obj)}{s:Shared}{σ:St}{H:Hp}{Q:VK}{ff tg iter:Expr}{fg:List Expr}{scope:Scope}{own:List (Str×Nat)}{pos eX:Pos}{wi:TI}{g:TG}{tt:TT}{te:TE}{use:Option (Value->Sem Unit)}{Qf:Value->Shared->Prop}
  {z:Bool}{E:XK}(cq:X.stack=X.env::X.outer)(cM:X.env.frame=some X.env.locals)(cw:X.ex=[])
  (xq:∀ e s',wpAny (model X.prog X.w) X.A (leaving X.env e) (fun _ iw=>CXQ z X.prog X.w X.outer X.H_0 X.s_0 E e iw) (fun e' iw=>CXQ z X.prog X.w X.outer X.H_0 X.s_0 E e' iw) s'->X.xe e s')
  (hc:X.calm=true)(hN:X.N.Nodup)(I:Inv X pins σ H s)(hi:PI X tg iter wi)(ok:cY X.N X.env.scope scope own)
  (hg:∀ (s:Shared)(H:Hp)(C:Addr)(cl:List (Str×Addr))(fp:List Addr)(xe:Value->Shared->Prop),PG (X.blk s H scope (compEnvC scope cl C X.env) fp |>.wish xe) tg g)(ht:∀ (s:Shared)(H:Hp)(C:Addr)(cl:List (Str×Addr))(fp:List Addr)(xe:Value->Shared->Prop),za (X.blk s H scope (compEnvC scope cl C X.env) fp |>.wish xe) fg tt)
  (he:∀ (s:Shared)(H:Hp)(C:Addr)(cl:List (Str×Addr))(fp:List Addr)(xe:Value->Shared->Prop),jo (CXQ z X.prog X.w) (X.blk s H scope (compEnvC scope cl C X.env) fp |>.wish xe) E->PE (X.blk s H scope (compEnvC scope cl C X.env) fp |>.wish xe) ff te)(hs:∀ x,foldedSetIterable iter X.env x=pure x)
  (h:yP wi g tt te (own.map (·.2)) σ H Q)
  (J5:∀ D C s' m H',Inv X pins σ H' s'->Q (.ref D) H'->s'.heap.Ns C m->eN X pins H' C->compPost (model X.prog X.w) X.A X.xe use Qf (.ref D) C (.ok .next) s'):
  wpAny (model X.prog X.w) X.A (comprehension (.ListComp ff [⟨tg,iter,fg,0⟩] scope pos) scope X.env eX (newList []) false (eval iter X.env) use) Qf X.xe s:=by
 have eE:∀ y∈scope.names,y.2=.free->∃ c,X.env.cells.lookup y.1=some c:=fun y hy e=>by
  rcases ok.free y hy e with k |k
  ·exact I.ok.has _ (.inl k)
  ·exact I.ok.has _ (.inr k)
 refine wpAny_comprehension_free (use:=use) rfl hs (HS eE) ok.kind (fun y hy e=>by rw [ok.uniq y hy,e])
  (aQ (hi pins s σ H _ I h) fun xv s1 hx=>aQ hx fun F2 s2 h2=>?_)
 obtain⟨it,fp,tn,J,H2,e,I2,T,uc,f2,q⟩:=h2;subst e;refine aA (NK ?_) (by show 0<=sizeLine;decide)
 generalize hD:s2.heap.objs.size=D;have JX:H2 D=none:=I2.hok.fresh (vU hD);obtain⟨W,⟨m0,w0⟩,turn⟩:=q D JX;generalize hs3:({ s2 with heap:=s2.heap.push { cls:=.type "list",data:=.seq ([]:List Value).toArray } }:Shared)=s3
 have I3:Inv X pins σ (upd H2 D (.lst [])) s3:=by
  rw [<-hs3];refine I2.laid (t':=s2.toks) (fun b o e=>dE _ e) (vU hD) ⟨fk _,[],0,.nil,?_⟩;rw [<-hD];exact fj _ rfl
 have h3:s3.heap=s2.heap.push { cls:=.type "list",data:=.seq ([]:List Value).toArray }:=by rw [<-hs3]
 have sz:∀ b∈fp,b<s2.heap.objs.size:=fun b hb=>by
  obtain⟨o,e,_⟩:=T.obj _ _ uc b hb;exact cz e
 have f3:∀ b∈fp,eN X pins (upd H2 D (.lst [])) b/\b<s3.heap.objs.size:=fun b hb=>by
  have cg:=sz b hb;refine⟨⟨?_,(f2 b hb).2⟩,by rw [h3,kr];exact ze cg⟩
  rw [aj (by rw [<-hD];exact eG cg)]
  exact(f2 b hb).1
 have Aj:tn 0 s3.heap:=T.keep _ _ _ uc fun b _ o e=>by rw [h3];exact dE _ e
 have I4:=NH I3 ok hN f3;have pg:=hg s3 (upd H2 D (.lst [])) s3.heap.objs.size (cellsFrom (s3.heap.objs.size+1) scope.names (eZ X.env.cells scope.names [])) fp;have pt:=ht s3 (upd H2 D (.lst [])) s3.heap.objs.size (cellsFrom (s3.heap.objs.size+1) scope.names (eZ X.env.cells scope.names [])) fp;have pe:=he s3 (upd H2 D (.lst [])) s3.heap.objs.size (cellsFrom (s3.heap.objs.size+1) scope.names (eZ X.env.cells scope.names [])) fp;show codeAny _ _ (.compStart (.ListComp ff [⟨tg,iter,fg,0⟩] scope pos) 0 (.ref it) (.ref D) (compEnvC scope (cellsFrom (s3.heap.objs.size+1) scope.names (eZ X.env.cells scope.names [])) s3.heap.objs.size X.env)) (compPost (model X.prog X.w) X.A X.xe use Qf (.ref D) s3.heap.objs.size) { s3 with heap:=pushCells (s3.heap.push { cls:=.type "dict",data:=.dict #[] }) scope.names }
 have Df:∀ b∈fp,(upd H2 D (.lst [])) b=none:=fun b hb=>(f3 b hb).1.1;generalize zO:compEnvC scope (cellsFrom (s3.heap.objs.size+1) scope.names (eZ X.env.cells scope.names [])) s3.heap.objs.size X.env=ce at I4 pg pt pe ⊢;have cL:ce.locals=s3.heap.objs.size:=by subst zO;rfl
 generalize lP:upd H2 D (.lst [])=H3 at I3 I4 pg pt pe w0 Df f3;generalize KR:({ s3 with heap:=pushCells (s3.heap.push { cls:=.type "dict",data:=.dict #[] }) scope.names }:Shared)=s4 at I4 ⊢
 have Ef:tn 0 s4.heap:=T.keep _ _ _ Aj fun b _ o e=>by rw [<-KR];exact fz _ _ _ _ (dE _ e)
 generalize Q7:(notedBy (model X.prog X.w) X.A ce fun e s'=>compPost (model X.prog X.w) X.A X.xe use Qf (.ref D) s3.heap.objs.size (.error e) s')=xB;have on:jo (CXQ z X.prog X.w) ((X.blk s3 H3 scope ce fp).wish xB) E:=by
  rw [<-Q7];exact rP I3 cq cM cw xq f3 (by subst zO;rfl) cL
 have ie:∀ {σ':St}{H':Hp}{s':Shared},Inv (X.blk s3 H3 scope ce fp) [] σ' H' s'->(∀ b∈fp,H' b=none)->∀ b∈fp,eN (X.blk s3 H3 scope ce fp) [] H' b:=fun{σ' H' s'} I' hn b hb =>
  ⟨hn b hb,(I'.ok.exf b hb).1,I'.ok.exfs b hb,.inl hb,fun x c e=>(I'.ok.exf b hb).2 x c e,fun p hp=>absurd (show p∈([]:List (Addr×Obj))++[]from hp) (by simp)⟩
 have oF:codeAny (model X.prog X.w) X.A (.compLoop (.ListComp ff [⟨tg,iter,fg,0⟩] scope pos) 0 (.ref it) (.ref D) ce) (compPost (model X.prog X.w) X.A X.xe use Qf (.ref D) s3.heap.objs.size) s4:=by
  refine NQ (fun n s'=>∃ i H',Inv (X.blk s3 H3 scope ce fp) [] (bX σ (own.map (·.2))) H' s'/\tn i s'.heap/\(∀ b∈fp,H' b=none)/\W i n H') ?_ m0 ⟨0,H3,I4,Ef,Df,w0⟩;rintro n s5 ⟨i,H5,I5,ue,n5,w5⟩;rcases turn i n H5 w5 with⟨stop,qq⟩ |⟨go,Nx,hNx,step⟩
  ·have td:=T.done (X.blk s3 H3 scope ce fp) rfl rfl rfl hc i [] s5 _ H5 (fun _ _=>False) I5 (ie I5 n5) ue stop;refine jh td fun r s6 ⟨hr,I6⟩=>?_;subst hr;have I7:Inv X pins σ H5 s6:=I3.call' (ch:=fp) I6.os I6.base I6.hok I6.bare fun b hb=>⟨(f3 b hb).1.2.2.2.1,(f3 b hb).1.2.1,(f3 b hb).1.2.2.2.2.1,(f3 b hb).1.2.2.2.2.2⟩;have nC:H5 s3.heap.objs.size=none:=by
    have z:H5 ce.locals=none:=I6.free;rw [cL]at z;exact z
   obtain⟨m,hn,_⟩:=I6.loc;have hn:s6.heap.Ns ce.locals m:=hn;rw [cL]at hn;exact J5 D s3.heap.objs.size s6 m H5 I7 qq hn (I3.fpOk (bO _) nC)
  ·have ti:=T.item (X.blk s3 H3 scope ce fp) rfl rfl rfl hc i [] s5 _ H5 (fun _ _=>False) I5 (ie I5 n5) ue go;refine jh ti fun r s6 ⟨u,hr,h6⟩=>?_;subst hr;refine jh h6 fun _ s7 zz=>?_;obtain⟨x,H7,I7,r7,y7,yJ,n7⟩:=zz;have Gv:=I7.pinned (ie I7 n7) (T.obj _ _ yJ);rw [Q7];refine ax (pg xB _ s7 _ H7 x u _ (Gv.wish xB) r7 (step x H7 y7)) (fun _ s8 ⟨σ8,H8,I8,CH,q8⟩=>?_) fun _ _ z=>z;refine ax (pt xB _ s8 σ8 H8 _ I8 q8) (fun b s9 ⟨H9,I9,q9⟩=>?_) fun _ _ z=>z;have fin:∀ {s':Shared}{H':Hp},Inv (X.blk s3 H3 scope ce fp) ([]++zD fp s7.heap) σ8 H' s'->Nx H'->∃ m,m<n/\∃ i H',Inv (X.blk s3 H3 scope ce fp) [] (bX σ (own.map (·.2))) H' s'/\tn i s'.heap/\(∀ b∈fp,H' b=none)/\W i m H':=fun{s' H'} I' nx=>by
    obtain⟨m',hm,w'⟩:=hNx H' nx;have pz:∀ b∈fp,∀ o,s7.heap.get? b=some o->s'.heap.get? b=some o/\H' b=none:=fun b hb o e =>
     let z:=I'.pin (b,o) (kq _ (kq _ (Fg hb e)))
     ⟨z.1,z.2.1⟩
    have hl:(bX σ (own.map (·.2))).length=σ8.length:=by rw [<-CH,Ff]
    refine⟨m',hm,i+1,H',(I'.unpinned (pins:=[])).weak hl (fun j v e=>?_),T.keep _ _ _ yJ fun b hb o e=>(pz b hb o e).1,fun b hb=>?_,w'⟩
    ·rw [<-CH]at e;exact(Fs e).1
    ·obtain⟨o,e,_⟩:=T.obj _ _ yJ b hb;exact(pz b hb o e).2
   cases b with
   |false =>
    simp only [AC,bv]at q9 ⊢;exact fin I9.unwish q9
   |true =>
    simp only [cu]at q9 ⊢;refine ax (pe xB on _ s9 σ8 H9 _ I9 q9) (fun z s10 zz=>?_) fun _ _ z=>z;obtain⟨yv,H10,Ap,LN,acc,wM,xr,nx⟩:=zz;exact mY (X:=X.blk s3 H3 scope ce fp) Ap.unwish wM xr LN fun s11 Aq=>fin Aq nx
 exact codeAny_compStart_list oF (T.self X.A 0 _ _ _ Ef oF)
theorem IJ{i:Nat}{y:Str}{py:Pos}{ff tg iter:Expr}{fg:List Expr}{scope:Scope}{own:List (Str×Nat)}{pos qj:Pos}{wi:TI}{g:TG}{tt:TT}{te:TE}{z:Bool}{E:XK}(cq:X.stack=X.env::X.outer)(cM:X.env.frame=some X.env.locals)(cw:X.ex=[])
  (xq:∀ e s',wpAny (model X.prog X.w) X.A (leaving X.env e) (fun _ iw=>CXQ z X.prog X.w X.outer X.H_0 X.s_0 E e iw) (fun e' iw=>CXQ z X.prog X.w X.outer X.H_0 X.s_0 E e' iw) s'->X.xe e s')
  (hc:X.calm=true)(hN:X.N.Nodup)(hy:X.N[i]?=some y)(CK:X.env.scope.names.lookup y=some .local)
  (va:swapsWith (.ListComp ff [⟨tg,iter,fg,0⟩] scope pos) (some (.Name y py)) qj.line X.env=pure true)(hi:PI X tg iter wi)(ok:cY X.N X.env.scope scope own)
  (hg:∀ (s:Shared)(H:Hp)(C:Addr)(cl:List (Str×Addr))(fp:List Addr)(xe:Value->Shared->Prop),PG (X.blk s H scope (compEnvC scope cl C X.env) fp |>.wish xe) tg g)(ht:∀ (s:Shared)(H:Hp)(C:Addr)(cl:List (Str×Addr))(fp:List Addr)(xe:Value->Shared->Prop),za (X.blk s H scope (compEnvC scope cl C X.env) fp |>.wish xe) fg tt)
  (he:∀ (s:Shared)(H:Hp)(C:Addr)(cl:List (Str×Addr))(fp:List Addr)(xe:Value->Shared->Prop),jo (CXQ z X.prog X.w) (X.blk s H scope (compEnvC scope cl C X.env) fp |>.wish xe) E->PE (X.blk s H scope (compEnvC scope cl C X.env) fp |>.wish xe) ff te)(hs:autoParam (∀ x,foldedSetIterable iter X.env x=pure x) aI._auto_1):
  PS X (.Assign [.Name y py] (.ListComp ff [⟨tg,iter,fg,0⟩] scope pos) qj) (uh (yP wi g tt te (own.map (·.2))) (iI i)):=by
 intro pins s σ H D I h;rw [exec_Assign_Name_used _ _ _ _ va];refine aa (bp (aa ?_));show wpAny _ X.A (do let _ <-comprehension (.ListComp ff [⟨tg,iter,fg,0⟩] scope pos) scope X.env (firstIterPos [⟨tg,iter,fg,0⟩] pos) (newList []) false (eval iter X.env) (some (assign (.Name y py) X.env))) _ _ s
 have h:yP wi g tt te (own.map (·.2)) σ H (fun x H1=>iI i x σ H1 D.nx):=h;refine aa (aQ (oB (Qf:=fun _ s'=>SP X pins D .next s') cq cM cw xq hc hN I hi ok hg ht he hs h fun L C s' m H' I' q hn f=>?_) fun _ s' hq=>af (af hq));show wpAny _ _ (assign (.Name y py) X.env (.ref L)) _ _ _;refine yW (ID (v:=V.ref L) I' hN hy (.inl CK) rfl (fun s2 I2 ⟨a,sb,ha⟩=>?_) (.inr CK));obtain⟨f0,f1,f2,f3,f4,f5⟩:=f;have J7:C≠a:=by
  rcases ha with z |z
  ·rw [z];exact f1
  ·exact fun e=>f4 y a z e.symm
 refine⟨m,hn.sameBut sb J7,fun h3 L7=>?_⟩;exact⟨_,H',I2.turned (t':=s2.toks) (fun b o hb e=>(L7.2 b hb).trans e) f0 f1 f3 f4 f5,q⟩
end
end L2
end
section
namespace LM
open PySem PySem.Spec PyProof.Rows L2 EX
structure uB(base:Heap)(f:Addr)(fd:FuncData)(qual:Str)(params:Arguments)(body:Expr)(scope:Scope)(cl:List (Str×Addr))(cd:Value)(N:List Str)(vs:List V):Prop where
 ex:∃ (oc:Value)(od:Option Addr)(sl:Array (Option Value))(pm rV:Value),fd=PySem.W.kla_fn "<lambda>" qual params body scope cl pm cd rV/\base.get? f=some ⟨oc,od,.func fd,sl⟩
 rec_:base.CodeRec cd qual
 inj:∀ x y c,cl.lookup x=some c->cl.lookup y=some c->x=y
 has:∀ x,scope.names.lookup x=some .free->∃ c,cl.lookup x=some c
 cell:∀ x c,cl.lookup x=some c->∃ v,base.IsCell c v
 at_:∀ (i:Nat) x v,N[i]?=some x->vs[i]?=some v->∃ c u,cl.lookup x=some c/\base.IsCell c (some u)/\RelV v u
 len:vs.length=N.length
structure FD(N:List Str)(scope:Scope):Prop where
 kind:scope.kind=.function
 co:scope.isCoroutine=false
 gen:scope.isGenerator=false
 names:∀ x∈scope.names,x.2=.free\/x.2=.globalImplicit
 free:∀ x∈N,scope.names.lookup x=some .free
def zI(z:Bool)(P:Program)(w:World)(K:aq)(mg:Str->Option Value)(base:Heap)(N:List Str)(qual:Str)(scope:Scope)(f:Addr)(cd:Value)(cl:List (Str×Addr))(A:Around)(outer:List Env)(s:Shared)(H:Hp)(E:XK):Cx where
 prog:=P
 w:=w
 K:=K
 mg:=mg
 base:=base
 A:=A.deeper (PySem.W.envX qual scope s.heap.objs.size f cd cl)
 N:=N
 s_0:=s
 H_0:=H
 env:=PySem.W.envX qual scope s.heap.objs.size f cd cl
 outer:=outer
 stack:=PySem.W.envX qual scope s.heap.objs.size f cd cl::outer
 ex:=[]
 calm:=true
 fn:=fun _=>false
 pn:=[]
 xe:=fun e s'=>wpAny (model P w) (A.deeper (PySem.W.envX qual scope s.heap.objs.size f cd cl)) (leaving (PySem.W.envX qual scope s.heap.objs.size f cd cl) e) (fun _ iw=>CXQ z P w outer H s E e iw) (fun e' iw=>CXQ z P w outer H s E e' iw) s'
section
variable{P:Program}{w:World}{K:aq}{mg:Str->Option Value}{base:Heap}{N:List Str}{qual:Str}{scope:Scope}{f:Addr}{cd:Value}{cl:List (Str×Addr)}{A:Around}{outer:List Env}{s:Shared}{H:Hp}{E:XK}{z:Bool}
 {fd:FuncData}{params:Arguments}{body:Expr}{vs:List V}
theorem sW{h1:Heap}{t:Nat}(S:FD N scope)(hd:A.handled=none)(e0:Env0 P w K mg base A outer s H)(L:uB base f fd qual params body scope cl cd N vs)(hn:h1.Ns s.heap.objs.size fun _=>none)
  (hk:∀ b o,s.heap.get? b=some o->h1.get? b=some o):Inv (zI z P w K mg base N qual scope f cd cl A outer s H E) [] (vs.map some) H { s with heap:=h1,toks:=t }:=by
 have lU:∀ b:Addr,b∉(zI z P w K mg base N qual scope f cd cl A outer s H E).ex:=fun b z=>absurd (show b∈([]:List Addr)from z) (by simp)
 have cb:∀ {c:Addr}{v:Option Value},base.IsCell c v->s.heap.IsCell c v/\H c=none:=fun{c v} ⟨o,e1,e2⟩=>⟨⟨o,(e0.bs c o e1).1,e2⟩,(e0.bs c o e1).2⟩;have ck:∀ {c:Addr}{v:Option Value},base.IsCell c v->h1.IsCell c v:=fun{c v} z=>let ⟨⟨o,e1,e2⟩,_⟩:=cb z;⟨o,hk c o e1,e2⟩;refine⟨⟨e0.mod,S.kind,rfl,rfl,bO _,L.inj,fun y hy=>?_,(fun y c z _=>absurd (show false=true from z) (by decide)),fun _=>hd,Around.frames_deeper e0.frames,.inr ⟨rfl,rfl⟩,fun b z=>absurd z (lU b),e0.bs,e0.bsz,fun b _ _=>lU b,fun b z=>absurd z (lU b),e0.funs,e0.frf⟩,
  rfl,e0.bare,Un.kept hk,⟨_,hn,fun i y v h1 h2 h3=>?_⟩,fun y c h=>?_,e0.hok.fresh (bO _),fun y c h=>?_,fun p hp=>absurd (show p∈([]:List (Addr×Obj))from hp) (by simp),e0.hok.kept hk,?_⟩
 ·have hy:scope.names.lookup y=some .cell\/scope.names.lookup y=some .free:=hy;rcases hy with hy |hy
  ·rcases S.names _ (PySem.mem_of_lookup hy)with z |z<;>cases z
  ·exact L.has y hy
 ·rw [dQ]at h2;cases e:vs[i]? with
  |none=>rw [e]at h2;cases h2
  |some a =>
   rw [e]at h2;cases h2;obtain⟨c,u,q1,q2,q3⟩:=L.at_ i y _ h1 e;exact⟨u,q3,.inr ⟨.inr (S.free y (gL h1)),c,q1,ck q2⟩⟩
 ·obtain⟨v,z⟩:=L.cell y c h;exact⟨v,ck z⟩
 ·obtain⟨v,z⟩:=L.cell y c h;exact(cb z).2
 ·rw [aW];exact L.len
theorem ZaQ:jo (CXQ z P w) (zI z P w K mg base N qual scope f cd cl A outer s H E) E:=by
 intro pins σ H' s1 e s' I h;obtain⟨ea,T,C,dx,H2,rfl,h1,h2,h3,h4,h5,h6,h7,h8,h9,ju,lN⟩:=h;have I':Inv (zI z P w K mg base N qual scope f cd cl A outer s H E) pins σ H2 s':=I.call' (ch:=[]) h1 h3 h4 h2 (fun b z=>absurd z (by simp))
 exact Ic I' rfl rfl rfl ⟨⟨h6,(gB I rfl h8).2⟩,.inr ⟨T,h5,h7,(gB I rfl h9).2⟩⟩ ju lN
theorem okL{k:Nat}{sp:Sp}(L:uB base f fd qual params body scope cl cd N vs)(S:FD N scope)(len:∀ vs H Q E,sp vs H Q E->vs.length=0)
  (gY:∀ (A:Around)(outer:List Env)(s:Shared)(H:Hp)(Q:VK)(E:XK),Room k (A.deeper (PySem.W.envX qual scope s.heap.objs.size f cd cl))->sp [] H Q E ->
    ∃ t,PE (zI z P w K mg base N qual scope f cd cl A outer s H E) body t/\t (vs.map some) H Q):am P w K mg base (CXQ z P w) (k+1) f fd [] sp:=by
 obtain⟨oc,od,sl,pm,rV,rfl,ho⟩:=L.ex;refine⟨len,fun A outer s H args us EH Q E hr e0 hb r kc=>?_⟩;have hl:=len _ _ _ _ kc;obtain rfl:EH=[]:=E8 hl;have xN:s.heap.NoLimit:=e0.mod.nolimit.keeps fun b o e=>(e0.bs b o e).1;have rc:s.heap.CodeRec cd qual:=by
  obtain⟨c,o,vs,t,e1,e2,r⟩:=L.rec_;exact⟨c,o,vs,t,e1,(e0.bs _ _ e2).1,r⟩
 refine PySem.W.kla_callFunE hr.depth (e0.bs _ _ ho).1 rfl S.co S.gen rfl rc (hb _ _ _ _ ?_);refine wpAny_newFunctionEnv (fun x hx=>by rcases S.names x hx with z |z<;>rw [z]<;>intro q<;>cases q) (fun x hx=>absurd (show x∈(([]:List Str).zip us)from hx) (by simp)) (fun h1 hn hs=>⟨xN.fresh _ hs,?_⟩) S.kind
 have hk:∀ b o,s.heap.get? b=some o->h1.get? b=some o:=fun b o e=>hs.extBut b o (eG (cz e)) (dE _ e);obtain⟨t,ht,hq⟩:=gY A outer s H Q E (hr.deeper _) kc;have I:Inv (zI z P w K mg base N qual scope f cd cl A outer s H E) [] (vs.map some) H { s with heap:=h1,toks:=s.toks+(([]:List Str).zip us).length }:=sW S hr.hd e0 L hn hk
 refine PySem.W.kla_codeExpr (ax (ht [] _ _ H _ I hq) (fun v s' hs=>?_) fun e s' hs=>hs);obtain⟨v',H',J,rv,q⟩:=hs;exact⟨v',H',J.os,J.bare,J.base,J.hok,rv,q⟩
end
section
variable{X:Cx}{CX:jW}{k:Nat}{f:Addr}{fd:FuncData}{sp:Sp}{E:XK}
def Ey(i:Nat)(f:Addr)(sp:Sp)(E:XK):TE:=fun σ H Q=>σ[i]?=some (some (.ref f))/\sp [] H Q E
theorem tM{i:Nat}{x:Str}{p pos:Pos}(F:am X.prog X.w X.K X.mg X.base CX k f fd [] sp)(hr:Room k X.A)(hf:PySem.W.FnAt f X.base)(hb:Binds X.K fd [] [])(hx:jo CX X E)(hi:autoParam (X.N[i]?=some x) aR._auto_1)
  (hv:autoParam (zb X.env.scope x) aV._auto_1)(hd:autoParam ((x==("__debug__":Str))=false) aD._auto_1)(ji:autoParam ((x==("__classdict__":Str))=false) aD._auto_1):
  PE X (.Call (.Name x p) [] [] pos) (Ey i f sp E):=by
 intro pins s σ H Q I h;refine aT (aQ (pf hi hv hd ji pins s σ H (fun v H'=>v=.ref f/\sp [] H' Q E) I ⟨_,h.1,rfl,h.2⟩) fun u s1 ⟨v,H1,I1,rv,ev,q⟩=>?_);subst ev;obtain rfl:u=Value.ref f:=rv;obtain⟨oc,od,fd',sl,e⟩:=hf;exact PySem.W.callWith_F0 ⟨oc,od,fd',sl,I1.bk _ _ e⟩ (FK (us:=[]) F hr hb .nil hx I1 .nil q)
end
theorem OC{h base uU:Heap}:∀ {l:List Env},h.FunFrames base l->(∀ b∈cc l,uU.get? b=none)->h.FunFrames uU l
 |[],_,_=>trivial
 |env::r,⟨hk,⟨L,o,hf,hn,ho,hd⟩,hr⟩,hb=>by
  refine⟨hk,⟨L,o,hf,hb L ?_,ho,hd⟩,OC hr fun b m=>hb b ?_⟩
  ·unfold cc;rw [zd,hf];exact cZ
  ·unfold cc;rw [zd,hf];exact dk _ m
noncomputable def lR(fs:List Addr)(H:Hp):Hp:=fun b=>if b∈fs then some (.lst [])else H b
theorem Pc{fs:List Addr}{H:Hp}{b:Addr}(h:lR fs H b=none):b∉fs/\H b=none:=by
 unfold lR at h;split at h
 ·cases h
 ·exact⟨by assumption,h⟩
theorem xz{fs:List Addr}{H:Hp}{b:Addr}(h1:b∉fs)(h2:H b=none):lR fs H b=none:=by
 unfold lR;rw [ac h1];exact h2
section
variable{X:Cx}{CX:jW}{k:Nat}{fA c PT:Addr}{gx:FuncData}{E:XK}{params:Arguments}{body:Expr}{scope:Scope}{gi p pos:Pos}{x:Str}{M:List Str}
def Mj(X:Cx)(PT:Addr)(gi:Pos)(ix:List Nat)(spA:Addr->List V->Sp)(E:XK):TE:=fun σ H Q=>∃ ps vs,H PT=some (.tbl ps)/\codeAmong gi ps.toList=none/\TriplesOk ps.toList /\
 vs.length=ix.length/\(∀ (j i:Nat)(v:V),ix[j]?=some i->vs[j]?=some v->σ[i]?=some (some v))/\∀ f c8,H f=none->spA f vs [.ref f] (upd H PT (.tbl (ps++c8))) Q E
theorem yj{ix:List Nat}{spA:Addr->List V->Sp}(hC:PySem.W.CodeHd X.base c PT)(hB:X.base.BuiltinsAt X.mg PT)(B4:X.env.code=.ref c)(cq:X.stack=X.env::X.outer)(cM:X.env.frame=some X.env.locals)(cw:X.ex=[])
  (Cb:∀ x,X.fn x=true)(Kh:defaultsOf params X.env=([],[]))(S:FD M scope)(B3:∀ y∈scope.names,y.2=.free->X.env.scope.names.lookup y.1=some .cell)
  (Kt:∀ (j:Nat)(y:Str),M[j]?=some y->∃ i,ix[j]?=some i/\X.N[i]?=some y)(hlx:ix.length=M.length)(huq:∀ y∈scope.names,scope.names.lookup y.1=some y.2)
  (hg:Gl X x)(hm:X.mg x=some (.ref fA))(hk:PySem.W.keepIn X.K (.ref fA)=true)(hb:Binds X.K gx ["tell"] [])(hr:Room k X.A)(hx:jo CX X E)
  (F:∀ (base:Heap)(f:Addr)(fd:FuncData)(cl:List (Str×Addr))(cd:Value)(vs:List V),X.K.In base->base.Ns mainGlobals X.mg->uB base f fd (X.env.qual++"<lambda>") params body scope cl cd M vs ->
    am X.prog X.w X.K X.mg base CX k fA gx ["tell"] (spA f vs))
  (gz:autoParam ((x==("__debug__":Str))=false) aD._auto_1)(he:autoParam (starEach [.Lambda params body scope gi] X.env=(false,eval (.Lambda params body scope gi) X.env)::starEach [] X.env) aR._auto_1):
  PE X (.Call (.Name x p) [.Lambda params body scope gi] [] pos) (Mj X PT gi ix spA E):=by
 intro pins s σ H Q I h;obtain⟨ps,vs,hT,KH,hto,K3,K4,kc⟩:=h;refine aT (mf I hg hm ?_ gz);have eE:∀ y∈scope.names,y.2=.free->∃ c,X.env.cells.lookup y.1=some c:=fun y hy e=>I.ok.has _ (.inl (B3 y hy e));have hP:s.heap.get? PT=some (PySem.W.tabObj ps):=I.hok PT _ hT;have nbP:∀ b o,X.base.get? b=some o->b≠PT:=fun b o e z=>by
  have:=(I.bs b o e).2;rw [z,hT]at this;cases this
 have hgs:s.heap.Ns mainGlobals X.mg:=I.ok.mod.glob.keeps I.bk;have hgP:mainGlobals≠PT:=by
  obtain⟨o,es,ep,e,_⟩:=I.ok.mod.glob;exact nbP _ o e
 have hBs:s.heap.BuiltinsAt X.mg PT:=by
  obtain⟨bm,ob,a1,a2,a3,a4,a5,a6⟩:=hB;exact⟨bm,ob,a1,a2,a3,a4,I.bk _ _ a5,a6⟩
 refine vV (h₀:=X.base) (Q:=EP X pins σ Q) I.ok.mod.kin hk ?_ he rfl;rw [he];show wpAny _ _ (spliced ((false,eval (.Lambda params body scope gi) X.env)::backTo pos (starEach [] X.env))) _ _ s;refine Calls.spliced_cons (PySem.W.kla_eval Kh (PySem.W.kla_makeFunction (HS eE) I.ok.glob hgs B4 (hC.keeps I.bk) hP hto KH hgP hBs fun c' rV h' tk hx1 u9 cg KQ htb=>?_));refine Calls.spliced_nil ?_;generalize QN:PySem.W.kla_obj "<lambda>" (X.env.qual++"<lambda>") params body scope (eZ X.env.cells scope.names []) ((X.mg "__name__").getD .none) c' rV=fo;have kp:∀ b o,b≠PT->s.heap.get? b=some o->(h'.push fo).get? b=some o:=fun b o hn e=>dE _ (hx1 b o hn e);have sz:s.heap.objs.size<=h'.objs.size:=iE u9 (vT cg);have xo:(h'.push fo).get? PT=some (PySem.W.tabObj (ps++#[rawInt gi.line,rawInt gi.col,.ref c'])):=dE _ htb;have I3:Inv X pins σ (upd H PT (.tbl (ps++#[rawInt gi.line,rawInt gi.col,.ref c']))) { s with heap:=h'.push fo,toks:=tk }:=by
  refine I.un ⟨fun b o q n _ _=>kp b o (fun z=>by rw [z,hT]at n;cases n) q,fun b o q n _ _=>⟨o.slots,kp b o (fun z=>by rw [z,hT]at n;cases n) q⟩,fun b o q n _=>?_,fun b o q _=>?_,fun b xs q=>?_,fun b o u q=>?_,fun b qs q=>?_⟩ fun a o e=>?_
  ·rw [aj (fun z=>by rw [z,hT]at n;cases n)];exact n
  ·by_cases z:b=PT
   ·rw [z];exact⟨_,xo⟩
   ·exact⟨o,kp b o z q⟩
  ·rw [aj (fun z=>by rw [z,hT]at q;cases q)];exact q
  ·rw [aj (fun z=>by rw [z,hT]at q;cases q)];exact q
  ·by_cases z:b=PT
   ·rw [z,hT]at q;cases q;exact⟨_,by rw [z,Z2j]⟩
   ·exact⟨#[],by rw [aj z,q];simp⟩
  ·by_cases z:a=PT
   ·rw [z,Z2j]at e;cases e;rw [z];exact xo
   ·rw [aj z]at e;refine(I.hok a o e).stay (fun b u hb q=>kp b u (fun z'=>?_) q) (fun b q=>?_) fun b xs q=>?_
    ·rcases hb with hb |hb
     ·exact z (hb ▸ z')
     ·rw [z',hT]at hb;cases hb
    ·rw [aj (fun z'=>by rw [z',hT]at q;cases q)];exact q
    ·rw [aj (fun z'=>by rw [z',hT]at q;cases q)];exact q
 generalize QT:(#[rawInt gi.line,rawInt gi.col,.ref c']:Array Value)=c8 at I3 xo;refine⟨I3.kIn,?_⟩;generalize lP:upd H PT (.tbl (ps++c8))=H3 at I3;have sub:∀ {b:Addr}{o:Obj},(h'.push fo).get? b=some o->H3 b=none->b∉cc X.stack->(dZ (h'.push fo) (lR (cc X.stack) H3)).get? b=some o:=fun e n1 n2=>Pq e (xz n2 n1);have nfr:∀ b o,X.base.get? b=some o->b∉cc X.stack:=fun b o e z=>by
  have:=(I3.stack.mem z).1;rw [e]at this;cases this
 have bk:∀ b o,X.base.get? b=some o->(dZ (h'.push fo) (lR (cc X.stack) H3)).get? b=some o:=fun b o e=>sub (I3.bk b o e) (I3.bs b o e).2 (nfr b o e);have zM:X.K.In (dZ (h'.push fo) (lR (cc X.stack) H3)):=I.ok.mod.kin.keeps bk;have hM:Aw X.K X.mg (dZ (h'.push fo) (lR (cc X.stack) H3)):=⟨zM,I.ok.mod.glob.keeps bk,let ⟨mb,a,b⟩:=I.ok.mod.blt;⟨mb,a.keeps bk,b⟩,I.ok.mod.nolimit.keeps bk⟩;have e0:Env0 X.prog X.w X.K X.mg (dZ (h'.push fo) (lR (cc X.stack) H3)) X.A X.stack { s with heap:=h'.push fo,toks:=tk } H3:=
  ⟨I.ok.frames,hM,fun b o e=>⟨(Fz e).1,(Pc (Fz e).2).2⟩,vU (OB _ _),OC I3.stack fun b hb=>?_,I3.stkFree,I3.hok,I3.bare⟩
 case refine_1 =>
  cases z:(dZ (h'.push fo) (lR (cc X.stack) H3)).get? b with
  |none=>rfl
  |some o=>exact absurd hb (Pc (Fz z).2).1
 have new:∀ {a:Addr},s.heap.objs.size<=a->H3 a=none/\a∉cc X.stack:=fun{a} ha=>by
  refine⟨?_,fun z=>?_⟩
  ·rw [<-lP,aj (fun z=>by rw [z]at ha;exact absurd (cz hP) (Nat.not_lt_of_le ha))]
   exact I.hok.fresh ha
  ·obtain⟨_,o,e,_⟩:=I.stack.mem z;exact absurd (cz e) (Nat.not_lt_of_le ha)
 have nf:=new sz;have JN:(dZ (h'.push fo) (lR (cc X.stack) H3)).get? h'.objs.size=some fo:=sub (fj _ (by rw [<-QN];rfl)) nf.1 nf.2
 have cells:∀ {y:Str}{c1:Addr},(eZ X.env.cells scope.names []).lookup y=some c1->X.env.cells.lookup y=some c1:=fun{y c1} e=>by
  rcases AX (PySem.mem_of_lookup e)with z |⟨z1,z2⟩
  ·cases z
  ·obtain⟨c2,e2⟩:=eE _ z1 rfl;rw [e2]at z2;rw [e2,z2];rfl
 have Bt:∀ {y:Str}{c1:Addr}{v:Option Value},X.env.cells.lookup y=some c1->s.heap.IsCell c1 v->(dZ (h'.push fo) (lR (cc X.stack) H3)).IsCell c1 v:=fun{y c1 v} e ⟨o,e1,e2⟩=>by
  have nP:c1≠PT:=fun z=>by
   have:=I.freeC y c1 e;rw [z,hT]at this;cases this
  refine⟨o,sub (kp c1 o nP e1) (by rw [<-lP,aj nP];exact I.freeC y c1 e) fun z=>?_,e2⟩
  rw [cq,Ix cM]at z;rcases bw.mp z with z |z
  ·exact I.cne y c1 e z
  ·obtain⟨_,o',e',_⟩:=I.ok.funs.mem z;exact absurd (cz e') (Nat.not_lt_of_le (I.ok.cab y c1 (Cb y) e))
 have JZ:uB (dZ (h'.push fo) (lR (cc X.stack) H3)) h'.objs.size (PySem.W.kla_fn "<lambda>" (X.env.qual++"<lambda>") params body scope (eZ X.env.cells scope.names []) ((X.mg "__name__").getD .none) (.ref c') rV) (X.env.qual++"<lambda>") params body scope (eZ X.env.cells scope.names []) (.ref c') M vs:=by
  refine⟨⟨_,_,_,_,_,rfl,by rw [JN,<-QN]⟩,?_,fun y z c1 e1 e2=>I.ok.inj y z c1 (cells e1) (cells e2),fun y e=>?_,fun y c1 e=>?_,fun j y v e1 e2=>?_,by rw [K3,hlx]⟩
  ·obtain⟨c2,o2,EI,t2,q1,q2,q3,q4⟩:=KQ;cases q1;exact⟨c',o2,EI,t2,rfl,sub (dE _ q2) (new u9).1 (new u9).2,q3,q4⟩
  ·obtain⟨c1,z⟩:=A7 (AY (cells:=X.env.cells) (acc:=[]) (PySem.mem_of_lookup e));exact⟨c1,z⟩
  ·obtain⟨v,z⟩:=I.cell y c1 (cells e);exact⟨v,Bt (cells e) z⟩
  ·obtain⟨i,i1,i2⟩:=Kt j y e1;have hi:=K4 j i v i1 e2;obtain⟨m,hn,hl⟩:=I.loc;have yf:=S.free y (gL e1);have yc:=B3 _ (PySem.mem_of_lookup yf) rfl;obtain⟨u,ru,lk⟩:=hl i y v i2 hi (.inr (.inl yc));rcases lk with⟨z,_⟩ |⟨_,c1,z1,z2⟩
   ·have z:X.env.scope.names.lookup y=some .local:=z;rw [yc]at z;cases z
   ·obtain⟨c2,z3⟩:=A7 (AY (cells:=X.env.cells) (acc:=[]) (PySem.mem_of_lookup yf));have z4:=cells z3;rw [z1]at z4;cases z4;exact⟨c1,u,z3,Bt z1 z2,ru⟩
 have FF:=F _ _ _ _ _ vs zM hM.glob JZ;have Cq:=kc h'.objs.size c8 (I.hok.fresh sz);rw [lP]at Cq;have j9:=hb { s with heap:=h'.push fo,toks:=tk } [.ref h'.objs.size] I3.kIn rfl
 refine jJ (dA (FF.run X.A X.stack _ H3 ⟨[.ref h'.objs.size],[]⟩ [.ref h'.objs.size] [.ref h'.objs.size] Q E hr e0 j9 (.cons rfl .nil) Cq) fun r s' hq=>?_);cases r with
 |error e=>exact hx pins σ H3 _ e s' I3 hq
 |ok fl =>
  cases fl with
  |ret u=>exact I3.after hq
  |next=>exact False.elim hq
  |brk=>exact False.elim hq
  |cont=>exact False.elim hq
end
end LM
end
section
set_option maxHeartbeats 2000000
namespace LM
open PySem PySem.Spec PyProof.Rows L2 EX
open PySem.W (WData Codec OpenSpec Well WellAll ReadsW ReadsAllW)
theorem ZaL{P:Program}{w:World}{K:aq}{mg mb:Str->Option Value}{CX:jW}{k:Nat}{fa c PT:Addr}{fd:FuncData}{ps:List Str}{sp:Sp}{s₁:Shared}{iy:List Value}{ds:List WData}{R:PySem.W.WRecords}{cl:Str->Option Addr}{d0:WData}
  (KX:K.In s₁.heap)(nT:PySem.W.noTabs K=true)(hC:PySem.W.CodeHd s₁.heap c PT)(hT:s₁.heap.get? PT=some (PySem.W.tabObj #[]))
  (hBm:∃ bm ob,mg "__builtins__" = some (.ref bm)/\bm≠builtinsNs/\s₁.heap.get? bm=some ob/\ob.cls=.type "module"/\ob.dict=some builtinsNs/\ob.data=.plain)
  (sN:s₁.heap.Ns mainGlobals mg)(hb:s₁.heap.Ns builtinsNs mb)(hbb:∀ x:Str,x≠"__name__"->mb x=bootBuiltins x)(KA:s₁.heap.NoLimit)(hg:s₁.gens=#[])
  (vc:WellAll w.params s₁.heap iy ds)(ja:gI ds=true)(hwt:∀ d∈ds,d.weight<=1048576)(hr:Room k callerA)
  (F:∀ base:Heap,K.In base->base.Ns mainGlobals mg->PySem.W.CodeHd base c PT->base.BuiltinsAt mg PT->am P w K mg base CX k fa fd ps sp)(BY:∀ (s:Shared)(us:List Value),us.length=ps.length->BindsTo s fd ⟨us,[]⟩ (ps.zip us))(bQ:ds.length=ps.length)
  (kc:∀ (H:Hp)(xs:List V),eD K H xs ds->H PT=none->sp xs (upd H PT (.tbl #[])) (fun v H'=>Dw K H' v d0) fun _ _ _=>False)
  (JW:∀ H e s',CX [] H s₁ (fun _ _ _=>False) e s'->False):
  codeAny (model P w) callerA (.call (.ref fa) ⟨iy,[]⟩) (fun r s'=>∃ u as,r=.ok (.ret u)/\ReadsW R cl s'.heap u d0 as/\OldK s₁.heap s'.heap/\s'.os=s₁.os/\AllBare s'.gens) s₁:=by
 obtain⟨A,ho,ar⟩:=Fm ds iy vc ja hwt;have hO:uC (dY K s₁.heap A):=ZbN ar;have w8:HOk P w (dY K s₁.heap A) s₁.heap:=rL ar;have hS:=FG KX ar ds iy vc ja ho;have hV:=zw ho;have QD:∀ b u,dY K s₁.heap A b=some u->K.lookup b=none:=fun b u q=>(Fx ar q).1;have lU:∀ {b:Addr}{o:Obj},s₁.heap.get? b=some o->(∀ vs n,o.data≠.seq vs n)->dY K s₁.heap A b=none:=fun{b o} e d=>by
  cases q:dY K s₁.heap A b with
  |none=>rfl
  |some u =>
   obtain⟨_,vs,_,_,⟨e2,_⟩ |⟨e2,_⟩⟩:=Fx ar q
   ·rw [e2]at e;cases e;exact absurd rfl (d vs.toArray _)
   ·rw [e2]at e;cases e;exact absurd rfl (d vs.toArray _)
 have FU:dY K s₁.heap A PT=none:=lU hT (fun vs n z=>by cases z)
 generalize dY K s₁.heap A=H0 at hO w8 hS QD lU FU;have hok:HOk P w (upd H0 PT (.tbl #[])) s₁.heap:=fun a o e=>by
  by_cases z:a=PT
  ·rw [z,Z2j]at e;cases e;rw [z];exact hT
  ·rw [aj z]at e;exact(w8 a o e).stay (fun b u _ q=>q) (fun b q=>by rw [aj (ba q FU)];exact q) fun b xs q=>by rw [aj (ba q FU)];exact q
 have Rc:∀ b o,K.lookup b=some o->b≠PT:=fun b o e z=>by
  have e2:=KX b o e;rw [z,hT]at e2;have h2:=uK.mp nT (b,o) (PySem.W.mem_of_lookupK e);cases e2;exact absurd (show false=true from h2) fi
 have gM:∀ {b:Addr}{o:Obj},s₁.heap.get? b=some o->H0 b=none->b≠PT->(dZ s₁.heap (upd H0 PT (.tbl #[]))).get? b=some o:=fun e n z=>Pq e (by rw [aj z];exact n)
 have F8:∀ {b:Addr}{m:Str->Option Value},s₁.heap.Ns b m->(dZ s₁.heap (upd H0 PT (.tbl #[]))).Ns b m:=fun{b m} ⟨o,es,ep,e,d,r⟩ =>
  ⟨o,es,ep,gM e (lU e fun vs n z=>by rw [d]at z;cases z) (fun z=>by rw [z,hT]at e;cases e;cases d),d,r⟩
 have nK:∀ b o,K.lookup b=some o->H0 b=none:=fun b o e=>by
  cases q:H0 b with
  |none=>rfl
  |some u =>
   rw [QD b u q]at e;cases e
 have zM:K.In (dZ s₁.heap (upd H0 PT (.tbl #[]))):=fun b o e=>gM (KX b o e) (nK b o e) (Rc b o e);have hM:Aw K mg (dZ s₁.heap (upd H0 PT (.tbl #[]))):=⟨zM,F8 sN,⟨mb,F8 hb,hbb⟩,let ⟨mc,h1,h2⟩:=KA;⟨mc,F8 h1,h2⟩⟩;have e0:Env0 P w K mg (dZ s₁.heap (upd H0 PT (.tbl #[]))) callerA [] s₁ (upd H0 PT (.tbl #[])):=⟨rfl,hM,fun b o e=>Fz e,vU (OB _ _),trivial,fun b hb=>absurd (show b∈([]:List Addr)from hb) (by simp),hok,.of_eq hg⟩
 have hC':PySem.W.CodeHd (dZ s₁.heap (upd H0 PT (.tbl #[]))) c PT:=by
  obtain⟨o,vs,JO,tf,BJ,tg,inF,text,tt,e1,r1,r2,r3,r4,r5,r6,r7,r8,bV⟩:=hC;exact⟨o,vs,JO,tf,BJ,tg,inF,text,tt,gM e1 (lU e1 fun _ _ z=>by rw [r2]at z;cases z) bV,r1,r2,r3,r4,r5,r6,r7,r8,bV⟩
 have hB':(dZ s₁.heap (upd H0 PT (.tbl #[]))).BuiltinsAt mg PT:=by
  obtain⟨bm,ob,b1,b2,b3,b4,b5,b6⟩:=hBm;have n1:bm≠PT:=fun z=>by rw [z,hT]at b3;cases b3;cases b4
  have n2:bm≠mainGlobals:=fun z=>by
   obtain⟨o,es,ep,e,d,_⟩:=sN;rw [z,e]at b3;cases b3;rw [d]at b6;cases b6
  exact⟨bm,ob,b1,b2,n2,n1,gM b3 (lU b3 fun _ _ z=>by rw [b6]at z;cases z) n1,b4,b5,b6⟩
 have hl:iy.length=ps.length:=by rw [Fe vc];exact bQ
 refine dA ((F _ zM (F8 sN) hC' hB').run callerA [] s₁ (upd H0 PT (.tbl #[])) ⟨iy,[]⟩ iy (iy.map jI) _ _ hr e0 (BY s₁ iy hl) hV (kc H0 _ hS FU)) fun r s' x=>?_;cases r with
 |error e=>exact(JW _ e s' x).elim
 |ok fl =>
  cases fl with
  |next=>exact False.elim x
  |brk=>exact False.elim x
  |cont=>exact False.elim x
  |ret u =>
   obtain⟨v,H',os,bare,un,w6,r',q⟩:=x;have kept:∀ b o,b≠PT->s₁.heap.get? b=some o->s'.heap.get? b=some o:=fun b o nb e=>by
    cases q2:H0 b with
    |none=>exact un.keep b o e (by rw [aj nb];exact q2) (by intro z;exact absurd (show b∈([]:List Addr)from z) (by simp)) (by simp)
    |some u2 =>
     rcases hO b with z |⟨ob,u3,z⟩
     ·rw [q2]at z;cases z
     ·have z2:=un.frzs b ob _ (by rw [aj nb];exact z)
      obtain⟨e1,_⟩:=w8 b _ z;obtain⟨e2,_⟩:=w6 b _ z2;rw [e]at e1;cases e1;exact e2
   have ER:K.In s'.heap:=fun b o e=>kept b o (Rc b o e) (KX b o e);obtain⟨as,QY⟩:=Dw.reads (R:=R) (cl:=cl) w6 ER d0 v u q r';obtain⟨c8,hm⟩:=un.tbls PT #[] Z2j;have QS:s'.heap.get? PT=some (PySem.W.tabObj (#[]++c8)):=w6 PT _ hm;refine⟨u,as,rfl,QY,⟨fun b o e=>?_,fun b o e=>?_⟩,os,bare⟩
   ·by_cases z:b=PT
    ·subst z;rw [hT]at e;cases e;exact .inr (.inl ⟨(hC.tab hT).isCodeTable,rfl,#[],c8,rfl,QS⟩)
    ·exact .inl (kept b o z e)
   ·by_cases z:b=PT
    ·subst z;exact⟨_,QS⟩
    ·exact⟨o,kept b o z e⟩
theorem ZbT{r:OpenSpec}{k:Nat}{q:Program}{loose:List Str}{XP:(Str->Option Value)->Heap->Prop}{YP:World->Heap->Prop}{d:DefRec}{K:Params->aq}{CX:jW}{ps:List Str}{sp:aq->Addr->Sp}
  (CI:r.wellSaid=true)(hdf:d.params.defaults=[])(bQ:r.args.length=ps.length)(hr:Room k callerA)(B9:(recsOf q).find? (fun e=>e.name==d.name)=some d)
  (hY:∀ (w:World)(h:Heap),YP w h->(K w.params).In h)
  (nT:∀ w:World,PySem.W.noTabs (K w.params)=true)
  (F:∀ (w:World)(mg:Str->Option Value)(fa:Addr)(h:Heap),YP w h->(K w.params).In h->h.Ns mainGlobals mg->mg d.name=some (.ref fa) ->
    ∃ (fd:FuncData)(c PT:Addr),PySem.W.tabIn (K w.params) d.name=some (c,PT)/\(∀ (s:Shared)(us:List Value),us.length=ps.length->BindsTo s fd ⟨us,[]⟩ (ps.zip us)) /\
     ∀ base:Heap,(K w.params).In base->base.Ns mainGlobals mg->PySem.W.CodeHd base c PT->base.BuiltinsAt mg PT->am r.prog w (K w.params) mg base CX k fa fd ps (sp (K w.params) PT))
  (kc:∀ (K:aq)(PT:Addr)(H:Hp)(xs:List V)(a:Codec.denoteAll r.args),H PT=none->Codec.withinAll r.args a=true->Codec.app r.args r.asked a=true->eD K H xs (Codec.encAll r.args a) ->
    sp K PT xs (upd H PT (.tbl #[])) (fun v H'=>Dw K H' v (r.ret.enc (Codec.app r.args r.f a))) fun _ _ _=>False)
  (JW:∀ (H:Hp)(s:Shared)(e:Value)(s':Shared),CX [] H s (fun _ _ _=>False) e s'->False):
  PySem.W.WalkOS q loose XP YP r d [] (fun f vs=>PySem.call f vs):=by
 intro w s_0 s₁ mg mb G Y fa o pm cd gW dV kV ho hd ji hD KB hg args iy as xj Kz QY vc QR;obtain⟨a,e1,e2⟩:=PySem.W.os_pre_some xj;obtain⟨e3,vb⟩:=Codec.encAll_of_decAll r.args args a e1;subst e3;have KX:=hY w _ Y;obtain⟨fd,c,PT,hti,hb,hF⟩:=F w mg fa _ Y KX G.T.g KB;obtain⟨hC,hT⟩:=PySem.W.tab_of G.T KX B9 hti;refine PySem.W.enter_call (dA (ZaL (R:=[]) (cl:=classAt s_0.heap) (d0:=r.ret.enc (Codec.app r.args r.f a)) KX (nT w) hC hT G.T.bmain G.T.g G.T.b G.T.builtins G.T.nolimit hg vc (OP _ _) (Z7T Kz) hr hF hb (by rw [Of];exact bQ)
  (fun H xs hS hP=>kc _ PT H xs a hP vb e2 hS) fun H e s'=>JW H s₁ e s') fun r' s' hq=>?_)
 obtain⟨u,uT,rfl,h1,h2,h3,h4⟩:=hq;exact⟨.inl ⟨u,_,uT,rfl,fun _=>rfl,h1,(OpenSpec.post_iff CI vb _ _).mpr rfl,fun z=>Bool.noConfusion (show false=true from z)⟩,h2,h3,h4⟩
end LM
end
section
namespace EX
open PySem PyProof.Rows HT
def cN:List Int->List Int->Bool
 |[],_=>true
 |_::_,[]=>false
 |x::xs,y::ys=>if x=y then cN xs ys else decide (x<=y)
theorem HV(x y:Int)(xs ys:List Int):cN (x::xs) (y::ys)=if x=y then cN xs ys else decide (x<=y):=rfl
theorem pF(A:Around)(s:Shared)(a:Int)(t:Tok)(c:Int)(u:Tok)(prog:Program)(w:World)(E:Value->Shared->Prop)(Q:Value->Shared->Prop)(h:Q (.bool (decide (a<=c))) s):
  wpAny (model prog w) A (richCompare .LtE (.int a t) (.int c u)) Q E s:=
 (PyProof.Rows.le_int h:wpAny (model prog w) A (compareOp .LtE (.int a t) (.int c u)) Q E s)
section
open PySem.SeqAt
open PySem.AutoSeq1 (wpAny_loadPart')
open PySem.MeetsSeq PySem.MeetsSeq2 PySem.MeetsSeq3
theorem Z8A(l b:Addr)(items dN:Array Value)(n n2:Nat)(dd zJ:Option Addr)(sl qP:Array (Option Value))(ns ms:List Int)(hi:IntsAre items.toList ns)(hj:IntsAre dN.toList ms):
  Meets (Builtin.«tuple.__le__» ⟨[.ref l,.ref b],[]⟩)
   (fun _ R s=>s.heap.get? l=some { cls:=.type "tuple",dict:=dd,data:=.seq items n,slots:=sl }/\s.heap.get? b=some { cls:=.type "tuple",dict:=zJ,data:=.seq dN n2,slots:=qP } /\
     R (.ok (.ret (.bool (cN ns ms)))) s):=
 .of_wp fun prog w A R s h=>by
  obtain⟨hp,g,d,tk,os⟩:=s;obtain⟨hl,hb,h⟩:=h;have f2:=AutoSeq1.sub_tuple_tuple;have z1:items.size=ns.length:=by rw [<-hi.length];simp
  have z2:dN.size=ms.length:=by rw [<-hj.length];simp
  wp_walk using jU hl,jU hb,wpAny_forIn_list _ (fun d9 b s'=>b.1=none/\s'=⟨hp,g,d,tk,os⟩/\∃ (vs ws:List Value)(Ae z8:List Int),d9=vs.zip ws /\
   IntsAre vs Ae/\IntsAre ws z8/\Ae.length+dN.size=z8.length+items.size/\R (.ok (.ret (.bool (cN Ae z8)))) ⟨hp,g,d,tk,os⟩) _
  case turn =>
   rintro⟨y,x⟩ d9 b s' ⟨j9,rfl,vs,ws,Ae,z8,hz,hvi,vb,bQ,hR⟩;cases hvi with
   |nil=>rw [List.zip_nil_left]at hz;cases hz
   |cons a t hvi' =>
    cases vb with
    |nil=>rw [List.zip_nil_right]at hz;cases hz
    |cons c u hwi' =>
     rw [E9]at hz;injection hz with CL hrest
     injection CL with hy hx
     subst hy hx;rw [HV]at hR;simp only [gC]at bQ;obtain⟨e,he,Cc⟩:=nR A.in1 ⟨hp,g,d,tk,os⟩ a t c u;refine aa (he prog w _ _ ?_);cases e with
     |true =>
      rw [ae (Cc.mp rfl)]at hR
      wp_walk
      exact⟨rfl,rfl,_,_,_,_,hrest,hvi',hwi',by omega,hR⟩
     |false =>
      rw [ac (fun q=>absurd (Cc.mpr q) fi)]at hR;have hri:=pF A.in1 ⟨hp,g,d,tk,os⟩ a t c u prog w
      wp_walk using hri
      exact⟨_,rfl,by simpa using hR⟩
  case fin =>
   rintro⟨b1,b2⟩ s' ⟨j9,rfl,vs,ws,Ae,z8,hz,hvi,vb,bQ,hR⟩;simp only at j9;subst j9;have hv:cN Ae z8=decide (items.size<=dN.size):=by
    cases hvi with
    |nil =>
     simp only [lB]at bQ;exact(ai (by omega)).symm
    |cons a t hv =>
     cases vb with
     |nil =>
      simp only [lB,gC]at bQ;exact(aw (by omega)).symm
     |cons c u hw =>
      rw [E9]at hz;cases hz
   rw [hv]at hR
   wp_walk
   exact⟨_,rfl,by simpa [Builtin.Tuple.tupleCompareSizes]using hR⟩
  case h =>
   exact⟨rfl,rfl,items.toList,dN.toList,ns,ms,rfl,hi,hj,by omega,h⟩
end
section
variable{prog:Program}{w:World}{A:Around}{E:Value->Shared->Prop}{s:Shared}
theorem ZaS{l b:Addr}{items dN:Array Value}{ns ms:List Int}{Q:Value->Shared->Prop}(hl:IsTup s.heap l items)(hb:IsTup s.heap b dN)(hi:IntsAre items.toList ns)(hj:IntsAre dN.toList ms)
  (hu:A.units<cLine)(h:Q (.bool (cN ns ms)) s):wpAny (model prog w) A (compareOp .LtE (.ref l) (.ref b)) Q E s:=by
 obtain⟨⟨cls,dd,data,sl⟩,ho,hc,n,hd⟩:=id hl;obtain⟨⟨cls2,zJ,data2,qP⟩,ho2,gN,n2,hd2⟩:=id hb;simp only at hc hd gN hd2;subst hc hd gN hd2;exact richCompare_meets_room (op:=.LtE) ⟨_,ho,rfl⟩ ⟨_,ho2,rfl⟩ PySem.F.slot_tuple_le PySem.F.entry_tuple_le (PySem.F.args_tuple_le_2 _ _) (Z8A l b items dN n n2 dd zJ sl qP ns ms hi hj)
  ⟨ho,ho2,show Value.bool (cN ns ms)≠Value.notImplemented/\Q (.bool (cN ns ms)) s from⟨(fun x=>nomatch x),h⟩⟩ hu
end
open L2
def LS(K:aq):R2:=fun x y H Q=>∃ a b ns ms,x=.ref a/\y=.ref b/\SqT K H a (ns.map V.int)/\SqT K H b (ms.map V.int)/\Q (.bl (cN ns ms)) H
theorem yh{X:Cx}(hu:X.A.units<cLine):iC X (compareOp .LtE) (LS X.K):=by
 intro pins s σ H x y v u Q I rx ry h;obtain⟨a,b,ns,ms,rfl,rfl,ha,hb,q⟩:=h;cases rx;cases ry;obtain⟨its,r1,p1,_⟩:=I.tuple ha;obtain⟨gH,r2,p2,_⟩:=I.tuple hb;exact ZaS p1 p2 (Oa r1) (Oa r2) hu ⟨.bl (cN ns ms),H,I,rfl,q⟩
end EX
end
section
namespace RD
open PySem PySem.Spec PyProof.Rows L2 EX
section
variable{X:Cx}
theorem ay{x:Str}{v:V}{pos:Pos}(hg:Gl X x)(h:∃ u,X.mg x=some u/\RelV v u)(hd:autoParam ((x==("__debug__":Str))=false) aD._auto_1):PE X (.Name x pos) (tC v):=by
 obtain⟨u,a,b⟩:=h;exact Bb hg a b hd
end
theorem ss{K:aq}{a:Addr}{xs:List V}{g:TG}{tb:TS}{D:dI}{σ:L2.St}{H:Hp}(Pv:Nat->L2.St->Hp->Prop)(h0:Pv 0 σ H)(hl:∀ i σ H,i<=xs.length->Pv i σ H->SqL K H a xs)
  (hs:∀ i x σ H,i<xs.length->xs[xs.length-1-i]?=some x->Pv i σ H->g x σ H fun σ2 H2=>tb { D with nx:=Pv (i+1),ct:=Pv (i+1),bk:=D.nx } σ2 H2)(hd:∀ σ H,Pv xs.length σ H->D.nx σ H):
  ∃ W:Nat->Nat->L2.St->Hp->Prop,(∃ m,W 0 m σ H)/\∀ i m σ H,W i m σ H ->
   ((Au K a xs.length).stop i H/\D.nx σ H)\/((Au K a xs.length).go i H/\∃ N:L2.St->Hp->Prop,(∀ σ' H',N σ' H'->∃ m',m' < m/\W (i+1) m' σ' H')/\∀ x H',(Au K a xs.length).yld i H x H'->g x σ H' fun σ2 H2=>tb { D with nx:=N,ct:=N,bk:=D.nx } σ2 H2):=by
 refine⟨fun i m σ H=>m=xs.length-i/\i<=xs.length/\Pv i σ H,⟨xs.length,by simp,fk _,h0⟩,?_⟩
 rintro i m σ H ⟨rfl,hi,p⟩;have q:=hl i σ H hi p;by_cases cg:i<xs.length
 ·have hx:xs.length-1-i<xs.length:=by omega
  refine .inr ⟨⟨cg,xs,xs[xs.length-1-i],q,by simp [hx]⟩,Pv (i+1),fun σ' H' p'=>⟨xs.length-(i+1),by omega,rfl,cg,p'⟩,fun x H' y=>?_⟩
  obtain⟨e,y⟩:=y;subst e;exact hs i x σ _ cg (y xs q) p
 ·have e:i=xs.length:=by omega
  subst e;exact .inl ⟨bO _,hd σ H p⟩
def Only(r:Addr)(H H':Hp):Prop:=∀ b o,H b=some o->b≠r->H' b=some o
theorem Only.refl(r:Addr)(H:Hp):Only r H H:=fun _ _ h _=>h
theorem Only.trans{r:Addr}{H H1 H2:Hp}(a:Only r H H1)(b:Only r H1 H2):Only r H H2:=fun c o h n=>b c o (a c o h n) n
theorem Only.upd{r:Addr}{H:Hp}(o:HO):Only r H (L2.upd H r o):=fun b o' h n=>by rw [aj n];exact h
theorem Only.new{r a:Addr}{H H1:Hp}{o:HO}(h:Only r H H1)(n:H1 a=none):Only r H (L2.upd H1 a o):=fun b o' e hb=>by
 have e1:=h b o' e hb;rw [aj (ba e1 n)];exact e1
theorem Same.new{a:Addr}{H:Hp}{o:HO}(n:H a=none):Same H (L2.upd H a o):=fun b o' e=>by
 rw [aj (ba e n)];exact e
theorem Only.sq{K:aq}{r a C dx:Addr}{fs:List (Str×V)}{H H':Hp}{xs:List V}(h:Only r H H')(hr:H r=some (.ins C dx fs))(s:SqL K H a xs):SqL K H' a xs:=by
 rcases s with(s |⟨o,s⟩) |s
 ·exact .inl (.inl (h _ _ s (az s hr (by intro z;cases z))))
 ·exact .inl (.inr ⟨o,h _ _ s (az s hr (by intro z;cases z))⟩)
 ·exact .inr s
theorem Only.sqT{K:aq}{r a C dx:Addr}{fs:List (Str×V)}{H H':Hp}{xs:List V}(h:Only r H H')(hr:H r=some (.ins C dx fs))(s:SqT K H a xs):SqT K H' a xs:=by
 rcases s with(s |⟨o,s⟩) |s
 ·exact .inl (.inl (h _ _ s (az s hr (by intro z;cases z))))
 ·exact .inl (.inr ⟨o,h _ _ s (az s hr (by intro z;cases z))⟩)
 ·exact .inr s
theorem Same.sqT{K:aq}{H H':Hp}{a:Addr}{xs:List V}(e:Same H H')(h:SqT K H a xs):SqT K H' a xs:=by
 rcases h with(h |⟨o,h⟩) |h
 ·exact .inl (.inl (e _ _ h))
 ·exact .inl (.inr ⟨o,e _ _ h⟩)
 ·exact .inr h
def rf(a:Addr)(p:Int):List (Str×V):=[("form",.ref a),("place",.int p)]
theorem zt(a:Addr)(p:Int):(rf a p).lookup ("form":Str)=some (.ref a):=by
 unfold rf;rw [bi,show(("form":Str)=="form")=true by decide]
theorem l5(a:Addr)(p:Int):(rf a p).lookup ("place":Str)=some (.int p):=by
 unfold rf;rw [bi,show(("place":Str)=="form")=false by decide,bi,show(("place":Str)=="place")=true by decide]
theorem cy(a:Addr)(p:Int){m:Str}(h:(m=="form")=false)(h':(m=="place")=false):(rf a p).lookup m=none:=by
 unfold rf;rw [bi,h,bi,h'];rfl
theorem pJ(a:Addr)(p q:Int):dy "place" (.int q) (rf a p)=rf a q:=by
 unfold rf dy;rw [ac (by decide)]
 unfold dy;rw [ae rfl]
theorem DI(a:Addr)(p:Int):dy "place" (.int p) (dy "form" (.ref a) [])=rf a p:=by
 unfold rf;show dy "place" (.int p) [("form",.ref a)]=_;unfold dy;rw [ac (by decide)]
 rfl
def dX(C:Addr)(H:Hp)(r a:Addr)(p:Nat):Prop:=∃ dx,H r=some (.ins C dx (rf a p))
def xf(rule dH EK:Int):List (Str×V):=[("which",.int EK),("place",.int dH),("rule",.int rule)]
theorem qu(r p w:Int):(xf r p w).lookup ("which":Str)=some (.int w):=by
 unfold xf;rw [bi,show(("which":Str)=="which")=true by decide]
theorem Ow(r p w:Int):(xf r p w).lookup ("place":Str)=some (.int p):=by
 unfold xf;rw [bi,show(("place":Str)=="which")=false by decide,bi,show(("place":Str)=="place")=true by decide]
theorem Qc(r p w:Int):(xf r p w).lookup ("rule":Str)=some (.int r):=by
 unfold xf;rw [bi,show(("rule":Str)=="which")=false by decide,bi,show(("rule":Str)=="place")=false by decide,bi,show(("rule":Str)=="rule")=true by decide]
def Flt(CF:Addr)(E:XK)(H:Hp)(r:Addr)(rule dH:Int):Prop:=∀ H' dx,Only r H H'->H' dx=some (.xd (xf rule dH 0))->E (.ref CF) (some dx) H'
theorem Flt.only{CF:Addr}{E:XK}{H H1:Hp}{r:Addr}{rule dH:Int}(f:Flt CF E H r rule dH)(o:Only r H H1):Flt CF E H1 r rule dH:=fun H' dx o' h=>f H' dx (o.trans o') h
def fu(l:List Int):Int:=l.foldr (fun b n=>b+256*n) 0
noncomputable def aX(bs:List Int)(p size:Nat)(lo hi:Int):Except (Int×Int) Int:=
 if bs.length<p+size then .error (5,bs.length)else
 if fu ((bs.drop p).take size)<lo\/hi<fu ((bs.drop p).take size)then .error (2,p)else .ok (fu ((bs.drop p).take size))
noncomputable def bY(bs:List Int):Nat->List Int->Except (Int×Int) Nat
 |p,[]=>.ok p
 |p,m::ms=>if p=bs.length then .error (5,p)else if bs[p]?≠some m then .error (1,p)else bY bs (p+1) ms
theorem rW(xs:List V)(p q:Nat)(h:q<=xs.length)(hp:p<=q):j5 xs (some (p:Int)) (some (q:Int))=(xs.drop p).take (q-p):=by
 unfold j5;rw [HT.sIx_nat,HT.sIx_nat,Nat.min_eq_left h,Nat.min_eq_left (iE hp h)]
theorem ZbG{l:List Int}{i:Nat}{x:Int}(hi:i<l.length)(h:l[l.length-1-i]?=some x):fu (l.drop (l.length-(i+1)))=fu (l.drop (l.length-i))*256+x:=by
 have h1:l.length-(i+1)<l.length:=by omega
 have e1:l.length-1-i=l.length-(i+1):=by omega
 rw [e1]at h;have e2:l.length-(i+1)+1=l.length-i:=by omega
 have hx:l[l.length-(i+1)]=x:=by
  rw [dv h1]at h;exact Option.some.inj h
 rw [Hd h1,e2,hx];show x+256*fu (l.drop (l.length-i))=_;omega
section
variable{X:Cx}
theorem PP(K:aq)(hK:X.K=K){e:Expr}{f:Str}{pos:Pos}{ta:TE}(he:PE X e ta)(hb:attributeBase e f X.env (eval e X.env)=eval e X.env):PE X (.Attribute e f pos) (Eo K ta f):=by subst hK;exact br he hb
def Tups(H:Hp)(ts:List Addr)(ls:List (List Int)):Prop:=ts.length=ls.length/\∀ (j:Nat)(t:Addr)(m:List Int),ts[j]?=some t->ls[j]?=some m->H t=some (.tup (m.map V.int))
theorem Tups.same{H H':Hp}{ts:List Addr}{ls:List (List Int)}(h:Tups H ts ls)(k:∀ b xs,H b=some (.tup xs)->H' b=some (.tup xs)):Tups H' ts ls:=⟨h.1,fun j t m a b=>k _ _ (h.2 j t m a b)⟩
theorem Tups.snoc{H:Hp}{ts:List Addr}{ls:List (List Int)}{t:Addr}{m:List Int}(h:Tups H ts ls)(ht:H t=some (.tup (m.map V.int))):Tups H (ts++[t]) (ls++[m]):=by
 refine⟨by simp [h.1],fun j t' m' a b=>?_⟩
 rw [List.getElem?_append]at a b;rw [h.1]at a;split at a
 ·rename_i hj;rw [ae hj]at b;exact h.2 j t' m' a b
 ·rename_i hj;rw [ac hj]at b;cases z:j-ls.length with
  |zero =>
   rw [z]at a b;cases a;cases b;exact ht
  |succ n=>rw [z]at a;simp at a
open Classical in
end
end RD
end
section
namespace L2
open PySem PySem.Spec PyProof.Rows
theorem Fj{K:aq}{a:Addr}{xs:List V}{g:TG}{tb:TS}{D:dI}{σ:St}{H:Hp}(Pv:Nat->St->Hp->Prop)(h0:Pv 0 σ H)(hl:∀ i σ H,i<=xs.length->Pv i σ H->SqL K H a xs)
  (hs:∀ i x σ H T,xs[i]?=some x->Pv i σ H->H T=none->g (.ref T) σ (upd H T (.tup [.int (i:Nat),x])) fun σ2 H2=>tb { D with nx:=Pv (i+1),ct:=Pv (i+1),bk:=D.nx } σ2 H2)(hd:∀ σ H,Pv xs.length σ H->D.nx σ H):
  ∃ W:Nat->Nat->St->Hp->Prop,(∃ m,W 0 m σ H)/\∀ i m σ H,W i m σ H ->
   ((As K a).stop i H/\D.nx σ H)\/((As K a).go i H/\∃ N:St->Hp->Prop,(∀ σ' H',N σ' H'->∃ m',m' < m/\W (i+1) m' σ' H')/\∀ x H',(As K a).yld i H x H'->g x σ H' fun σ2 H2=>tb { D with nx:=N,ct:=N,bk:=D.nx } σ2 H2):=by
 refine⟨fun i m σ H=>m=xs.length-i/\i<=xs.length/\Pv i σ H,⟨xs.length,by simp,fk _,h0⟩,?_⟩
 rintro i m σ H ⟨rfl,hi,p⟩;have q:=hl i σ H hi p;by_cases cg:i<xs.length
 ·refine .inr ⟨⟨xs,xs[i],q,by simp [cg]⟩,Pv (i+1),fun σ' H' p'=>⟨xs.length-(i+1),by omega,rfl,cg,p'⟩,fun x H' y=>?_⟩
  obtain⟨T,y,rfl,hT,rfl,h⟩:=y;exact hs i y σ _ T (h xs q) p hT
 ·have e:i=xs.length:=by omega
  subst e;exact .inl ⟨⟨xs,q,bO _⟩,hd σ H p⟩
theorem IU{n j:Nat}(h:j<n):qN n (j:Int)=some j:=by
 unfold qN;rw [ae (by omega),ae (by omega)]
 simp
section
variable{X:Cx}
def DC(K:aq):V->V->Hp->VK->Prop:=fun x y H Q=>∃ (p:Addr)(xs:List V)(j:Nat)(v:V),x=.ref p/\y=.int (j:Int)/\SqL K H p xs/\xs[j]?=some v/\Q v H
theorem O6:Ay X (DC X.K):=by
 intro pins s σ H o i ov iv Q I ro ri h;obtain⟨p,xs,j,z,rfl,rfl,hq,he,q⟩:=h;cases ro;obtain⟨t,rfl⟩:=ri;obtain⟨its,r,pl,hz⟩:=I.list hq;obtain⟨w,ew,gJ⟩:=r.get he;have hl:=r.length;have hn:=zC;have hj:=(eg.mp he).1;exact wpAny_getItem_list pl.isList (by omega) (by omega) (by simpa using ew) ⟨z,H,I,gJ,q⟩
end
def Bu(P:Program)(w:World)(a:Addr)(xs:List (List Key×Addr×Value))(h:Heap):Prop:=
 ∃ o es ep,h.get? a=some o/\o.ExactDict/\o.data=.dict es ep/\es.toList=xs.map (entryOfKey (tupleKind (gS P w)))/\(xs.map (·.1)).Nodup
def gQ(P:Program)(w:World)(a:Addr)(xs:List (List Key×Addr×Value)):HO:=.ext (Bu P w a xs)
theorem nI{P:Program}{w:World}{H:Hp}{h:Heap}{a:Addr}{xs:List (List Key×Addr×Value)}(p:Bu P w a xs h):ObjOk P w H h a (gQ P w a xs):=by
 refine⟨p,?_,fun h1 h2 q k=>?_⟩
 ·obtain⟨o,_,_,e,_⟩:=p;exact⟨o,e⟩
 ·obtain⟨o,es,ep,e,r⟩:=q;exact⟨o,es,ep,k o e,r⟩
abbrev KX(K:aq)(H:Hp):List (List Key×V)->List (List Key×Addr×Value)->Prop:=Paired fun p q=>p.1=q.1/\SqT K H q.2.1 (p.1.map kV)/\RelV p.2 q.2.2
structure DX(K:aq)(P:Program)(w:World)(H:Hp)(a:Addr)(ah:List (List Key×V))(xs:List (List Key×Addr×Value)):Prop where
 at_:H a=some (gQ P w a xs)
 rel:KX K H ah xs
 len:ah.length<=sizeLine
 sys:(a==sysModules)=false
def DXe(K:aq)(P:Program)(w:World)(H:Hp)(a:Addr)(ah:List (List Key×V)):Prop:=∃ xs,DX K P w H a ah xs
theorem SqT.keep{K:aq}{H H':Hp}{a:Addr}{xs:List V}(h:SqT K H a xs)(k:∀ o,H a=some o->H' a=some o):SqT K H' a xs:=by
 rcases h with(h |⟨o,h⟩) |h
 ·exact .inl (.inl (k _ h))
 ·exact .inl (.inr ⟨o,k _ h⟩)
 ·exact .inr h
theorem KX.keep{K:aq}{H H':Hp}{ah:List (List Key×V)}{xs:List (List Key×Addr×Value)}(h:KX K H ah xs)(k:∀ b ys,SqT K H b ys->SqT K H' b ys):KX K H' ah xs:=Paired.mapP h fun _ _ z=>⟨z.1,k _ _ z.2.1,z.2.2⟩
theorem DX.keep{K:aq}{P:Program}{w:World}{H H':Hp}{a:Addr}{ah:List (List Key×V)}{xs:List (List Key×Addr×Value)}(d:DX K P w H a ah xs)(h1:∀ o,H a=some o->H' a=some o)(k:∀ b ys,SqT K H b ys->SqT K H' b ys):DX K P w H' a ah xs:=
 ⟨h1 _ d.at_,d.rel.keep k,d.len,d.sys⟩
theorem DXe.same{K:aq}{P:Program}{w:World}{H H':Hp}{a:Addr}{ah:List (List Key×V)}(d:DXe K P w H a ah)(s:Same H H'):DXe K P w H' a ah:=
 by obtain⟨xs,d⟩:=d;exact⟨xs,d.keep (fun o e=>s _ _ e) fun b ys h=>h.keep fun o e=>s _ _ e⟩
theorem KX.val{K:aq}{H:Hp}{ah:List (List Key×V)}{xs:List (List Key×Addr×Value)}(r:KX K H ah xs)(k:List Key):RelO (aL ah k) ((atKey xs k).map (·.2)):=by
 induction r with
 |nil=>exact True.intro
 | @cons p q ps qs h t ih =>
  obtain⟨h1,_,h2⟩:=h;by_cases e:p.1=k
  ·have e':q.1=k:=h1.symm.trans e;have b:atKey (q::qs) k=some q.2:=by simp [atKey,qY,e']
   rw [lF e,b];exact h2
  ·have e':¬ q.1=k:=fun z=>e (h1.trans z);have b:atKey (q::qs) k=atKey qs k:=by simp [atKey,qY,e']
   rw [ku e,b];exact ih
theorem KX.repl{K:aq}{H:Hp}{ah:List (List Key×V)}{xs:List (List Key×Addr×Value)}(r:KX K H ah xs)(k:List Key){y:V}{u:Value}(ry:RelV y u):
  KX K H (ah.map fun kv=>if kv.1=k then(kv.1,y)else kv) (xs.map (putAt k u)):=by
 induction r with
 |nil=>exact .nil
 | @cons p q ps qs h t ih =>
  rw [ej,ej];refine .cons ?_ ih;obtain⟨h1,h2,h3⟩:=h;unfold putAt;by_cases e:p.1=k
  ·rw [ae e,ae (h1.symm.trans e)];exact⟨h1,h2,ry⟩
  ·rw [ac e,ac (fun z=>e (h1.trans z))];exact⟨h1,h2,h3⟩
theorem KX.put{K:aq}{H:Hp}{ah:List (List Key×V)}{xs:List (List Key×Addr×Value)}(r:KX K H ah xs)(k:List Key){b:Addr}{y:V}{u:Value}(hb:SqT K H b (k.map kV))(ry:RelV y u):
  KX K H (aG ah k y) (storedH xs k b u):=by
 have e:(ah.any fun kv=>decide (kv.1=k))=(atKey xs k).isSome:=by
  rw [v0,(r.val k).isSome_eq,AD]
 unfold aG storedH;rw [e];by_cases q:(atKey xs k).isSome=true
 ·rw [ae q,ae q];exact r.repl k ry
 ·rw [ac q,ac q];exact Paired.snoc r ⟨rfl,hb,ry⟩
section
variable{X:Cx}{pins:List (Addr×Obj)}{σ:St}{H:Hp}{s:Shared}{a b:Addr}{y v d:V}{u r:Value}{A:Around}{E:Value->Shared->Prop}{ah:List (List Key×V)}{xs:List (List Key×Addr×Value)}{k:List Key}
theorem oz(I:Inv X pins σ H s)(h:SqT X.K H b (k.map kV)):(tupleKind (gS X.prog X.w)).is s.heap k b:=by
 obtain⟨its,r,⟨o,h1,h2,n,h3⟩,_⟩:=I.tuple h;exact⟨o,its.toArray,n,h1,h2,h3,by simpa using IH r⟩
theorem fm(I:Inv X pins σ H s)(d:DX X.K X.prog X.w H a ah xs):s.heap.DictOfH (tupleKind (gS X.prog X.w)) a xs:=by
 obtain⟨⟨o,es,ep,h1,h2,h3,h4,h5⟩,_⟩:=(show ObjOk X.prog X.w H s.heap a (gQ X.prog X.w a xs)from I.hok a _ d.at_);refine⟨o,es,ep,h1,h2,h3,h4,?_,h5⟩;have all:∀ {l:List (List Key×V)}{m:List (List Key×Addr×Value)},KX X.K H l m->∀ x∈m,(tupleKind (gS X.prog X.w)).is s.heap x.1 x.2.1:=by
  intro l m q
  induction q with
  |nil=>intro x hx;exact nomatch hx
  | @cons p q ps qs hq t ih =>
   intro x hx;rcases bw.mp hx with e |hx
   ·subst e;exact oz I (by rw [<-hq.1];exact hq.2.1)
   ·exact ih x hx
 exact all d.rel
theorem wH{Q:Value->Shared->Prop}(hu:A.units+1<cLine)(I:Inv X pins σ H s)(d:DX X.K X.prog X.w H a ah xs)(hk:SqT X.K H b (k.map kV))(l:aL ah k=some v)(h:∀ w' s',Inv X pins σ H s'->RelV v w'->Q w' s'):
  wpAny (model X.prog X.w) A (getItem (.ref a) (.ref b)) Q E s:=by
 obtain⟨w',hw,gJ⟩:=RelO.some_of (v:=v) (o:=(atKey xs k).map (·.2)) (by rw [<-l];exact d.rel.val k)
 obtain⟨p,hp,Cj⟩:=EW.mp hw;refine wpAny_getItem_heap (bj hu) (oz I hk) (fm I d) hp ?_;rw [Cj];exact h w' _ (I.tok _) gJ
theorem nO{Q:Value->Shared->Prop}(hu:A.units+1<cLine)(I:Inv X pins σ H s)(d:DX X.K X.prog X.w H a ah xs)(hk:SqT X.K H b (k.map kV))(h:∀ s',Inv X pins σ H s'->Q (.bool (!(aL ah k).isSome)) s'):
  wpAny (model X.prog X.w) A (compareOp .NotIn (.ref b) (.ref a)) Q E s:=by
 refine wpAny_notIn_heap (bj hu) (oz I hk) d.sys (fm I d) ?_;have q:=(d.rel.val k).isSome_eq;rw [AD]at q;rw [<-q];exact h _ (I.tok _)
theorem sh{Q:Value->Shared->Prop}(hu:A.units+1<cLine)(I:Inv X pins σ H s)(dd:DX X.K X.prog X.w H a ah xs)(hk:SqT X.K H b (k.map kV))(rd:RelV d r)(h:∀ w' s',Inv X pins σ H s'->RelV ((aL ah k).getD d) w'->Q w' s'):
  wpAny (model X.prog X.w) A (call (.builtin "dict.get") [.ref a,.ref b,r]) Q E s:=by
 have dh:=fm I dd;refine call_meetsIn PySem.F.slot_dict_get dh.typeIs PySem.F.entry_dict_get (PySem.F.args_dict_get_3 _ _ _) (meetsH_dict_get_default (tupleKind (gS X.prog X.w)) a b dd.sys r) ⟨bj hu,k,xs,oz I hk,dh,h _ _ (I.tok _) ?_⟩;exact(dd.rel.val k).getD rd
theorem wI{Q:Unit->Shared->Prop}(hu:A.units+1<cLine)(I:Inv X pins σ H s)(d:DX X.K X.prog X.w H a ah xs)(hk:SqT X.K H b (k.map kV))(rv:RelV v r)(hl:ah.length<sizeLine)
  (h:∀ s' H',(∀ c o,H c=some o->c≠a->H' c=some o)->DX X.K X.prog X.w H' a (aG ah k v) (storedH xs k b r)->Inv X pins σ H' s'->Q () s'):
  wpAny (model X.prog X.w) A (setItem (.ref a) (.ref b) r) Q E s:=by
 have hz:xs.length<=sizeLine:=by rw [<-Paired.length d.rel];exact d.len
 refine wpAny_setItem_heap (hsz:=hz) (bj hu) (oz I hk) (fm I d) fun h' mh hs=>?_;obtain⟨q,es,ep,hq,h2,h3,h4,_,h5⟩:=mh;have kp:∀ b' ys,SqT X.K H b' ys->SqT X.K (upd H a (gQ X.prog X.w a (storedH xs k b r))) b' ys:=fun b' ys z=>by
  rcases z with(z |⟨o,z⟩) |z
  ·exact .inl (.inl (by rw [aj (az z d.at_ (by intro y;cases y))];exact z))
  ·exact .inl (.inr ⟨o,by rw [aj (az z d.at_ (by intro y;cases y))];exact z⟩)
  ·exact .inr z
 refine h _ (upd H a (gQ X.prog X.w a (storedH xs k b r))) (fun c o e n=>by rw [aj n];exact e) ⟨Z2j,(d.rel.put k hk rv).keep kp,?_,d.sys⟩ (Bg I (by rw [d.at_];exact True.intro) hs ⟨q,hq⟩ (nI ⟨q,es,ep,hq,h2,h3,h4,h5⟩))
 have:=mL ah k v;omega
end
def Es(P:Program)(w:World):TE:=fun _ H Q=>∀ p,H p=none->(p==sysModules)=false->Q (.ref p) (upd H p (gQ P w p []))
def Ep(K:aq)(P:Program)(w:World)(td ty:TE):TE:=fun σ H Q=>td σ H fun x H1=>ty σ H1 fun y H2=>∃ a b ah k v,x=.ref a/\y=.ref b/\DXe K P w H2 a ah/\SqT K H2 b (k.map kV)/\aL ah k=some v/\Q v H2
def yN(K:aq)(P:Program)(w:World)(td ty tx:TE):TE:=fun σ H Q=>td σ H fun x H1=>∃ a ah,x=.ref a/\DXe K P w H1 a ah/\ty σ H1 fun y H2=>tx σ H2 fun z H3=>∃ b k,y=.ref b/\DXe K P w H3 a ah/\SqT K H3 b (k.map kV)/\Q ((aL ah k).getD z) H3
def DP(K:aq)(P:Program)(w:World)(td ty tv:TE):TS:=fun D σ H=>tv σ H fun v H1=>td σ H1 fun x H2=>ty σ H2 fun y H3=>∃ a b ah k,x=.ref a/\y=.ref b/\DXe K P w H3 a ah/\SqT K H3 b (k.map kV)/\ah.length<sizeLine /\
 ∀ H4,(∀ c o,H3 c=some o->c≠a->H4 c=some o)->DXe K P w H4 a (aG ah k v)->D.nx σ H4
theorem DX.empty{K:aq}{P:Program}{w:World}{H:Hp}{p:Addr}(h:(p==sysModules)=false):DXe K P w (upd H p (gQ P w p [])) p []:=⟨[],Z2j,.nil,fk _,h⟩
section
variable{X:Cx}{o e f i value:Expr}{pos eX cF bt:Pos}{td ty tx tv:TE}
theorem Ps:PE X (.Dict [] [] pos) (Es X.prog X.w):=fun pins s σ H Q I h=>by
 have hs:(s.heap.objs.size==sysModules)=false:=by
  have:=I.big;rw [aP];exact ko this
 refine EL ⟨.ref s.heap.objs.size,_,I.laid (a:=s.heap.objs.size) (o:=gQ X.prog X.w s.heap.objs.size []) (t':=s.toks) (fun _ _ q=>dE _ q) (bO _) (nI ?_),rfl,h _ (I.hok.fresh (bO _)) hs⟩;exact⟨_,#[],0,fj _ rfl,⟨rfl,rfl,rfl⟩,rfl,rfl,uJ⟩
theorem PH(hu:X.A.units+1<cLine)(ho:PE X o td)(hi:PE X i ty)(hs:vO i):PE X (.Subscript o i pos) (Ep X.K X.prog X.w td ty):=by
 intro pins s σ H Q I h;refine PD PySem.F.slot_dict_getitem.lookup hs (aQ (ho pins s σ H _ I h) fun u s1 ⟨x,H1,I1,rx,q1⟩=>aQ (hi pins s1 σ H1 _ I1 q1) fun iv s2 zz=>?_);obtain⟨y,H2,I2,ry,a,b,ah,k,v,ex,ey,⟨xs,d⟩,hk,l,q2⟩:=zz;subst ex ey;obtain rfl:u=Value.ref a:=rx;obtain rfl:iv=Value.ref b:=ry;exact⟨(fm I2 d).typeIs,wH hu I2 d hk l fun w' s3 I3 gJ=>⟨v,H2,I3,gJ,q2⟩⟩
theorem oX(hu:X.A.units+1<cLine)(ho:PE X o td)(he:PE X e ty)(hf:PE X f tx)(m:M2 X o "get" cF e f bt):PE X (.Call (.Attribute o "get" cF) [e,f] [] bt) (yN X.K X.prog X.w td ty tx):=by
 intro pins s σ H Q I h;refine yV m.base m.few m.line PySem.F.plainAttrs_dict PySem.F.slot_dict_get PySem.F.type_dict_get (aQ (ho pins s σ H _ I h) fun u s1 zz=>?_);obtain⟨x,H1,I1,rx,a,ah,ex,⟨xs,d⟩,q1⟩:=zz;subst ex;obtain rfl:u=Value.ref a:=rx;have dh:=fm I1 d;refine⟨dh.typeIs,fun b q=>?_,?_⟩
 ·cases q;obtain⟨ob,_,_,h1,h2,_⟩:=dh;exact⟨ob,h1,h2.2.1⟩
 rw [m.trees];refine Calls.callWith_builtin rfl (Calls.evalArgs_plain (Calls.spliced_cons (aQ (he pins s1 σ H1 _ I1 q1) fun iv s2 ⟨y,H2,I2,ry,q2⟩ =>
  Calls.spliced_cons (aQ (hf pins s2 σ H2 _ I2 q2) fun fv s3 ⟨z,H3,I3,rz,b,k,ey,⟨jV,d'⟩,hk,q3⟩=>Calls.spliced_nil ?_))))
 subst ey;obtain rfl:iv=Value.ref b:=ry;exact sh hu I3 d' hk rz fun w' s4 I4 gJ=>⟨_,H3,I4,gJ,q3⟩
theorem P2(hu:X.A.units+1<cLine)(ho:PE X o td)(hi:PE X i ty)(hv:PE X value tv)(hs:swapsWith value (some (.Subscript o i eX)) pos.line X.env=pure false):
  PS X (.Assign [.Subscript o i eX] value pos) (DP X.K X.prog X.w td ty tv):=by
 intro pins s σ H D I h;refine wpAny_Assign_Subscript (aQ (hv pins s σ H _ I h) fun r s1 ⟨v,H1,I1,rv,q1⟩=>aQ (ho pins s1 σ H1 _ I1 q1) fun u s2 ⟨x,H2,I2,rx,q2⟩=>aQ (hi pins s2 σ H2 _ I2 q2) fun iv s3 zz=>?_) hs;obtain⟨y,H3,I3,ry,a,b,ah,k,ex,ey,⟨xs,d⟩,hk,hl,q3⟩:=zz;subst ex ey;obtain rfl:u=Value.ref a:=rx;obtain rfl:iv=Value.ref b:=ry;exact wI hu I3 d hk rv hl fun s4 H4 k4 d4 I4=>⟨σ,H4,I4,q3 H4 k4 ⟨_,d4⟩⟩
end
section
variable{prog:Program}{w:World}{A:Around}{E:Value->Shared->Prop}{s:Shared}
theorem Z9R(hh:A.handled=none)(it d:Addr)(bV:d≠it){o:Obj}{es:Array DictEntry}{ep n:Nat}(gf:o.data=.dict es ep)(hn:es.size=n):
  Walks prog w A it [it,d] [it] n (fun i v=>∃ en,es[i]?=some en/\v=en.key) (fun i h=>h.IsKeyIter it d i n ep/\h.get? d=some o) where
 sub:=fun b hb=>by simp at hb;simp [hb]
 frame:=fun _ _ _ st hk=>⟨st.1.at fun o e=>hk it (by simp) o e,hk d (by simp) o st.2⟩
 item:=fun i s Q E hi st hQ=>by
  have hx:es[i]?=some es[i]:=AE (by omega)
  refine Z8y st.1 st.2 gf hn hx fun h' jG sb=>?_;exact hQ _ h' s.toks ⟨_,hx,rfl⟩ ⟨jG,(sb.2 d bV).trans st.2⟩ fun b o hb e=>(sb.2 b (fun h=>hb (by simp [h]))).trans e
 done:=fun s Q E st hQ=>Z8T hh st.1 st.2 gf hn (bO _) fun h' B5=>hQ h' s.toks fun b o hb e=>B5 b o (fun h=>hb (by simp [h])) e
 self:=fun _ _ _ _ st hQ=>wpAny_pyIter_keyiter st.1 hQ
theorem Z9H{v d:Addr}{o:Obj}{es:Array DictEntry}{ep:Nat}{Q:Value->Shared->Prop}(hv:PySem.W.KdlKeysView s.heap v d)(ho:s.heap.get? d=some o)(sG:o.data=.dict es ep)
  (hQ:Q (.ref s.heap.objs.size) { s with heap:=s.heap.push { cls:=.type "dict_keyiterator",data:=.fields #[.ref d,.int 0 0,.int es.size 0,.int ep 0] } }):
  wpAny (model prog w) A (pyIter (.ref v)) Q E s:=by
 obtain⟨ov,KN,hcv,Ki⟩:=id hv;refine wpAny_pyIter_slot hv.typeIs PySem.W.kdl_slot_keys_iter (cG PySem.W.kdl_slot_keys_iter hv.typeIs PySem.W.kdl_entry_keys_iter ?_ (PySem.W.kdl_args_keys_iter _));unfold Builtin.«dict_keys.__iter__»;refine aa (af ?_);refine aa ?_;unfold Builtin.Dict_items.dictOf;refine aa (aN KN Ki (x:=.ref d) rfl (af ?_));refine aa ?_;unfold Builtin.Dict_items.newIterator;refine aa (df ho sG ?_);refine aa (dU ho sG ?_);have g9:Builtin.Dict_items.ownsTuple "dict_keyiterator" = false:=by decide
 simp only [g9,AC,bv];refine aA (af ⟨_,rfl,"dict_keyiterator",_,⟨_,fj _ rfl,rfl⟩,PySem.F.slot_dict_keyiterator_next.lookup,?_⟩);simpa [rawInt]using hQ
theorem Zbh{r d:Addr}{o:Obj}{es:Array DictEntry}{ep n:Nat}(gf:o.data=.dict es ep)(hn:es.size=n):
  PySem.W.KdlSrc prog w "dict_keys" r d n (fun i v=>∃ en,es[i]?=some en/\v=en.key) (fun h=>PySem.W.KdlKeysView h r d/\h.get? d=some o) where
 type:=fun _ hm=>hm.1.typeIs
 there:=fun _ hm=>⟨by obtain⟨_,ho,_⟩:=hm.1;exact cz ho,cz hm.2⟩
 keep:=fun _ _ hm hk=>⟨by obtain⟨o,ho,x⟩:=hm.1;exact⟨o,hk r (.inl rfl) o ho,x⟩,hk d (.inr rfl) _ hm.2⟩
 notList:=by decide
 notTuple:=by decide
 hint:=fun _ _ _ _ hm hq=>PySem.W.kdl_hint_keys hm.1.typeIs hq
 iter:=fun _ s hh hm=>⟨_,_,(fun _ _ hq=>Z9H hm.1 hm.2 gf hq),Z9R hh _ d (eG (cz hm.2)) gf hn,⟨⟨_,fj _ rfl,rfl,by rw [hn];rfl⟩,dE _ hm.2⟩⟩
theorem Z9J{R:List Value->Shared->Prop}{T:String}{r d:Addr}{n:Nat}{P:Nat->Value->Prop}{OK:Heap->Prop}(S:PySem.W.KdlSrc prog w T r d n P OK)(hh:A.handled=none)(hok:OK s.heap)(hn:n<=sizeLine)
  (h:∀ (h':Heap)(tk:Nat)(acc:Array Value),(∀ b o,s.heap.get? b=some o->h'.get? b=some o)->s.heap.objs.size<=h'.objs.size->ItemsOf P acc n->R acc.toList { s with heap:=h',toks:=tk }):
  wpAny (model prog w) A (collect (.ref r)) R E s:=by
 have hr:=(S.there _ hok).1;have hd:=(S.there _ hok).2;unfold collect;refine aa (wpAny_runValue (codeAny_builtin PySem.F.entry_proto_collect ?_));rw [Around.under_plainId PySem.F.plain_proto_collect _];show wpAny _ A.in1 (newList [] >>= fun l=>again (.builtin "list.__iadd__" ⟨[l,.ref r],[]⟩)) _ _ s;refine aa (aA ?_);refine af ⟨plainId_quiet PySem.F.plain_list_iadd _,codeAny_builtin PySem.F.entry_list_iadd ?_⟩;rw [Around.under_plainId PySem.F.plain_list_iadd _];have hS₁:(s.heap.push { cls:=.type "list",data:=.seq ([]:List Value).toArray }).get? s.heap.objs.size=some { cls:=.type "list",data:=.seq #[] }:=fj _ rfl;show wpAny _ A.in1 (Builtin.List.listExtendWith (.ref s.heap.objs.size) (.ref r) (.ref s.heap.objs.size)) _ _ _;have key:=PySem.W.kdl_extend (A:=A) (s:={ s with heap:=s.heap.push { cls:=.type "list",data:=.seq ([]:List Value).toArray } })
  (R:=fun(q:Result)(s':Shared)=>∃ (h':Heap)(tk:Nat)(jq:Array Value)(c':Nat),q=.ok (.ret (.ref s.heap.objs.size))/\s'={ s with heap:=h',toks:=tk } /\
    (∀ b o,s.heap.get? b=some o->h'.get? b=some o)/\h'.get? s.heap.objs.size=some { cls:=.type "list",dict:=none,data:=.seq jq c',slots:=#[] }/\ItemsOf P jq n)
  S hh (S.keep _ _ hok fun b _ o e=>dE _ e) s.heap.objs.size (ko hr) (ko hd) (.ref s.heap.objs.size) 0 hS₁
  (fun h' tk jq c' hk qG i8=>⟨h',tk,jq,c',rfl,rfl,fun b o e=>hk b o (eG (cz e)) (dE _ e),qG,i8⟩) hn
 refine ax key (fun fin s' x=>?_) fun e s' x=>?_
 ·cases fin with
  |done f =>
   obtain⟨h',tk,jq,c',e,rfl,hk,qG,i8⟩:=x;cases e;show wpAny _ A (load s.heap.objs.size >>= _) _ _ _;refine aa (wpAny_load qG ?_);exact af (h h' tk jq hk (vT (cz qG)) i8)
  |again c₁ =>
   refine⟨x.1,dA x.2 fun q s₂ y=>?_⟩;obtain⟨h',tk,jq,c',rfl,rfl,hk,qG,i8⟩:=y;show wpAny _ A (load s.heap.objs.size >>= _) _ _ _;refine aa (wpAny_load qG ?_);exact af (h h' tk jq hk (vT (cz qG)) i8)
 ·obtain⟨_,_,_,_,e',_⟩:=x;cases e'
theorem ZaM{r:Addr}{vs fs:List Value}{Q:Value->Shared->Prop}{shape:Nat->Bool}
  (hc:∀ (A':Around)(E':Value->Shared->Prop)(R:List Value->Shared->Prop),A'.handled=A.handled->(∀ h' tk,(∀ b o,s.heap.get? b=some o->h'.get? b=some o)->s.heap.objs.size<=h'.objs.size->R vs { s with heap:=h',toks:=tk })->wpAny (model prog w) A' (collect (.ref r)) R E' s)
  (ht:TupsOf s.heap shape vs fs)(hk:∀ v,v∈vs->∃ l,G.tupKeyC s.heap shape v=some l)(hL:vs.length<=sizeLine)
  (h:∀ (uS:Array Keyed)(h':Heap)(tk:Nat)(p:Addr)(c:Nat),uS.Perm (pairsOf vs)->SortedToK (G.tupKindC s.heap shape) uS (pairsOf vs).size->(∀ b o,s.heap.get? b=some o->h'.get? b=some o)->s.heap.objs.size<=p->h'.get? p=some (seqObj "list" (uS.map (·.2)) c)->Q (.ref p) { s with heap:=h',toks:=tk }):
  wpAny (model prog w) A (call (.builtin "sorted") [.ref r]) Q E s:=by
 refine Calls.call_function_entry kind_sorted plain_sorted entry_sorted (args_sorted1 _) ?_;unfold Builtin.«sorted»;refine aa (m:=checkCount "sorted" 1 1 _) (af ?_);refine aa (hc _ _ _ rfl fun h1 tk k1 z1=>?_);refine aa (wpAny_newList ?_);have zT:(h1.push (seqObj "list" vs.toArray 0)).get? h1.objs.size=some (seqObj "list" vs.toArray 0):=fj _ rfl;show wpAny _ _ _ _ _ { s with heap:=h1.push (seqObj "list" vs.toArray 0),toks:=tk }
 have k0:G.KeepsTups s.heap (h1.push (seqObj "list" vs.toArray 0)):=fun b o e _=>dE _ (k1 b o e);have k6:=k0.trans (G.keeps_sort6 (vs:=vs) zT);refine aa (bx (cG slot_list_sort ⟨_,zT,rfl⟩ entry_list_sort (G.list_sort_treeG (κ:=G.tupKindC s.heap shape) (kd:=tuples' true) zT (G.tupKeys hk) ?ordG ?keyG hL fun jG a1 a2 a3=>⟨_,rfl,?retG⟩) (args_list_sort _)))
 case ordG=>exact G.tupC_ltAt (s:={ s with heap:=_,toks:=tk }) true k6
 case keyG =>
  intro h2 R hq;exact tup_kind (s:={ s with heap:=_,toks:=tk }) (by rw [G.TupsOf.length ht];omega) (G.TupsOf.keep k6 ht) hq
 case retG =>
  obtain⟨ep,he⟩:=sortedHeap_at (vs:=vs) (out:=(arrOf jG).map (·.2)) zT;refine af ⟨_,rfl,h (arrOf jG) _ tk _ ep a1 a2 (fun b o e=>?_) z1 he⟩;have lt:b<h1.objs.size:=cz (k1 b o e);rw [sortedHeap_old (eG lt) (by rw [size_push'];exact ze lt)]
  exact dE _ (k1 b o e)
end
theorem Jd{α β:Type}{f:α->β}{l m:List β}(h:l.Perm m):∀ {k:List α},m=k.map f->∃ k':List α,k'.Perm k/\l=k'.map f:=by
 induction h with
 |nil=>intro k e;exact⟨[],by cases k with |nil=>exact .nil |cons=>simp at e,rfl⟩
 | @cons x l₁ l₂ h ih =>
  intro k e;cases k with
  |nil=>simp at e
  |cons a k =>
   rw [ej]at e;injection e with e1 e2
   obtain⟨k',p,q⟩:=ih e2;exact⟨a::k',p.cons a,by rw [ej,q,e1]⟩
 |swap x y l =>
  intro k e
  match k,e with
  |[],e=>simp at e
  |[_],e=>simp at e
  |a::b::k,e =>
   rw [ej,ej]at e;injection e with e1 e2
   injection e2 with e2 e3
   exact⟨b::a::k,List.Perm.swap _ _ _,by rw [ej,ej,e1,e2,e3]⟩
 |trans h1 h2 ih1 ih2 =>
  intro k e;obtain⟨k1,p1,q1⟩:=ih2 e;obtain⟨k2,p2,q2⟩:=ih1 q1;exact⟨k2,p2.trans p1,q2⟩
def pk(p:Int×Int):List Key:=[.inl p.1,.inl p.2]
theorem yq{p q:Int×Int}(h:pk p=pk q):p=q:=by
 unfold pk at h;injection h with h1 h2
 injection h2 with h2 _
 exact Prod.ext (Sum.inl.inj h1) (Sum.inl.inj h2)
theorem vq(p:Int×Int):(pk p).map kV=[.int p.1,.int p.2]:=rfl
def y9(x y:Int×Int):Prop:=x.1<y.1\/(x.1=y.1/\x.2<y.2)
theorem Lk(x y:Int×Int):lexLt itemOrd [Sum.inl x.1,Sum.inl x.2] [Sum.inl y.1,Sum.inl y.2]=true↔y9 x y:=by
 rw [lex_true];unfold y9;have e1:itemOrd.blt (Sum.inl x.1) (Sum.inl y.1)=decide (x.1<y.1):=rfl;have e2:itemOrd.blt (Sum.inl y.1) (Sum.inl x.1)=decide (y.1<x.1):=rfl;have e3:lexLt itemOrd [Sum.inl x.2] [Sum.inl y.2]=decide (x.2<y.2):=by
  rw [lex_cons];have:itemOrd.blt (Sum.inl x.2) (Sum.inl y.2)=decide (x.2<y.2):=rfl;rw [this];show(_ ||(_&&false))=_;rw [Bool.and_false,Bool.or_false]
 rw [e1,e2,e3,ag,decide_eq_false_iff_not,ag];omega
def vwP(v d:Addr)(h:Heap):Prop:=PySem.W.KdlKeysView h v d
def qW(v d:Addr):HO:=.ext (vwP v d)
theorem EJ{P:Program}{w:World}{H:Hp}{h:Heap}{v d:Addr}(p:PySem.W.KdlKeysView h v d):ObjOk P w H h v (qW v d):=by
 refine⟨p,?_,fun h1 h2 q k=>?_⟩
 ·obtain⟨o,e,_⟩:=p;exact⟨o,e⟩
 ·obtain⟨o,e,r⟩:=q;exact⟨o,k o e,r⟩
def yO(K:aq)(P:Program)(w:World)(td:TE):TE:=fun σ H Q=>td σ H fun x H1=>∃ d ah,x=.ref d/\DXe K P w H1 d ah/\∀ v,H1 v=none->Q (.ref v) (upd H1 v (qW v d))
def pB(K:aq)(P:Program)(w:World):List V->Hp->VK->Prop:=fun vs H Q=>∃ (v d:Addr)(ah:List (List Key×V))(ps:List (Int×Int)),vs=[.ref v]/\H v=some (qW v d)/\DXe K P w H d ah/\ah.map (·.1)=ps.map pk /\
 ∀ (p:Addr)(qs:List (Int×Int))(as:List Addr),H p=none->qs.Perm ps->qs.Pairwise (fun x y=>¬ y9 y x)->as.length=qs.length->(∀ (j:Nat)(q:Int×Int)(b:Addr),qs[j]?=some q->as[j]?=some b->SqT K H b [.int q.1,.int q.2])->Q (.ref p) (upd H p (.lst (as.map V.ref)))
section
variable{X:Cx}{e:Expr}{td:TE}{cF bt:Pos}
theorem oZ(he:PE X e td)(fq:autoParam (attributeBase e "keys" X.env (eval e X.env)=eval e X.env) aR._auto_1)(gZ:autoParam ((cF.endLine==bt.line)=true) aR._auto_1):PE X (.Call (.Attribute e "keys" cF) [] [] bt) (yO X.K X.prog X.w td):=by
 intro pins s σ H Q I h;refine yV (T:="dict") (id:="dict.keys") fq rfl gZ F.plainAttrs_dict F.slot_dict_keys F.type_dict_keys (aQ (he pins s σ H _ I h) fun u s1 zz=>?_);obtain⟨x,H1,I1,rx,d,ah,ex,⟨xs,dx⟩,q⟩:=zz;subst ex;obtain rfl:u=Value.ref d:=rx;have dh:=fm I1 dx;refine⟨dh.typeIs,fun b q=>?_,?_⟩
 ·cases q;obtain⟨ob,_,_,h1,h2,_⟩:=dh;exact⟨ob,h1,h2.2.1⟩
 have fin:EP X pins σ Q (.ref s1.heap.objs.size) { s1 with heap:=s1.heap.push { cls:=.type "dict_keys",data:=.fields #[.ref d] } }:=
  ⟨.ref s1.heap.objs.size,_,I1.laid (a:=s1.heap.objs.size) (o:=qW s1.heap.objs.size d) (t':=s1.toks) (fun _ _ q=>dE _ q) (bO _) (EJ ⟨_,fj _ rfl,rfl,rfl⟩),rfl,q _ (I1.hok.fresh (bO _))⟩
 have oH:MeetsIn X.prog X.w (Builtin.«dict.keys» ⟨[.ref d],[]⟩) (fun _ R s=>(∃ xs,s.heap.DictOfH (tupleKind (gS X.prog X.w)) d xs) /\
   R (.ok (.ret (.ref s.heap.objs.size))) { s with heap:=s.heap.push { cls:=.type "dict_keys",data:=.fields #[.ref d] } }):=
  .of_wp fun A R s ⟨⟨ah,hm⟩,h⟩=>by
   refine aa ?_;unfold Builtin.Dict.noArgs;refine aa (wpAny_notOrdered_dict hm.typeIs ?_);show wpAny _ _ (pure d) _ _ s;refine af ?_;show wpAny _ _ (Builtin.Dict.showsAll d >>= _) _ _ s;unfold Builtin.Dict.showsAll;rw [ac (by rw [dx.sys];exact fi)]
   refine aa (af ?_);exact aa (aA (af ⟨_,rfl,h⟩))
 show wpAny _ _ (callWith bt (.builtin "dict.keys") [.ref d] [] []) _ X.xe s1;exact method_meetsIn F.slot_dict_keys F.entry_dict_keys rfl (PySem.evalArgs_none ⟨rfl,dh.typeIs,F.args_dict_keys_1 _,_,oH,⟨xs,dh⟩,fin⟩)
theorem ZaN{α β γ:Type}{R:α->β->Prop}{l:List α}{m:List β}(h:Paired R l m){f:α->γ}{g:β->γ}(k:∀ a b,R a b->f a=g b):l.map f=m.map g:=by
 induction h with
 |nil=>rfl
 |cons h t ih=>rw [ej,ej,k _ _ h,ih]
theorem O0{α β:Type}(f:α->β):∀ l:List α,(l.map f).zip (l.map f)=l.map fun x=>(f x,f x)
 |[]=>rfl
 |x::l=>by rw [ej,E9,O0 f l];rfl
theorem OH:∀ as:List Addr,Vals (as.map V.ref) (as.map Value.ref)
 |[]=>.nil
 |a::as=>.cons rfl (OH as)
theorem Zbc(B0:X.calm=true):jl X (.builtin "sorted") (pB X.K X.prog X.w):=by
 intro pins s σ H vs us Q I r h;obtain⟨v,d,ah,ps,rfl,hv,⟨xs,dx⟩,hps,q⟩:=h;rw [Vals.ref1 r];have dh:=fm I dx;obtain⟨o,es,ep,ho,hx,sG,oj,_,wY⟩:=id dh;obtain⟨vw,_⟩:=(show ObjOk X.prog X.w H s.heap v (qW v d)from I.hok v _ hv);have vw:PySem.W.KdlKeysView s.heap v d:=vw;have hsz:es.size=xs.length:=by
  have:=au List.length oj;rw [aW,AL]at this;exact this
 have hl:ah.length=xs.length:=Paired.length dx.rel;have kx:xs.map (·.1)=ps.map pk:=by
  rw [<-hps];exact(ZaN dx.rel fun a b z=>z.1).symm
 have sq:∀ x∈xs,SqT X.K H x.2.1 (x.1.map kV):=by
  have all:∀ {l:List (List Key×V)}{m:List (List Key×Addr×Value)},KX X.K H l m->∀ x∈m,SqT X.K H x.2.1 (x.1.map kV):=by
   intro l m z
   induction z with
   |nil=>intro x hx;exact nomatch hx
   | @cons p q ps qs hq t ih =>
    intro x hx;rcases bw.mp hx with e |hx
    ·subst e;rw [<-hq.1];exact hq.2.1
    ·exact ih x hx
  exact all dx.rel
 have Rb:∀ x∈xs,∃ p:Int×Int,p∈ps/\x.1=pk p:=fun x hx=>by
  have:x.1∈ps.map pk:=by rw [<-kx];exact i4.mpr ⟨x,hx,rfl⟩
  obtain⟨p,hp,e⟩:=i4.mp this;exact⟨p,hp,e.symm⟩
 have tup:∀ x∈xs,∀ p:Int×Int,x.1=pk p->∃ o n t t',s.heap.get? x.2.1=some o/\o.cls=.type "tuple"/\o.data=.seq #[.int p.1 t,.int p.2 t'] n:=fun x hx p e=>by
  obtain⟨its,rv,⟨o,h1,h2,n,h3⟩,_⟩:=I.tuple (sq x hx);rw [e,vq]at rv;cases rv with
  | @cons a b as bs ha t =>
   cases t with
   | @cons a b as bs hb t =>
    cases t;obtain⟨t1,rfl⟩:=ha;obtain⟨t2,rfl⟩:=hb;exact⟨o,n,t1,t2,h1,h2,h3⟩
 have key:∀ x∈xs,∀ p:Int×Int,x.1=pk p->G.tupKeyC s.heap (fun _=>false) (.ref x.2.1)=some [Sum.inl p.1,Sum.inl p.2]:=fun x hx p e=>by
  obtain⟨o,n,t,t',h1,h2,h3⟩:=tup x hx p e;unfold G.tupKeyC;rw [ae (by simp [G.isTupObj,h1,h2])]
  simp only [tupKey,h1,h3];rfl
 have tups:∀ (l:List (List Key×Addr×Value)),(∀ x∈l,x∈xs)->∃ fs,TupsOf s.heap (fun _=>false) (l.map fun x=>Value.ref x.2.1) fs:=by
  intro l
  induction l with
  |nil=>exact fun _=>⟨[],.nil⟩
  |cons x l ih =>
   intro hm;obtain⟨fs,t⟩:=ih fun y hy=>hm y (dk _ hy);have hx:=hm x (cZ ..);obtain⟨p,_,e⟩:=Rb x hx;obtain⟨o,n,t1,t2,h1,h2,h3⟩:=tup x hx p e;exact⟨.int p.1 t1::fs,.cons ⟨x.2.1,o,_,n,rfl,h1,h2,h3,rfl,fun _=>⟨_,_,rfl⟩,fun z=>by cases z⟩ t⟩
 obtain⟨fs,ht⟩:=tups xs fun _ h=>h;have hh:=I.ok.hd B0;refine ZaM (vs:=xs.map fun x=>Value.ref x.2.1) (fs:=fs) (shape:=fun _=>false) (fun A' E' R hA hR=>?_) ht (fun u hu=>?_) ?_ fun uS h' tk p c hp hs k' zp Kv=>?_
 ·refine Z9J (Zbh (r:=v) (d:=d) sG hsz) (hA.trans hh) ⟨vw,ho⟩ (by rw [<-hl];exact dx.len) fun h' tk acc k' z i8=>?_
  have:acc.toList=xs.map fun x=>Value.ref x.2.1:=by
   apply List.ext_getElem?;intro i;rw [G9,dQ];have e1:=entry_at oj i;by_cases hi:i<xs.length
   ·have ha:i<acc.size:=by rw [i8.1];exact hi
    obtain⟨en,e2,e3⟩:=i8.2 i acc[i] (AE ha);rw [AE ha,e3];rw [e2]at e1;cases q:xs[i]? with
    |none=>rw [q]at e1;cases e1
    |some x=>rw [q]at e1;cases e1;rfl
   ·rw [Hb (by rw [i8.1];omega),Ha (by omega)];rfl
  rw [this];exact hR h' tk k' z
 ·obtain⟨x,hx,rfl⟩:=i4.mp hu;obtain⟨p,_,e⟩:=Rb x hx;exact⟨_,key x hx p e⟩
 ·rw [aW,<-hl];exact dx.len
 ·have pl:uS.toList.Perm ((xs.map fun x=>Value.ref x.2.1).zip (xs.map fun x=>Value.ref x.2.1)):=by
   have e:=Array.perm_iff_toList_perm.mp hp;rw [pairsOf_toList]at e;exact e
  obtain⟨jV,px,ea⟩:=Jd pl (O0 (fun x:List Key×Addr×Value=>Value.ref x.2.1) xs);obtain⟨qs,pq,eq⟩:=Jd (px.map (·.1)) kx;have lq:jV.length=qs.length:=by have:=au List.length eq;rw [aW,aW]at this;exact this
  have lx:jV.length=xs.length:=px.length_eq;have ix:∀ {j:Nat}{x:List Key×Addr×Value}{q:Int×Int},jV[j]?=some x->qs[j]?=some q->x∈xs/\x.1=pk q:=fun{j x q} h1 h2=>by
   refine⟨px.mem_iff.mp (gL h1),?_⟩;have e1:(jV.map (·.1))[j]?=some x.1:=by rw [dQ,h1];rfl
   rw [eq,dQ,h2]at e1;exact(Option.some.inj e1).symm
  have out:(uS.map (·.2)).toList=(jV.map (·.2.1)).map Value.ref:=by
   rw [Array.toList_map,ea,jM,jM];rfl
  have kk:∀ {i:Nat}{x:List Key×Addr×Value}{q:Int×Int},jV[i]?=some x->qs[i]?=some q->KK (G.tupKindC s.heap fun _=>false) uS i=[Sum.inl q.1,Sum.inl q.2]:=fun{i x q} h1 h2=>by
   obtain⟨m,e⟩:=ix h1 h2;have e2:uS[i]?=some (Value.ref x.2.1,Value.ref x.2.1):=by rw [<-G9,ea,dQ,h1];rfl
   unfold KK;rw [e2];show(G.tupKeyC s.heap (fun _=>false) (Value.ref x.2.1)).getD []=_;rw [key x m q e];rfl
  have KO:qs.Pairwise (fun x y=>¬ y9 y x):=by
   rw [List.pairwise_iff_getElem];intro i j hi hj hij cg;have h1:jV[i]?=some jV[i]:=dv (by omega)
   have h2:jV[j]?=some jV[j]:=dv (by omega)
   have e:=hs i j (by omega) (by rw [pairsOf_size,aW];omega)
   rw [kk h1 (dv hi),kk h2 (dv hj)]at e;have e':lexLt itemOrd [Sum.inl qs[j].1,Sum.inl qs[j].2] [Sum.inl qs[i].1,Sum.inl qs[i].2]=false:=e;rw [(Lk _ _).mpr cg]at e';cases e'
  have bQ:((jV.map (·.2.1)).map V.ref).length<=sizeLine:=by rw [aW,aW,lx,<-hl];exact dx.len
  refine⟨.ref p,upd H p (.lst ((jV.map (·.2.1)).map V.ref)),I.laid (t':=tk) (fun b o e=>k' b o e) zp ⟨bQ,(jV.map (·.2.1)).map Value.ref,c,OH _,?_⟩,rfl,q p qs (jV.map (·.2.1)) (I.hok.fresh zp) pq KO (by rw [aW,lq]) fun j q' b h1 h2=>?_⟩
  ·rw [Kv,<-out]
  ·rw [dQ]at h2;cases e:jV[j]? with
   |none=>rw [e]at h2;cases h2
   |some x =>
    rw [e]at h2;cases h2;obtain⟨m,e2⟩:=ix e h1;have:=sq x m;rw [e2,vq]at this;exact this
end
section
variable{prog:Program}{w:World}{A:Around}{E:Value->Shared->Prop}{s:Shared}
theorem oy{v d:Addr}{n ep:Nat}{od:Obj}{es:Array DictEntry}{Q:Value->Shared->Prop}(hv:s.heap.IsItemsView v d)(gf:s.heap.get? d=some od)(iJ:od.data=.dict es ep)(hsz:es.size=n)
  (hQ:Q (.ref s.heap.objs.size) { s with heap:=s.heap.push { cls:=.type "dict_itemiterator",data:=.fields #[.none,.bool false,.ref d,.int 0 0,.int n 0,.int ep 0,.none,.none] } }):
  wpAny (model prog w) A (pyIter (.ref v)) Q E s:=by
 obtain⟨ov,KN,hcv,Ki⟩:=id hv;refine wpAny_pyIter_slot hv.typeIs F.slot_dict_items_iter (cG F.slot_dict_items_iter hv.typeIs F.entry_dict_items_iter ?_ (F.args_dict_items_iter_1 _));unfold Builtin.«dict_items.__iter__»;refine aa (af ?_);refine aa ?_;unfold Builtin.Dict_items.dictOf;refine aa (aN KN Ki (x:=.ref d) rfl (af ?_));refine aa ?_;unfold Builtin.Dict_items.newIterator;refine aa (df gf iJ ?_);refine aa (dU gf iJ ?_);have g9:Builtin.Dict_items.ownsTuple "dict_itemiterator" = true:=by decide
 simp only [g9,cu];refine aA (af ⟨_,rfl,"dict_itemiterator",_,⟨_,fj _ rfl,rfl⟩,F.slot_dict_itemiterator_next.lookup,?_⟩)
  (by simp only [sizeOk,Builtin.Dict_items.ownedTupleFields,fZ,gD,gC,lB,ak];omega)
 simpa [rawInt,hsz,Builtin.Dict_items.ownedTupleFields]using hQ
theorem oN{it d:Addr}{i n ep:Nat}{od:Obj}{es:Array DictEntry}{en:DictEntry}{ok ov:Value}{Q:Option Value->Shared->Prop}(dS:IsItemIter s.heap it d i n ep ok ov)
  (gf:s.heap.get? d=some od)(iJ:od.data=.dict es ep)(hsz:es.size=n)(hx:es[i]?=some en)
  (hQ:∀ h',IsItemIterOut h' it d (i+1) n ep en.key en.val s.heap.objs.size ->
    h'.get? s.heap.objs.size=some { cls:=.type "tuple",data:=.seq #[en.key,en.val] }->h'.objs.size=s.heap.objs.size+1 ->
    (∀ b o,b≠it->s.heap.get? b=some o->h'.get? b=some o)->Q (some (.ref s.heap.objs.size)) { s with heap:=h' }):
  wpAny (model prog w) A (pyNext (.ref it)) Q E s:=by
 obtain⟨hp,g,dr,tk,os⟩:=s;have hT:Shared.TypeIs ⟨hp,g,dr,tk,os⟩ (.ref it) "dict_itemiterator":=⟨_,dS,rfl⟩;unfold pyNext;refine aa (iz (d7 (name:=Str.ofString "__next__") hT F.slot_dict_itemiterator_next
  (cG F.slot_dict_itemiterator_next hT F.entry_dict_itemiterator_next ?_ (F.args_dict_itemiterator_next_1 _))))
 refine aa (af ?_);refine aa ?_;refine aa ?_
 first |refine aa (cK hT (af ?_)) |refine aa (dD hT (af ?_))
 refine aa (lV dS rfl ?_);have g9:Builtin.Dict_items.ownsTuple "dict_itemiterator" = true:=by decide
 simp only [g9,cu];show wpAny _ _ (if (Value.ref d==Value.none)=true then _ else _) _ _ _;rw [ac (show ¬ ((Value.ref d==Value.none)=true)from fi)];refine aa (af ?_);refine aa (df gf iJ ?_);rw [ac (by rw [hsz];simp)]
 refine aa (af ?_);refine aa (dU gf iJ ?_);rw [ac (by simp)]
 refine af ?_;obtain⟨wX,B6⟩:=qw.mp hx;subst B6;simp only [show ¬ ((i:Int)<0)from by omega,bv,AQ,AE wX]
 refine aa ?_
 first |refine aa (cK hT (af ?_)) |refine aa (dD hT (af ?_))
 refine aa (jK hT ?_);show wpAny _ _ (setField (.ref it) 3 (rawInt ((i:Int)+1)) >>= _) _ _ ⟨hp,g,dr,tk,os⟩;refine aa (d6 dS (by simp) fun h₁ B7 Cr=>?_)
 replace Cr:Heap.SameBut it hp h₁:=Cr
 replace B7:IsItemIter h₁ it d (i+1) n ep ok ov:=by
  have e:((i+1:Nat):Int)=(i:Int)+1:=by omega
  unfold IsItemIter;rw [e];simpa [rawInt]using B7
 have J6:Shared.TypeIs ⟨h₁,g,dr,tk,os⟩ (.ref it) "dict_itemiterator":=⟨_,B7,rfl⟩;refine aa (bx ?_);refine aa (jK J6 ?_);refine aa (jK J6 ?_);show wpAny _ _ (Builtin.Dict_items.pairFromOwner (.ref it) 6 es[i].key es[i].val) _ _ ⟨h₁,g,dr,tk,os⟩;unfold Builtin.Dict_items.pairFromOwner;refine aa (wpAny_newTuple ?_);have B8:IsItemIter (h₁.push { cls:=.type "tuple",data:=.seq #[es[i].key,es[i].val] }) it d (i+1) n ep ok ov:=dE _ B7;generalize FW:h₁.push { cls:=.type "tuple",data:=.seq #[es[i].key,es[i].val] }=h₂ at B8;have F0:h₁.objs.size=hp.objs.size:=Cr.1;have sK:it<hp.objs.size:=cz dS;have ht₂:h₂.get? hp.objs.size=some { cls:=.type "tuple",data:=.seq #[es[i].key,es[i].val] }:=by rw [<-FW,<-F0];exact fj _ rfl
 have hz₂:h₂.objs.size=hp.objs.size+1:=by rw [<-FW,kr,F0]
 have hk₂:∀ b o,b≠it->hp.get? b=some o->h₂.get? b=some o:=fun b o hb e=>by rw [<-FW];exact dE _ (Cr.extBut b o hb e)
 show wpAny _ _ (Builtin.Dict_items.ownedTupleIsFree (.ref it) >>= _) _ _ ⟨h₂,g,dr,tk,os⟩;rw [F0]
 clear FW B7 Cr J6 F0 h₁
 refine aa ?_;unfold Builtin.Dict_items.ownedTupleIsFree;refine aa (aN B8 rfl (x:=.none) rfl (af ?_));simp only [cu];refine aa (aN B8 rfl (x:=ok) rfl ?_);refine aa (aN B8 rfl (x:=ov) rfl ?_);refine aa (d6 B8 (by simp) fun h₃ Kk Cs=>?_)
 replace Cs:Heap.SameBut it h₂ h₃:=Cs
 replace Kk:IsItemIter h₃ it d (i+1) n ep es[i].key ov:=Kk
 refine aa (d6 Kk (by simp) fun h₄ Kl Ct=>?_)
 replace Ct:Heap.SameBut it h₃ h₄:=Ct
 replace Kl:IsItemIter h₄ it d (i+1) n ep es[i].key es[i].val:=Kl
 refine aa (d6 Kl (by simp) fun h₅ Km Cu=>?_)
 replace Cu:Heap.SameBut it h₄ h₅:=Cu
 replace Km:IsItemIterOut h₅ it d (i+1) n ep es[i].key es[i].val hp.objs.size:=Km
 refine aa (d6 Km (by simp) fun h₆ Kn Cv=>?_)
 replace Cv:Heap.SameBut it h₅ h₆:=Cv
 replace Kn:IsItemIterOut h₆ it d (i+1) n ep es[i].key es[i].val hp.objs.size:=Kn
 refine aa (wpAny_letGo (af (af ⟨_,rfl,af (hQ h₆ Kn ?_ ?_ ?_)⟩)))
 ·exact Cv.extBut _ _ (ko sK) (Cu.extBut _ _ (ko sK) (Ct.extBut _ _ (ko sK) (Cs.extBut _ _ (ko sK) ht₂)))
 ·show h₆.objs.size=hp.objs.size+1;rw [Cv.1,Cu.1,Ct.1,Cs.1,hz₂]
 ·exact fun b o hb e=>Cv.extBut b o hb (Cu.extBut b o hb (Ct.extBut b o hb (Cs.extBut b o hb (hk₂ b o hb e))))
theorem oJ{it d:Addr}{i n ep:Nat}{od:Obj}{es:Array DictEntry}{ok ov:Value}{Q:Option Value->Shared->Prop}(hh:A.handled=none)(dS:IsItemIter s.heap it d i n ep ok ov)
  (gf:s.heap.get? d=some od)(iJ:od.data=.dict es ep)(hsz:es.size=n)(hx:n<=i)
  (hQ:∀ h',Heap.ExtBut it s.heap h'->Q none { s with heap:=h' }):wpAny (model prog w) A (pyNext (.ref it)) Q E s:=by
 have hT:s.TypeIs (.ref it) "dict_itemiterator":=⟨_,dS,rfl⟩;unfold pyNext;refine aa (iz (d7 (name:=Str.ofString "__next__") hT F.slot_dict_itemiterator_next
  (cG F.slot_dict_itemiterator_next hT F.entry_dict_itemiterator_next ?_ (F.args_dict_itemiterator_next_1 _))))
 refine aa (af ?_);refine aa ?_;refine aa ?_
 first |refine aa (cK hT (af ?_)) |refine aa (dD hT (af ?_))
 refine aa (lV dS rfl ?_);have g9:Builtin.Dict_items.ownsTuple "dict_itemiterator" = true:=by decide
 simp only [g9,cu];show wpAny _ _ (if (Value.ref d==Value.none)=true then _ else _) _ _ s;rw [ac (show ¬ ((Value.ref d==Value.none)=true)from fi)];refine aa (af ?_);refine aa (df gf iJ ?_);rw [ac (by rw [hsz];simp)]
 refine aa (af ?_);refine aa (dU gf iJ ?_);rw [ac (by simp)]
 refine af ?_;have u9:es.size<=i:=by rw [hsz];exact hx
 simp only [show ¬ ((i:Int)<0)from by omega,bv,AQ,Hb u9]
 refine aa ?_
 first |refine aa (cK hT (af ?_)) |refine aa (dD hT (af ?_))
 show wpAny _ _ (setField (.ref it) 2 .none >>= _) _ _ s;refine aa (bK dS rfl (by simp) ?_)
 show wpAny _ _ (newExc (.type "StopIteration") [] >>= _) _ _ _;refine aa ?_;simp only [newExc,newTuple];refine aa (aA ?_ (by size_fits))
 refine aa (m:=firstArgMember _ _) (wpAny_of_eq (a:=Value.none) (by first |rfl |(simp only [firstArgMember];rfl)) ?_)
 refine aA ?_ (by size_fits)
 simp only [raiseNew];refine aa (wpAny_handled ?_);rw [show A.in1.handled=none from hh];refine aa (af (lW ?_));refine aa (wpAny_isInstance (T:="StopIteration") (b:=true) ⟨_,fj _ rfl,rfl⟩ isSubtype_stop ?_);exact af (hQ _ (((Heap.SameBut.update ..).extBut.push _).push _))
end
def jL(a:Addr)(ob:Obj):HO:=.ext fun h=>h.get? a=some ob
def mD(a:Addr)(ob:Obj)(its:List (Addr×V)):It:=
 ⟨fun i H=>H a=some (jL a ob)/\i<its.length,fun i H x H'=>∃ T b v,x=.ref T/\H T=none/\H'=upd H T (.tup [.ref b,v])/\its[i]?=some (b,v),fun i H=>H a=some (jL a ob)/\its.length<=i⟩
theorem Z9L{P:Program}{w:World}{K:aq}{gF:List Expr}{kk:Nat}{dO:Pos}{a it:Addr}{ob:Obj}{es:Array DictEntry}{ep:Nat}{its:List (Addr×V)}(iJ:ob.data=.dict es ep)(hsz:es.size=its.length)
  (hes:∀ (i:Nat)(b:Addr)(v:V),its[i]?=some (b,v)->∃ en,es[i]?=some en/\en.key=.ref b/\RelV v en.val):
  iZ P w K (.Tuple gF kk dO) (mD a ob its) [it] it (fun i h=>∃ ok ov,IsItemIter h it a i its.length ep ok ov) where
 mem:=by simp
 obj:=fun i h st b hb=>by
  obtain⟨ok,ov,he⟩:=st;rw [show b=it by simpa using hb]
  exact⟨_,he,fun v q=>nomatch q⟩
 keep:=fun i h h' st k=>by obtain⟨ok,ov,he⟩:=st;exact⟨ok,ov,k it (by simp) _ he⟩
 item:=by
  intro X hP hw hK hc i pins s σ H E I hf st hg;subst hP hw hK;obtain⟨ok,ov,he⟩:=st;obtain⟨ha,hi⟩:=hg;obtain⟨gf,_⟩:=(show ObjOk X.prog X.w H s.heap a (jL a ob)from I.hok a _ ha);have hx:its[i]?=some its[i]:=dv hi;obtain⟨en,e1,e2,rv⟩:=hes i its[i].1 its[i].2 hx;have sK:it<s.heap.objs.size:=cz he;refine oN he gf iJ hsz e1 fun h' ho hT hz hk=>?_;refine⟨_,rfl,wpAny_letOwnedTupleGo_items (s:={ s with heap:=h' }) ho fun mi B5 sb=>?_⟩
  have BU:mi.get? s.heap.objs.size=some { cls:=.type "tuple",data:=.seq #[en.key,en.val] }:=(sb.2 _ (ko sK)).trans hT;have new:ObjOk X.prog X.w (upd H s.heap.objs.size (.tup [.ref its[i].1,its[i].2])) mi s.heap.objs.size (.tup [.ref its[i].1,its[i].2]):=
   ⟨by show 2<=sizeLine;decide,[en.key,en.val],.cons (by rw [e2];rfl) (.cons rv .nil),⟨_,BU,rfl,_,rfl⟩⟩
  have I1:Inv X pins σ (upd H s.heap.objs.size (.tup [.ref its[i].1,its[i].2])) { s with heap:=mi,toks:=s.toks }:=
   I.turnedNew (ch:=[it]) (fun b ob hb q=>(sb.2 b (fun z=>hb (by simp [z]))).trans (hk b ob (fun z=>hb (by simp [z])) q)) hf (bO _) new
  refine⟨.ref s.heap.objs.size,_,I1,rfl,⟨_,_,_,rfl,I.hok.fresh (bO _),rfl,hx⟩,⟨_,_,B5⟩,fun b hb=>?_⟩;have j9:b<s.heap.objs.size:=by rw [show b=it by simpa using hb];exact sK
  rw [aj (eG j9)];exact(hf b hb).1
 done:=by
  intro X hP hw hK hc i pins s σ H E I hf st hg;subst hP hw hK;obtain⟨ok,ov,he⟩:=st;obtain⟨ha,hi⟩:=hg;obtain⟨gf,_⟩:=(show ObjOk X.prog X.w H s.heap a (jL a ob)from I.hok a _ ha);obtain⟨f0,f1,f2,f3,f4,f5⟩:=hf it (by simp)
  exact oJ (I.ok.hd hc) he gf iJ hsz hi fun h' eb=>⟨rfl,I.turned (t':=s.toks) (fun b o hb q=>eb b o hb q) f0 f1 f3 f4 f5⟩
 self:=fun A i s Q E st h=>by obtain⟨_,_,he⟩:=st;exact PySem.W.kcp_self he h
def sV(K:aq)(P:Program)(w:World)(te:TE):TI:=fun σ H R=>te σ H fun x H1=>∃ d ah,x=.ref d/\DXe K P w H1 d ah /\
 ∀ ob its,its.length=ah.length->(∀ (i:Nat)(k:List Key)(v:V),ah[i]?=some (k,v)->∃ b,its[i]?=some (b,v)/\SqT K H1 b (k.map kV))->R (mD d ob its) (upd H1 d (jL d ob))
section
variable{X:Cx}{e:Expr}{te:TE}{cF bt dO:Pos}{gF:List Expr}{kk:Nat}
theorem Pr{K:aq}{H:Hp}{ah:List (List Key×V)}{xs:List (List Key×Addr×Value)}(r:KX K H ah xs){i:Nat}{p:List Key×V}(h:ah[i]?=some p):∃ q,xs[i]?=some q/\p.1=q.1/\SqT K H q.2.1 (p.1.map kV)/\RelV p.2 q.2.2:=by
 induction r generalizing i with
 |nil=>simp at h
 | @cons a b l m z t ih =>
  cases i with
  |zero=>cases h;exact⟨b,rfl,z⟩
  |succ n=>exact ih h
theorem ZbI(he:PE X e te)(fq:autoParam (attributeBase e "items" X.env (eval e X.env)=eval e X.env) aR._auto_1)(gZ:autoParam ((cF.endLine==bt.line)=true) aR._auto_1):PI X (.Tuple gF kk dO) (.Call (.Attribute e "items" cF) [] [] bt) (sV X.K X.prog X.w te):=by
 intro pins s σ H R I h;refine yV (T:="dict") (id:="dict.items") fq rfl gZ F.plainAttrs_dict F.slot_dict_items F.type_dict_items (aQ (he pins s σ H _ I h) fun u s1 zz=>?_);obtain⟨x,H1,I1,rx,d,ah,ex,⟨xs,dx⟩,q⟩:=zz;subst ex;obtain rfl:u=Value.ref d:=rx;have dh:=fm I1 dx;obtain⟨ob,es,ep,gf,cw,iJ,oj,_,wY⟩:=id dh;refine⟨dh.typeIs,fun b q=>?_,?_⟩
 ·cases q;exact⟨ob,gf,cw.2.1⟩
 have hl:ah.length=xs.length:=Paired.length dx.rel;have hsz:es.size=xs.length:=by
  have:=au List.length oj;rw [aW,AL]at this;exact this
 have ex:∃ its:List (Addr×V),its.length=ah.length/\(∀ (i:Nat)(k:List Key)(v:V),ah[i]?=some (k,v)->∃ b,its[i]?=some (b,v)/\SqT X.K H1 b (k.map kV))/\∀ (i:Nat)(b:Addr)(v:V),its[i]?=some (b,v)->∃ en,es[i]?=some en/\en.key=.ref b/\RelV v en.val:=by
  refine⟨(xs.zip ah).map fun z=>(z.1.2.1,z.2.2),by rw [aW,List.length_zip];omega,fun i k v hi=>?_,fun i b v hi=>?_⟩
  ·obtain⟨q,h1,h2,h3,h4⟩:=Pr dx.rel hi;refine⟨q.2.1,?_,h3⟩;have z:(xs.zip ah)[i]?=some (q,(k,v)):=List.getElem?_zip_eq_some.mpr ⟨h1,hi⟩;rw [dQ,z];rfl
  ·rw [dQ]at hi;cases e1:(xs.zip ah)[i]? with
   |none=>rw [e1]at hi;cases hi
   |some z =>
    rw [e1]at hi;cases hi;obtain⟨h1,h2⟩:=List.getElem?_zip_eq_some.mp e1;obtain⟨q,g1,g2,g3,g4⟩:=Pr dx.rel h2;rw [h1]at g1;cases g1;refine⟨_,(entry_at oj i).trans (by rw [h1];rfl),rfl,g4⟩
 obtain⟨its,FX,h1,h2⟩:=ex;have I2:Inv X pins σ H1 { s1 with heap:=s1.heap.push { cls:=.type "dict_items",data:=.fields #[.ref d] } }:=I1.kept (t':=s1.toks) fun b ob q=>dE _ q
 have sP:(s1.heap.push { cls:=.type "dict_items",data:=.fields #[.ref d] }).get? d=some ob:=dE _ gf;have I3:Inv X pins σ (upd H1 d (jL d ob)) { s1 with heap:=s1.heap.push { cls:=.type "dict_items",data:=.fields #[.ref d] } }:=
  Bg (s:={ s1 with heap:=s1.heap.push { cls:=.type "dict_items",data:=.fields #[.ref d] } }) (t':=s1.toks) I2 (by rw [dx.at_];exact True.intro) ⟨rfl,fun _ _=>rfl⟩ ⟨_,sP⟩ ⟨sP,⟨_,sP⟩,fun h1 h2 z k=>k _ z⟩
 have fin:wpAny (model X.prog X.w) X.A (pyIter (.ref s1.heap.objs.size)) (ET X pins σ (.Tuple gF kk dO) R) X.xe { s1 with heap:=s1.heap.push { cls:=.type "dict_items",data:=.fields #[.ref d] } }:=by
  refine oy (n:=its.length) (d:=d) ⟨_,fj _ rfl,rfl,rfl⟩ sP iJ (by omega) (pr (tk:=s1.toks) I3 _ (Z9L iJ (by omega) h2) ⟨.none,.none,fj _ rfl⟩ (q ob its FX h1))
 have oH:MeetsIn X.prog X.w (Builtin.«dict.items» ⟨[.ref d],[]⟩) (fun _ R s=>(∃ xs,s.heap.DictOfH (tupleKind (gS X.prog X.w)) d xs) /\
   R (.ok (.ret (.ref s.heap.objs.size))) { s with heap:=s.heap.push { cls:=.type "dict_items",data:=.fields #[.ref d] } }):=
  .of_wp fun A R s ⟨⟨ah,hm⟩,h⟩=>by
   unfold Builtin.«dict.items»;refine aa ?_;unfold Builtin.Dict.noArgs;refine aa (wpAny_notOrdered_dict hm.typeIs ?_);show wpAny _ _ (pure d) _ _ s;refine af ?_;show wpAny _ _ (Builtin.Dict.showsAll d >>= _) _ _ s;unfold Builtin.Dict.showsAll;rw [ac (by rw [dx.sys];exact fi)]
   refine aa (af ?_);exact aa (aA (af ⟨_,rfl,h⟩))
 show wpAny _ _ (callWith bt (.builtin "dict.items") [.ref d] [] []) _ X.xe s1;exact method_meetsIn F.slot_dict_items F.entry_dict_items rfl (PySem.evalArgs_none ⟨rfl,dh.typeIs,F.args_dict_items_1 _,_,oH,⟨xs,dh⟩,fin⟩)
end
theorem Zba{a:Addr}{ob:Obj}{its:List (Addr×V)}{g:TG}{tb:TS}{D:dI}{σ:St}{H:Hp}(Pv:Nat->St->Hp->Prop)(h0:Pv 0 σ H)(hl:∀ i σ H,i<=its.length->Pv i σ H->H a=some (jL a ob))
  (hs:∀ i b v σ H T,its[i]?=some (b,v)->Pv i σ H->H T=none->g (.ref T) σ (upd H T (.tup [.ref b,v])) fun σ2 H2=>tb { D with nx:=Pv (i+1),ct:=Pv (i+1),bk:=D.nx } σ2 H2)(hd:∀ σ H,Pv its.length σ H->D.nx σ H):
  ∃ W:Nat->Nat->St->Hp->Prop,(∃ m,W 0 m σ H)/\∀ i m σ H,W i m σ H ->
   ((mD a ob its).stop i H/\D.nx σ H)\/((mD a ob its).go i H/\∃ N:St->Hp->Prop,(∀ σ' H',N σ' H'->∃ m',m' < m/\W (i+1) m' σ' H')/\∀ x H',(mD a ob its).yld i H x H'->g x σ H' fun σ2 H2=>tb { D with nx:=N,ct:=N,bk:=D.nx } σ2 H2):=by
 refine⟨fun i m σ H=>m=its.length-i/\i<=its.length/\Pv i σ H,⟨its.length,by simp,fk _,h0⟩,?_⟩
 rintro i m σ H ⟨rfl,hi,p⟩;have q:=hl i σ H hi p;by_cases cg:i<its.length
 ·refine .inr ⟨⟨q,cg⟩,Pv (i+1),fun σ' H' p'=>⟨its.length-(i+1),by omega,rfl,cg,p'⟩,fun x H' y=>?_⟩
  obtain⟨T,b,v,rfl,hT,rfl,h⟩:=y;exact hs i b v σ _ T h p hT
 ·have e:i=its.length:=by omega
  subst e;exact .inl ⟨⟨q,bO _⟩,hd σ H p⟩
def DD(K:aq)(P:Program)(w:World):R2:=fun y x H Q=>∃ a b ah k,y=.ref b/\x=.ref a/\DXe K P w H a ah/\SqT K H b (k.map kV)/\Q (.bl (!(aL ah k).isSome)) H
section
variable{X:Cx}
theorem tL(hu:X.A.units+1<cLine):iC X (compareOp .NotIn) (DD X.K X.prog X.w):=by
 intro pins s σ H x y v u Q I rx ry h;obtain⟨a,b,ah,k,rfl,rfl,⟨xs,d⟩,hk,q⟩:=h;cases rx;cases ry;exact nO hu I d hk fun s' I'=>⟨.bl _,H,I',rfl,q⟩
end
section
variable{X:Cx}{e:Expr}{td:TE}{cF bt:Pos}
end
theorem xM{K:aq}{a b:Addr}{xs ys:List V}{n:Nat}{g:TG}{tt:TT}{te:TE}{vs:List Nat}{σ:St}{H1:Hp}{D:Addr}{Qd:Hp->Prop}(Pv:Nat->Hp->Prop)(h0:Pv 0 (upd H1 D (.lst [])))(hn:n=min xs.length ys.length)(hl:∀ i H,Pv i H->SqL K H a xs/\SqL K H b ys)
  (hs:∀ i x y H T,xs[i]?=some x->ys[i]?=some y->Pv i H->H T=none->g (.ref T) (bX σ vs) (upd H T (.tup [x,y])) fun σ2 H2=>bX σ2 vs=bX σ vs/\tt σ2 H2 fun b H3 =>
    if b=true then te σ2 H3 fun y H4=>∃ acc,H4 D=some (.lst acc)/\acc.length<sizeLine/\Pv (i+1) (upd H4 D (.lst (acc++[y])))else Pv (i+1) H3)(hd:∀ H,Pv n H->Qd H):
  ∃ W:Nat->Nat->Hp->Prop,(∃ m,W 0 m (upd H1 D (.lst [])))/\∀ i m H,W i m H ->
   ((Av K a b).stop i H/\Qd H)\/((Av K a b).go i H/\∃ Nx:Hp->Prop,(∀ H',Nx H'->∃ m',m' < m/\W (i+1) m' H')/\∀ x H',(Av K a b).yld i H x H'->g x (bX σ vs) H' fun σ2 H2=>bX σ2 vs=bX σ vs/\tt σ2 H2 fun b H3 =>
     if b=true then te σ2 H3 fun y H4=>∃ acc,H4 D=some (.lst acc)/\acc.length<sizeLine/\Nx (upd H4 D (.lst (acc++[y])))else Nx H3):=by
 refine⟨fun i m H=>m=n-i/\i<=n/\Pv i H,⟨n,by simp,fk _,h0⟩,?_⟩
 rintro i m H ⟨rfl,hi,p⟩;obtain⟨q1,q2⟩:=hl i H p;by_cases cg:i<n
 ·have l1:i<xs.length:=by omega
  have l2:i<ys.length:=by omega
  refine .inr ⟨⟨xs,ys,_,_,q1,q2,dv l1,dv l2⟩,Pv (i+1),fun H' p'=>⟨n-(i+1),by omega,rfl,cg,p'⟩,fun x H' y=>?_⟩
  obtain⟨T,u,v,rfl,hT,rfl,e1,e2⟩:=y;exact hs i u v _ T (e1 _ q1) (e2 _ q2) p hT
 ·have e:i=n:=by omega
  subst e;exact .inl ⟨⟨xs,ys,q1,q2,by omega⟩,hd H p⟩
theorem P6{X:Cx}{es:List Expr}{k:Nat}{t:uF}{n:Nat}{pos:Pos}(K:aq)(hK:X.K=K)(hc:X.calm=true)(h:Az X es t)
  (hn:autoParam ((assignEach es X.env).length=n) aR._auto_1)(cq:autoParam ((assignEach es X.env).findIdx? (·.1)=none) aR._auto_1):PG X (.Tuple es k pos) (BO K n t):=by
 subst hK;exact zB hc h hn cq
end L2
end
section
namespace FM
open Fk
def d8(cs:List (Key×Nat))(k:Key):Nat:=((cs.find? fun x=>decide (x.1=k)).map (·.2)).getD 0
def jz(cs:List (Key×Nat))(k:Key)(v:Nat):List (Key×Nat):=if (cs.any fun x=>decide (x.1=k))=true then cs.map fun x=>if x.1=k then(x.1,v)else x else cs++[(k,v)]
def eV(cs:List (Key×Nat))(k:Key)(c:Nat):List (Key×Nat):=if 0<c then jz cs k (d8 cs k+c)else cs
theorem FN{cs:List (Key×Nat)}{k:Key}:(cs.any fun x=>decide (x.1=k))=true↔k∈cs.map (·.1):=by
 rw [List.any_eq_true,i4];exact⟨fun⟨x,h,e⟩=>⟨x,h,ap e⟩,fun⟨x,h,e⟩=>⟨x,h,ai e⟩⟩
theorem Pp(cs:List (Key×Nat))(k:Key)(v:Nat):(jz cs k v).map (·.1)=if k∈cs.map (·.1)then cs.map (·.1)else cs.map (·.1)++[k]:=by
 unfold jz;by_cases h:(cs.any fun x=>decide (x.1=k))=true
 ·rw [ae h,ae (FN.mp h),jM];refine qZ fun x _=>?_;show(if x.1=k then(x.1,v)else x).1=x.1;split<;>rfl
 ·rw [ac h,ac (fun z=>h (FN.mpr z)),fO];rfl
theorem vZ(x:Key×Nat)(cs:List (Key×Nat))(k:Key):d8 (x::cs) k=if x.1=k then x.2 else d8 cs k:=by
 unfold d8;by_cases h:x.1=k
 ·rw [List.find?_cons_of_pos (by simpa using h),ae h];rfl
 ·rw [List.find?_cons_of_neg (by simpa using h),ac h]
theorem NN{k k':Key}{v:Nat}(q:k'≠k):∀ cs:List (Key×Nat),d8 (cs.map fun x=>if x.1=k then(x.1,v)else x) k'=d8 cs k'
 |[]=>rfl
 |y::cs=>by
  rw [ej,vZ,vZ,NN q cs];by_cases e2:y.1=k
  ·rw [ae e2,ac (by rw [e2];exact Ne.symm q),ac (by rw [e2];exact Ne.symm q)]
  ·rw [ac e2]
theorem NP{k:Key}{v:Nat}:∀ {cs:List (Key×Nat)},k∈cs.map (·.1)->d8 (cs.map fun x=>if x.1=k then(x.1,v)else x) k=v
 |[],h=>by simp at h
 |y::cs,h=>by
  rw [ej,vZ];by_cases e2:y.1=k
  ·rw [ae e2,ae (show y.1=k from e2)]
  ·rw [ac e2,ac e2];rw [ej,bw]at h;exact NP (h.resolve_left fun z=>e2 z.symm)
theorem Pt{k k':Key}{v:Nat}:∀ {cs:List (Key×Nat)},k∉cs.map (·.1)->d8 (cs++[(k,v)]) k'=if k'=k then v else d8 cs k'
 |[],h=>by
  rw [AF,vZ];by_cases q:k'=k
  ·rw [ae q,ae q.symm]
  ·rw [ac q,ac (Ne.symm q)]
 |x::cs,h=>by
  rw [ej,bw,b9]at h;rw [E6,vZ,vZ,Pt h.2];by_cases q:k'=k
  ·rw [ae q,ae q,ac (by rw [q];exact fun z=>h.1 z.symm)]
  ·rw [ac q,ac q]
theorem sB(cs:List (Key×Nat))(k:Key)(v:Nat)(k':Key):d8 (jz cs k v) k'=if k'=k then v else d8 cs k':=by
 unfold jz;by_cases h:(cs.any fun x=>decide (x.1=k))=true
 ·rw [ae h];by_cases q:k'=k
  ·rw [ae q,q];exact NP (FN.mp h)
  ·rw [ac q];exact NN q cs
 ·rw [ac h];exact Pt fun z=>h (FN.mpr z)
structure Cnt(cs:List (Key×Nat))(us:List Key):Prop where
 nd:(cs.map (·.1)).Nodup
 get:∀ k,d8 cs k=countIn us k
 mem:∀ k,k∈cs.map (·.1)↔k∈us
theorem Cnt.nil:Cnt [] []:=⟨uJ,fun _=>rfl,fun k=>by simp⟩
theorem Zbi(us vs:List Key)(k:Key):countIn (us++vs) k=countIn us k+countIn vs k:=by
 unfold countIn;rw [List.filter_append,gD]
theorem ZbF(c:Nat)(k k':Key):countIn (List.replicate c k) k'=if k'=k then c else 0:=by
 unfold countIn
 induction c with
 |zero=>simp
 |succ c ih =>
  rw [List.replicate_succ];by_cases q:k'=k
  ·rw [zh (by simp [q]),gC,ih,ae q,ae q]
  ·rw [zi (by simp;exact fun z=>q z.symm),ih,ac q,ac q]
theorem Cnt.add{cs:List (Key×Nat)}{us:List Key}(h:Cnt cs us)(k:Key)(c:Nat):Cnt (eV cs k c) (us++List.replicate c k):=by
 unfold eV;by_cases hc:0<c
 ·rw [ae hc];refine⟨?_,fun k'=>?_,fun k'=>?_⟩
  ·rw [Pp];split
   ·exact h.nd
   ·rename_i hn;refine rg.mpr ⟨h.nd,by simp,fun a ha b hb z=>hn ?_⟩
    rw [<-du.mp hb,<-z];exact ha
  ·rw [sB,Zbi,ZbF,h.get,h.get];by_cases q:k'=k
   ·rw [ae q,ae q,q]
   ·rw [ac q,ac q];rfl
  ·rw [Pp,dz];have hr:k'∈List.replicate c k↔k'=k:=by
    rw [List.mem_replicate];exact⟨fun z=>z.2,fun z=>⟨by omega,z⟩⟩
   rw [hr];split
   ·rename_i hm;rw [h.mem];refine⟨.inl,fun z=>z.elim id fun z=>?_⟩;rw [z];exact(h.mem k).mp hm
   ·rw [dz,h.mem,du]
 ·have:c=0:=by omega
  subst this;rw [ac hc];simpa using h
def lJ(l:List Atom)(cs:List (Key×Nat)):List (Key×Nat):=l.foldl (fun cs x=>eV (eV cs (x.element,x.isotope) 1) (1,0) x.hydrogens) cs
theorem Ob:∀ (l:List Atom){cs:List (Key×Nat)}{us:List Key},Cnt cs us->Cnt (lJ l cs) (us++l.flatMap fun x=>(x.element,x.isotope)::List.replicate x.hydrogens (1,0))
 |[],cs,us,h=>by simpa [lJ]using h
 |x::l,cs,us,h=>by
  have h1:=(h.add (x.element,x.isotope) 1).add (1,0) x.hydrogens;have:=Ob l h1;have e:us++(x::l).flatMap (fun x=>(x.element,x.isotope)::List.replicate x.hydrogens (1,0))=(us++List.replicate 1 (x.element,x.isotope)++List.replicate x.hydrogens (1,0))++l.flatMap fun x=>(x.element,x.isotope)::List.replicate x.hydrogens (1,0):=by
   rw [List.flatMap_cons];simp
  rw [e];exact this
theorem Jh(cs:List (Key×Nat))(k:Key)(c:Nat):(eV cs k c).length<=cs.length+1:=by
 unfold eV jz;split
 ·split
  ·rw [aW];omega
  ·rw [gD];simp
 ·omega
theorem HZ:∀ (l:List Atom)(cs:List (Key×Nat)),(lJ l cs).length<=cs.length+2*l.length
 |[],cs=>by simp [lJ]
 |x::l,cs=>by
  have:=HZ l (eV (eV cs (x.element,x.isotope) 1) (1,0) x.hydrogens);have a:=Jh cs (x.element,x.isotope) 1;have b:=Jh (eV cs (x.element,x.isotope) 1) (1,0) x.hydrogens;show(lJ l (eV (eV cs (x.element,x.isotope) 1) (1,0) x.hydrogens)).length<=_;rw [gC];omega
def Bf(x y:Key):Prop:=x.1<y.1\/(x.1=y.1/\x.2<y.2)
theorem P1(x y:Key):less (keyRow x) (keyRow y)=true↔Bf x y:=by
 unfold keyRow Bf;simp [less]
theorem HY(k:Key):∀ (l:List Key)(x:Key),x∈insertKey k l↔x=k\/x∈l
 |[],x=>by simp [insertKey]
 |y::l,x=>by
  unfold insertKey;split
  ·rw [bw]
  ·split
   ·rename_i h;rw [bw,h];exact⟨fun z=>.inr z,fun z=>z.elim (fun z=>.inl z) id⟩
   ·rw [bw,HY k l x,bw];exact⟨fun z=>z.elim (fun z=>.inr (.inl z)) fun z=>z.elim .inl fun z=>.inr (.inr z),fun z=>z.elim (fun z=>.inr (.inl z)) fun z=>z.elim .inl fun z=>.inr (.inr z)⟩
theorem Bf.trans{x y z:Key}(a:Bf x y)(b:Bf y z):Bf x z:=by unfold Bf at *;omega
theorem Bf.irrefl(x:Key):¬ Bf x x:=by unfold Bf;omega
theorem Bf.tri{x y:Key}(h1:¬ Bf x y)(h2:x≠y):Bf y x:=by
 unfold Bf at *
 have:¬ (x.1=y.1/\x.2=y.2):=fun⟨a,b⟩=>h2 (Prod.ext a b);omega
theorem NM(k:Key):∀ {l:List Key},l.Pairwise Bf->(insertKey k l).Pairwise Bf
 |[],_=>List.pairwise_singleton ..
 |y::l,h=>by
  obtain⟨h1,h2⟩:=AG.mp h;unfold insertKey;split
  ·rename_i q;have q:=(P1 k y).mp q;exact List.Pairwise.cons (fun z hz=>(bw.mp hz).elim (fun e=>by rw [e];exact q) fun hz=>q.trans (h1 z hz)) h
  ·rename_i q;split
   ·exact h
   ·rename_i e;refine List.Pairwise.cons (fun z hz=>?_) (NM k h2);rcases(HY k l z).mp hz with rfl |hz
    ·exact Bf.tri (fun w=>q ((P1 _ _).mpr w)) e
    ·exact h1 z hz
theorem NL:∀ l:List Key,(keysOf l).Pairwise Bf
 |[]=>List.Pairwise.nil
 |x::l=>NM x (NL l)
theorem IC(x:Key):∀ l:List Key,x∈keysOf l↔x∈l
 |[]=>by simp [keysOf]
 |y::l=>by
  show x∈insertKey y (keysOf l)↔_;rw [HY,IC x l,bw]
theorem OI:∀ {l m:List Key},l.Pairwise Bf->m.Pairwise Bf->(∀ x,x∈l↔x∈m)->l=m
 |[],[],_,_,_=>rfl
 |[],y::m,_,_,h=>by have:=(h y).mpr (cZ ..);simp at this
 |x::l,[],_,_,h=>by have:=(h x).mp (cZ ..);simp at this
 |x::l,y::m,hl,hm,h=>by
  obtain⟨l1,l2⟩:=AG.mp hl;obtain⟨m1,m2⟩:=AG.mp hm;have e:x=y:=by
   rcases bw.mp ((h x).mp (cZ ..))with e |hx
   ·exact e
   ·rcases bw.mp ((h y).mpr (cZ ..))with e |hy
    ·exact e.symm
    ·exact absurd ((m1 x hx).trans (l1 y hy)) (Bf.irrefl _)
  subst e;refine au (x::·) (OI l2 m2 fun z=>?_);have hx:∀ {n:List Key},(∀ z∈n,Bf x z)->x∉n:=fun hn hm=>Bf.irrefl _ (hn x hm);have hz:=h z;rw [bw,bw]at hz;by_cases q:z=x
  ·subst q;exact⟨fun w=>absurd w (hx l1),fun w=>absurd w (hx m1)⟩
  ·exact⟨fun w=>(hz.mp (.inr w)).resolve_left q,fun w=>(hz.mpr (.inr w)).resolve_left q⟩
end FM
end
section
namespace MX
def sm:Nat->(Nat->Int)->Int
 |0,_=>0
 |n+1,f=>sm n f+f n
theorem Z5a{n:Nat}{f g:Nat->Int}(h:∀ i,i<n->f i=g i):sm n f=sm n g:=by
 induction n with
 |zero=>rfl
 |succ n ih=>unfold sm;rw [ih fun i hi=>h i (by omega),h n (by omega)]
theorem wc{n:Nat}{f:Nat->Int}(h:∀ i,i<n->f i=0):sm n f=0:=by
 induction n with
 |zero=>rfl
 |succ n ih=>unfold sm;rw [ih fun i hi=>h i (by omega),h n (by omega)];rfl
theorem Bk(n:Nat)(f g:Nat->Int):sm n (fun i=>f i+g i)=sm n f+sm n g:=by
 induction n with
 |zero=>rfl
 |succ n ih=>show sm n (fun i=>f i+g i)+(f n+g n)=(sm n f+f n)+(sm n g+g n);rw [ih];omega
theorem Jm(n:Nat)(c:Int)(f:Nat->Int):sm n (fun i=>c*f i)=c*sm n f:=by
 induction n with
 |zero=>show(0:Int)=c*0;omega
 |succ n ih=>unfold sm;rw [ih,Int.mul_add]
theorem PZ(n m:Nat)(f:Nat->Nat->Int):sm n (fun i=>sm m (fun j=>f i j))=sm m (fun j=>sm n (fun i=>f i j)):=by
 induction n with
 |zero=>exact(wc fun j _=>rfl).symm
 |succ n ih =>
  show sm n (fun i=>sm m fun j=>f i j)+sm m (fun j=>f n j)=sm m fun j=>sm n (fun i=>f i j)+f n j;rw [ih,Bk]
theorem Bc{n a:Nat}(h:a<n)(g:Nat->Int):sm n (fun v=>if v=a then g v else 0)=g a:=by
 induction n with
 |zero=>omega
 |succ n ih =>
  show sm n (fun v=>if v=a then g v else 0)+(if n=a then g n else 0)=g a;by_cases e:n=a
  ·subst e;rw [ae rfl,wc fun i hi=>ac (by omega)]
   omega
  ·rw [ac e,ih (by omega)]
   omega
theorem Oz{n:Nat}{f:Nat->Int}(h:∀ i,i<n->0<=f i):0<=sm n f:=by
 induction n with
 |zero=>exact Int.le_refl 0
 |succ n ih=>unfold sm;have:=ih fun i hi=>h i (by omega);have:=h n (by omega);omega
theorem D0{n:Nat}{f g:Nat->Int}(h:∀ i,i<n->f i<=g i):sm n f<=sm n g:=by
 induction n with
 |zero=>exact Int.le_refl 0
 |succ n ih=>unfold sm;have:=ih fun i hi=>h i (by omega);have:=h n (by omega);omega
theorem yE{n k:Nat}{f:Nat->Int}{b:Int}(hb:b<=0)(hk:b<=f k)(h:∀ i,i<n->i≠k->0<=f i):b<=sm n f:=by
 induction n with
 |zero=>exact hb
 |succ n ih =>
  unfold sm;by_cases e:n=k
  ·subst e;have:0<=sm n f:=Oz fun i hi=>h i (by omega) (by omega)
   omega
  ·have:=ih fun i hi hn=>h i (by omega) hn
   have:=h n (by omega) e
   omega
theorem ub{n:Nat}{f g:Nat->Int}(h:∀ i,i<n->(f i-g i) % 2=0):(sm n f-sm n g) % 2=0:=by
 induction n with
 |zero=>rfl
 |succ n ih=>unfold sm;have:=ih fun i hi=>h i (by omega);have:=h n (by omega);omega
structure Bd where
 a:Nat
 b:Nat
 o:Int
structure Gr where
 n:Nat
 m:Nat
 bd:Nat->Bd
structure Gr.Ok(G:Gr):Prop where
 ne:∀ e,e<G.m->(G.bd e).a≠(G.bd e).b
 an:∀ e,e<G.m->(G.bd e).a<G.n
 bn:∀ e,e<G.m->(G.bd e).b<G.n
 lo:∀ e,e<G.m->1<=(G.bd e).o/\(G.bd e).o<=3
def Gr.room(G:Gr)(t:Int)(e:Nat):Int:=if t=1 then 3-(G.bd e).o else(G.bd e).o-1
def inc(d:Bd)(v:Nat):Int:=(if v=d.a then 1 else 0)+(if v=d.b then 1 else 0)
def Gr.bdr(G:Gr)(δ:Nat->Int)(v:Nat):Int:=sm G.m fun e=>inc (G.bd e) v*δ e
structure Gr.Chg(G:Gr)(δ:Nat->Int):Prop where
 up:∀ e,e<G.m->δ e<=3-(G.bd e).o
 dn:∀ e,e<G.m->-((G.bd e).o-1)<=δ e
 sum:∀ v,v<G.n->G.bdr δ v=0
inductive Lab where
 |un
 |one (t:Int)
 |two (r:Nat)
 deriving DecidableEq
def Lab.has:Lab->Int->Prop
 |.un,_=>False
 |.one t,s=>t=s
 |.two _,_=>True
def Lab.y:Lab->Int
 |.one t=>t
 |_=>0
structure lw(G:Gr)(c:Nat)(T:Int)(aZ:Nat->Lab)(st:Nat->Nat):Prop where
 sgn:∀ v t,v<G.n->aZ v=.one t->t=1\/t=-1
 root:∀ v r,v<G.n->aZ v=.two r->r<G.n/\aZ r=.two r
 out:∀ e t,e<G.m->e≠c->(t=1\/t=-1)->0<G.room t e->((aZ (G.bd e).a).has t->aZ (G.bd e).b≠.un)/\((aZ (G.bd e).b).has t->aZ (G.bd e).a≠.un)
 two:∀ e t,e<G.m->e≠c->(t=1\/t=-1)->0<G.room t e->(aZ (G.bd e).a).has t->(aZ (G.bd e).b).has t ->
  (∃ r,aZ (G.bd e).a=.two r/\aZ (G.bd e).b=.two r)\/(G.room t e=1/\((aZ (G.bd e).a=.two (G.bd e).a/\st (G.bd e).a=e)\/(aZ (G.bd e).b=.two (G.bd e).b/\st (G.bd e).b=e)))
 stem:∀ r,r<G.n->aZ r=.two r->st r=c\/(st r<G.m/\st r≠c/\∃ s,(s=1\/s=-1)/\0<G.room s (st r)/\(((G.bd (st r)).a=r/\(aZ (G.bd (st r)).b).has s)\/((G.bd (st r)).b=r/\(aZ (G.bd (st r)).a).has s)))
 cm:c<G.m
 ca:aZ (G.bd c).a=.one (-T)\/(aZ (G.bd c).a=.two (G.bd c).a/\st (G.bd c).a=c)
 cb:aZ (G.bd c).b=.one (-T)\/(aZ (G.bd c).b=.two (G.bd c).b/\st (G.bd c).b=c)
 cT:T=1\/T=-1
def wt(aZ:Nat->Lab)(st:Nat->Nat)(x y e:Nat)(r:Nat):Int:=if aZ x=.two r/\aZ y≠.two r then(if st r=e then -1 else 1)else 0
section
variable{G:Gr}{c:Nat}{T:Int}{aZ:Nat->Lab}{st:Nat->Nat}{δ:Nat->Int}
theorem or(h:G.Ok){e:Nat}(he:e<G.m)(y:Nat->Int):sm G.n (fun v=>y v*inc (G.bd e) v)=y (G.bd e).a+y (G.bd e).b:=by
 have e1:(fun v=>y v*inc (G.bd e) v)=fun v=>(if v=(G.bd e).a then y v else 0)+(if v=(G.bd e).b then y v else 0):=by
  funext v
  unfold inc;split<;>split<;>omega
 rw [e1,Bk,Bc (h.an e he),Bc (h.bn e he)]
theorem vJ(h:G.Ok)(hd:G.Chg δ)(y:Nat->Int):sm G.m (fun e=>δ e*(y (G.bd e).a+y (G.bd e).b))=0:=by
 have e1:sm G.n (fun v=>y v*G.bdr δ v)=0:=wc fun v hv=>by rw [hd.sum v hv];omega
 have e2:sm G.n (fun v=>y v*G.bdr δ v)=sm G.n fun v=>sm G.m fun e=>y v*(inc (G.bd e) v*δ e):=Z5a fun v _=>(Jm _ _ _).symm;rw [e2,PZ]at e1;rw [<-e1];refine Z5a fun e he=>?_;rw [<-or h he y];rw [<-Jm];refine Z5a fun v _=>?_;rw [Int.mul_comm (δ e),Int.mul_assoc]
theorem qk(C:lw G c T aZ st)(h:G.Ok){x y e:Nat}(hx:x<G.n):sm G.n (fun r=>wt aZ st x y e r)=(match aZ x with |.two r=>if aZ y≠.two r then(if st r=e then -1 else 1)else 0 |_=>0):=by
 cases hl:aZ x with
 |un=>exact wc fun r _=>by unfold wt;rw [ac];rw [hl];rintro⟨z,_⟩;cases z
 |one t=>exact wc fun r _=>by unfold wt;rw [ac];rw [hl];rintro⟨z,_⟩;cases z
 |two r0 =>
  have hr:=(C.root x r0 hx hl).1;have:(fun r=>wt aZ st x y e r)=fun r=>if r=r0 then(if aZ y≠.two r then(if st r=e then -1 else 1)else 0)else 0:=by
   funext r
   unfold wt;rw [hl];by_cases q:r=r0
   ·subst q;simp
   ·rw [ac q,ac];rintro⟨z,_⟩;cases z;exact q rfl
  rw [this,Bc hr]
theorem wC(C:lw G c T aZ st)(h:G.Ok)(hd:G.Chg δ)(hc:δ c=T){r:Nat}(hr:r<G.n):
  0<=sm G.m (fun e=>(δ e).natAbs*(wt aZ st (G.bd e).a (G.bd e).b e r+wt aZ st (G.bd e).b (G.bd e).a e r)):=by
 by_cases hm:aZ r=.two r
 ·have ev:(sm G.m (fun e=>(δ e).natAbs*(wt aZ st (G.bd e).a (G.bd e).b e r+wt aZ st (G.bd e).b (G.bd e).a e r))-sm G.m (fun e=>δ e*((if aZ (G.bd e).a=.two r then 1 else 0)+(if aZ (G.bd e).b=.two r then 1 else 0)))) % 2=0:=by
   refine ub fun e he=>?_;unfold wt;by_cases q1:aZ (G.bd e).a=.two r<;>by_cases q2:aZ (G.bd e).b=.two r
   ·simp [q1,q2]
   ·simp only [q1,q2,F6,cQ,bD,i6,and_false,cu,bv];split<;>omega
   ·simp only [q1,q2,F6,cQ,bD,i6,and_false,cu,bv];split<;>omega
   ·simp [q1,q2]
  rw [vJ h hd (fun v=>if aZ v=.two r then 1 else 0)]at ev;have lb:(-1:Int)<=sm G.m (fun e=>(δ e).natAbs*(wt aZ st (G.bd e).a (G.bd e).b e r+wt aZ st (G.bd e).b (G.bd e).a e r)):=by
   refine yE (k:=st r) (by decide) ?_ fun e he bV=>?_
   ·
    by_cases q1:aZ (G.bd (st r)).a=.two r<;>by_cases q2:aZ (G.bd (st r)).b=.two r
    ·simp [wt,q1,q2]
    ·have small:(δ (st r)).natAbs<=1:=by
      rcases C.stem r hr hm with z |⟨z1,z2,s,hs,jx,z3⟩
      ·rw [z,hc];rcases C.cT with e |e<;>rw [e]<;>decide
      ·have hh:(aZ (G.bd (st r)).a).has s:=by rw [q1];trivial
       have Kr:(aZ (G.bd (st r)).b).has s:=by
        rcases z3 with⟨_,z⟩ |⟨z,_⟩
        ·exact z
        ·rw [z]at q2;exact absurd hm q2
       have:=C.two (st r) s z1 z2 hs jx hh Kr;rcases this with⟨r2,a1,a2⟩ |⟨a1,_⟩
       ·rw [q1]at a1;cases a1;exact absurd a2 q2
       ·have u:=hd.up _ z1;have d:=hd.dn _ z1;unfold Gr.room at a1;split at a1<;>omega
     simp only [wt,q1,q2,F6,cQ,bD,i6,and_false,cu,bv];omega
    ·have small:(δ (st r)).natAbs<=1:=by
      rcases C.stem r hr hm with z |⟨z1,z2,s,hs,jx,z3⟩
      ·rw [z,hc];rcases C.cT with e |e<;>rw [e]<;>decide
      ·have hh:(aZ (G.bd (st r)).b).has s:=by rw [q2];trivial
       have Kr:(aZ (G.bd (st r)).a).has s:=by
        rcases z3 with⟨z,_⟩ |⟨_,z⟩
        ·rw [z]at q1;exact absurd hm q1
        ·exact z
       have:=C.two (st r) s z1 z2 hs jx Kr hh;rcases this with⟨r2,a1,a2⟩ |⟨a1,_⟩
       ·rw [q2]at a2;cases a2;exact absurd a1 q1
       ·have u:=hd.up _ z1;have d:=hd.dn _ z1;unfold Gr.room at a1;split at a1<;>omega
     simp only [wt,q1,q2,F6,cQ,bD,i6,and_false,cu,bv];omega
    ·simp [wt,q1,q2]
   ·have hn:(if st r=e then(-1:Int)else 1)=1:=ac fun z=>bV z.symm;unfold wt;rw [hn];by_cases q1:aZ (G.bd e).a=.two r<;>by_cases q2:aZ (G.bd e).b=.two r
    ·simp [q1,q2]
    ·simp only [q1,q2,F6,cQ,bD,i6,and_false,cu,bv];omega
    ·simp only [q1,q2,F6,cQ,bD,i6,and_false,cu,bv];omega
    ·simp [q1,q2]
  omega
 ·
  rw [wc]
  ·exact Int.le_refl 0
  ·intro e he;have q1:aZ (G.bd e).a≠.two r:=fun z=>hm (C.root _ r (h.an e he) z).2;have q2:aZ (G.bd e).b≠.two r:=fun z=>hm (C.root _ r (h.bn e he) z).2;simp [wt,q1,q2]
def Wx(aZ:Nat->Lab)(st:Nat->Nat)(x y e:Nat):Int:=match aZ x with
 |.two r=>if aZ y≠.two r then(if st r=e then -1 else 1)else 0
 |_=>0
theorem oE(C:lw G c T aZ st)(h:G.Ok)(hd:G.Chg δ){e:Nat}(he:e<G.m)(hec:e≠c):
  δ e*((aZ (G.bd e).a).y+(aZ (G.bd e).b).y)+(δ e).natAbs*(Wx aZ st (G.bd e).a (G.bd e).b e+Wx aZ st (G.bd e).b (G.bd e).a e)<=0:=by
 have up:=hd.up e he;have dn:=hd.dn e he;have rm:∀ t:Int,(t=1\/t=-1)->0<t*δ e->0<G.room t e:=fun t ht hp=>by
  unfold Gr.room;rcases ht with rfl |rfl
  ·rw [ae rfl];omega
  ·rw [ac (by decide)];omega
 have C2:=fun t ht hp=>C.two e t he hec ht (rm t ht hp);have C1:=fun t ht hp=>C.out e t he hec ht (rm t ht hp);have sa:=fun t z=>C.sgn (G.bd e).a t (h.an e he) z;have sb:=fun t z=>C.sgn (G.bd e).b t (h.bn e he) z;unfold Wx;generalize (G.bd e).a=x at *
 generalize (G.bd e).b=y at *
 generalize δ e=d at *
 cases lx:aZ x with
 |un =>
  cases ly:aZ y with
  |un=>simp [Lab.y]
  |one t =>
   rw [lx,ly]at C1;simp only [Lab.y];have ht:=sb t ly;have:¬ 0<t*d:=fun hp=>(C1 t ht hp).2 rfl rfl;rcases ht with rfl |rfl<;>omega
  |two r =>
   rw [lx,ly]at C1;have a1:¬ 0<1*d:=fun hp=>(C1 1 (.inl rfl) hp).2 trivial rfl;have a2:¬ 0 < -1*d:=fun hp=>(C1 (-1) (.inr rfl) hp).2 trivial rfl;have:d=0:=by omega
   rw [this];simp
 |one t =>
  have ht:=sa t lx;cases ly:aZ y with
  |un =>
   rw [lx,ly]at C1;simp only [Lab.y];have:¬ 0<t*d:=fun hp=>(C1 t ht hp).1 rfl rfl;rcases ht with rfl |rfl<;>omega
  |one u =>
   have hu:=sb u ly;simp only [Lab.y];by_cases q:t=u
   ·subst q;have:¬ 0<t*d:=fun hp=>by
     rcases C2 t ht hp (by rw [lx];rfl) (by rw [ly];rfl)with⟨r,z,_⟩ |⟨_,⟨z,_⟩ |⟨z,_⟩⟩
     ·rw [lx]at z;cases z
     ·rw [lx]at z;cases z
     ·rw [ly]at z;cases z
    rcases ht with rfl |rfl<;>omega
   ·have:t+u=0:=by omega
    rw [this];simp
  |two r =>
   simp only [Lab.y];rw [ae (by intro z;cases z)]
   by_cases hp:0<t*d
   ·rcases C2 t ht hp (by rw [lx];rfl) (by rw [ly];trivial)with⟨r',z,_⟩ |⟨_,⟨z,_⟩ |⟨z1,z2⟩⟩
    ·rw [lx]at z;cases z
    ·rw [lx]at z;cases z
    ·rw [ly]at z1;cases z1;rw [ae z2];rcases ht with rfl |rfl<;>omega
   ·have:(if st r=e then(-1:Int)else 1)<=1:=by split<;>decide
    generalize (if st r=e then(-1:Int)else 1)=w at this;have hn:(0:Int)<=(d.natAbs:Int):=Int.natCast_nonneg _;have h2:(d.natAbs:Int)*(0+w)<=(d.natAbs:Int)*1:=He (by omega) hn
    rcases ht with rfl |rfl<;>omega
 |two r =>
  cases ly:aZ y with
  |un =>
   rw [lx,ly]at C1;have a1:¬ 0<1*d:=fun hp=>(C1 1 (.inl rfl) hp).1 trivial rfl;have a2:¬ 0 < -1*d:=fun hp=>(C1 (-1) (.inr rfl) hp).1 trivial rfl;have:d=0:=by omega
   rw [this];simp
  |one t =>
   have ht:=sb t ly;simp only [Lab.y];rw [ae (by intro z;cases z)]
   by_cases hp:0<t*d
   ·rcases C2 t ht hp (by rw [lx];trivial) (by rw [ly];rfl)with⟨r',_,z⟩ |⟨_,⟨z1,z2⟩ |⟨z,_⟩⟩
    ·rw [ly]at z;cases z
    ·rw [lx]at z1;cases z1;rw [ae z2];rcases ht with rfl |rfl<;>omega
    ·rw [ly]at z;cases z
   ·have:(if st r=e then(-1:Int)else 1)<=1:=by split<;>decide
    generalize (if st r=e then(-1:Int)else 1)=w at this;have hn:(0:Int)<=(d.natAbs:Int):=Int.natCast_nonneg _;have h2:(d.natAbs:Int)*(w+0)<=(d.natAbs:Int)*1:=He (by omega) hn
    rcases ht with rfl |rfl<;>omega
  |two u =>
   simp only [Lab.y];by_cases q:u=r
   ·subst q;simp
   ·rw [ae (c:=Lab.two u≠Lab.two r) (by intro z;cases z;exact q rfl),ae (c:=Lab.two r≠Lab.two u) (by intro z;cases z;exact q rfl)]
    by_cases z:d=0
    ·rw [z];simp
    ·have hn:(0:Int)<=(d.natAbs:Int):=Int.natCast_nonneg _;have key:(if st r=e then(-1:Int)else 1)+(if st u=e then(-1:Int)else 1)<=0:=by
      have:∃ t:Int,(t=1\/t=-1)/\0<t*d:=by
       rcases Int.lt_or_gt_of_ne z with z |z
       ·exact⟨-1,.inr rfl,by omega⟩
       ·exact⟨1,.inl rfl,by omega⟩
      obtain⟨t,ht,hp⟩:=this;rcases C2 t ht hp (by rw [lx];trivial) (by rw [ly];trivial)with⟨r',z1,z2⟩ |⟨_,⟨z1,z2⟩ |⟨z1,z2⟩⟩
      ·rw [lx]at z1;rw [ly]at z2;cases z1;cases z2;exact absurd rfl q
      ·rw [lx]at z1;cases z1;rw [ae z2];split<;>decide
      ·rw [ly]at z1;cases z1;rw [ae z2];split<;>decide
     have h2:(d.natAbs:Int)*((if st r=e then(-1:Int)else 1)+(if st u=e then(-1:Int)else 1))<=(d.natAbs:Int)*0:=He key hn;omega
theorem sZ(C:lw G c T aZ st)(h:G.Ok)(hc:δ c=T):
  δ c*((aZ (G.bd c).a).y+(aZ (G.bd c).b).y)+(δ c).natAbs*(Wx aZ st (G.bd c).a (G.bd c).b c+Wx aZ st (G.bd c).b (G.bd c).a c)<=-2:=by
 have ne:=h.ne c C.cm;have ca:=C.ca;have cb:=C.cb;have hT:=C.cT;rw [hc];unfold Wx;generalize (G.bd c).a=x at *
 generalize (G.bd c).b=y at *
 rcases ca with ca |⟨ca,ca2⟩<;>rcases cb with cb |⟨cb,cb2⟩<;>rw [ca,cb]<;>simp only [Lab.y]
 ·rcases hT with rfl |rfl<;>decide
 ·rw [ae (by intro z;cases z),ae cb2]
  rcases hT with rfl |rfl<;>decide
 ·rw [ae (by intro z;cases z),ae ca2]
  rcases hT with rfl |rfl<;>decide
 ·rw [ae (c:=Lab.two y≠Lab.two x) (by intro z;cases z;exact ne rfl),ae (c:=Lab.two x≠Lab.two y) (by intro z;cases z;exact ne rfl),ae ca2,ae cb2]
  rcases hT with rfl |rfl<;>decide
theorem ZbC(C:lw G c T aZ st)(h:G.Ok)(hd:G.Chg δ):δ c≠T:=fun hc=>by
 have s1:0<=sm G.n fun r=>sm G.m fun e=>(δ e).natAbs*(wt aZ st (G.bd e).a (G.bd e).b e r+wt aZ st (G.bd e).b (G.bd e).a e r):=Oz fun r hr=>wC C h hd hc hr;rw [PZ]at s1;have e1:sm G.m (fun e=>sm G.n fun r=>(δ e).natAbs*(wt aZ st (G.bd e).a (G.bd e).b e r+wt aZ st (G.bd e).b (G.bd e).a e r))=sm G.m fun e=>(δ e).natAbs*(Wx aZ st (G.bd e).a (G.bd e).b e+Wx aZ st (G.bd e).b (G.bd e).a e):=by
  refine Z5a fun e he=>?_;rw [Jm,Bk,qk C h (h.an e he),qk C h (h.bn e he)];rfl
 rw [e1]at s1;have s2:=vJ h hd (fun v=>(aZ v).y);have s3:sm G.m (fun e=>δ e*((aZ (G.bd e).a).y+(aZ (G.bd e).b).y)+(δ e).natAbs*(Wx aZ st (G.bd e).a (G.bd e).b e+Wx aZ st (G.bd e).b (G.bd e).a e))<=sm G.m fun e=>if e=c then(-2:Int)else 0:=by
  refine D0 fun e he=>?_;by_cases q:e=c
  ·subst q;rw [ae rfl];exact sZ C h hc
  ·rw [ac q];exact oE C h hd he q
 rw [Bk,s2,Bc C.cm (fun _=>(-2:Int))]at s3;omega
end
end MX
end
section
namespace MX
def Jn(d:Bd)(x y:Nat):Prop:=(d.a=x/\d.b=y)\/(d.b=x/\d.a=y)
theorem Jn.symm{d:Bd}{x y:Nat}(h:Jn d x y):Jn d y x:=h.elim (fun⟨a,b⟩=>.inr ⟨b,a⟩) fun⟨a,b⟩=>.inl ⟨b,a⟩
theorem Jn.eq{d:Bd}{x y z:Nat}(h:Jn d x y)(h2:Jn d x z)(hn:d.a≠d.b):y=z:=by
 rcases h with⟨a,b⟩ |⟨a,b⟩<;>rcases h2 with⟨a',b'⟩ |⟨a',b'⟩<;>first |(rw [<-b,<-b'];done) |(exfalso;apply hn;omega)
theorem Jn.ne{d:Bd}{x y:Nat}(h:Jn d x y)(hn:d.a≠d.b):x≠y:=by
 rcases h with⟨a,b⟩ |⟨a,b⟩<;>omega
theorem Jn.end{d:Bd}{x y z w:Nat}(h:Jn d x y)(h2:Jn d z w):z=x\/z=y:=by
 rcases h with⟨a,b⟩ |⟨a,b⟩<;>rcases h2 with⟨a',b'⟩ |⟨a',b'⟩<;>omega
def one(e:Nat)(t:Int):Nat->Int:=fun i=>if i=e then t else 0
def dl(x:Nat)(t:Int):Nat->Int:=fun v=>if v=x then t else 0
section
variable{G:Gr}
theorem lG(f g:Nat->Int)(v:Nat):G.bdr (fun e=>f e+g e) v=G.bdr f v+G.bdr g v:=by
 unfold Gr.bdr;rw [<-Bk];exact Z5a fun e _=>Int.mul_add ..
theorem Jg(v:Nat):G.bdr (fun _=>0) v=0:=wc fun e _=>Int.mul_zero _
theorem zq{e x y:Nat}(he:e<G.m)(h:Jn (G.bd e) x y)(t:Int)(v:Nat):G.bdr (one e t) v=dl x t v+dl y t v:=by
 unfold Gr.bdr one;have:(fun i=>inc (G.bd i) v*if i=e then t else 0)=fun i=>if i=e then inc (G.bd i) v*t else 0:=by
  funext i;split<;>omega
 rw [this,Bc he (fun i=>inc (G.bd i) v*t)];unfold inc dl;rcases h with⟨rfl,rfl⟩ |⟨rfl,rfl⟩<;>split<;>split<;>omega
def Gr.Bnd(G:Gr)(f:Nat->Int):Prop:=∀ e,e<G.m->f e<=G.room 1 e/\-(G.room (-1) e)<=f e
theorem zn(h:G.Ok){e:Nat}(he:e<G.m)(t:Int):0<=G.room t e:=by
 have:=h.lo e he;unfold Gr.room;split<;>omega
theorem Iz(h:G.Ok):G.Bnd fun _=>0:=fun e he=>⟨zn h he 1,by have:=zn h he (-1);show -(G.room (-1) e)<=0;omega⟩
theorem Bh(h:G.Ok){e:Nat}{t:Int}(ht:t=1\/t=-1)(hr:0<G.room t e):G.Bnd (one e t):=fun i hi=>by
 have a:=zn h hi 1;have b:=zn h hi (-1);unfold one;by_cases q:i=e
 ·subst q;rw [ae rfl];rcases ht with rfl |rfl<;>omega
 ·rw [ac q];omega
theorem ma{f g:Nat->Int}(hf:G.Bnd f)(hg:G.Bnd g)(hd:∀ e,f e=0\/g e=0):G.Bnd fun e=>f e+g e:=fun e he=>by
 have a:=hf e he;have b:=hg e he;show f e+g e<=_/\_<=f e+g e;rcases hd e with q |q<;>rw [q]<;>omega
end
structure S where
 re:Nat->Prop
 root:Nat->Nat
 rk:Nat->Nat
 nx:Nat
 cb:Nat->Nat
 cf:Nat->Option Nat
 ar:Nat->Int
 tn:Nat->Int->Prop
 dn:Nat->Int->Nat->Prop
def S.up(s:S)(z:Nat):Option Nat:=(s.cf z).map s.root
structure S.Mu(s:S)(G:Gr)(c v:Nat)(t:Int)(μ:Nat->Int):Prop where
 bnd:G.Bnd μ
 sup:∀ e,μ e≠0->e<G.m/\e≠c/\s.re (G.bd e).a/\s.re (G.bd e).b/\s.root (G.bd e).a=s.root v/\s.root (G.bd e).b=s.root v
 bdr:∀ w,G.bdr μ w=-(dl (s.root v) (s.ar (s.root v)) w)-dl v t w
structure S.Ok(s:S)(G:Gr)(c:Nat)(T:Int):Prop where
 rn:∀ x,s.re x->x<G.n
 rkn:∀ x,s.re x->s.rk x<s.nx
 root:∀ x,s.re x->s.re (s.root x)/\s.root (s.root x)=s.root x/\(s.root x≠x->s.rk (s.root x)<s.rk x)
 first:∀ x,s.re x->s.tn x (-(s.ar x))/\(s.ar x=1\/s.ar x=-1)
 tnr:∀ x t,s.tn x t->s.re x/\(t=1\/t=-1)
 cls:∀ x y t,s.re x->s.re y->x≠y->s.root x=s.root y->(t=1\/t=-1)->s.tn x t
 top:∀ x,s.re x->s.cf x=none->s.cb x=c/\(x=(G.bd c).a\/x=(G.bd c).b)/\s.ar x=T
 tree:∀ x w,s.re x->s.cf x=some w->s.re w/\s.rk w<s.rk x/\s.cb x<G.m/\s.cb x≠c/\Jn (G.bd (s.cb x)) x w/\0<G.room (s.ar x) (s.cb x)/\s.tn w (s.ar x)/\s.dn w (s.ar x) (s.cb x)
 upp:∀ x,s.re x->s.root x≠x->∃ w,s.cf x=some w/\s.root w=s.root x
 ends:s.re (G.bd c).a/\s.re (G.bd c).b/\s.cf (G.bd c).a=none/\s.cf (G.bd c).b=none
 mu:∀ v t,s.tn v t->∃ μ,s.Mu G c v t μ
 d1:∀ x t e,s.dn x t e->s.tn x t/\e<G.m/\e≠c/\0<G.room t e/\∃ y,Jn (G.bd e) x y/\s.re y
 d2:∀ x y t e,Jn (G.bd e) x y->s.dn x t e->s.dn y t e->s.root x=s.root y\/(G.room t e=1/\((s.root x=x/\s.cb x=e/\s.ar x=t)\/(s.root y=y/\s.cb y=e/\s.ar y=t)))
 d4:∀ x y t e,Jn (G.bd e) x y->s.dn y t e->s.cb x=e->s.cf x=some y->s.ar x=-t->s.root x=s.root y
section
variable{G:Gr}{c:Nat}{T:Int}{s:S}
theorem S.Ok.rootTop(k:s.Ok G c T){x:Nat}(h:s.re x)(hc:s.cf x=none):s.root x=x:=by
 by_cases q:s.root x=x
 ·exact q
 ·obtain⟨w,e,_⟩:=k.upp x h q;rw [hc]at e;cases e
inductive Path (up:Nat->Option Nat):Nat->List Nat->Option Nat->Prop
 |nil (m:Nat):Path up m [] (some m)
 |top (z:Nat):up z=none->Path up z [z] none
 |step (z z':Nat)(L:List Nat)(m:Option Nat):up z=some z'->some z≠m->Path up z' L m->Path up z (z::L) m
theorem up_lt(k:s.Ok G c T){z z':Nat}(hr:s.re z)(h:s.up z=some z'):s.re z'/\s.root z'=z'/\s.rk z' < s.rk z:=by
 unfold S.up at h;cases e:s.cf z with
 |none=>rw [e]at h;cases h
 |some w =>
  rw [e]at h;cases h;obtain⟨h1,h2,_⟩:=k.tree z w hr e;obtain⟨h3,h4,h5⟩:=k.root w h1;refine⟨h3,h4,?_⟩;by_cases q:s.root w=w
  ·rw [q];exact h2
  ·exact qv (h5 q) h2
theorem Z6K(k:s.Ok G c T):∀ {z:Nat}{L:List Nat}{m:Option Nat},Path s.up z L m->s.re z->s.root z=z->(∀ w∈L,s.re w/\s.root w=w/\s.rk w<=s.rk z)/\∀ m',m=some m'->s.re m'/\s.root m'=m'/\s.rk m'<=s.rk z/\∀ w∈L,s.rk m' < s.rk w
 |_,_,_,.nil m,hr,hz=>⟨fun w hw=>by simp at hw,fun m' e=>by cases e;exact⟨hr,hz,bO _,fun w hw=>by simp at hw⟩⟩
 |_,_,_,.top z hu,hr,hz=>⟨fun w hw=>by rw [du.mp hw];exact⟨hr,hz,bO _⟩,fun m' e=>by cases e⟩
 |_,_,_,.step z z' L m hu bV hp,hr,hz=>by
  obtain⟨a1,a2,a3⟩:=up_lt k hr hu;obtain⟨b1,b2⟩:=Z6K k hp a1 a2;refine⟨fun w hw=>?_,fun m' e=>?_⟩
  ·rcases bw.mp hw with rfl |hw
   ·exact⟨hr,hz,bO _⟩
   ·obtain⟨c1,c2,c3⟩:=b1 w hw;exact⟨c1,c2,by omega⟩
  ·obtain⟨c1,c2,c3,c4⟩:=b2 m' e;refine⟨c1,c2,by omega,fun w hw=>?_⟩
   rcases bw.mp hw with rfl |hw
   ·omega
   ·exact c4 w hw
theorem Z7Q(k:s.Ok G c T){z z':Nat}{L:List Nat}{m:Option Nat}(hr:s.re z)(hz:s.root z=z)(hu:s.up z=some z')(hp:Path s.up z' L m):z∉L/\∀ w∈L,s.rk w<s.rk z:=by
 obtain⟨a1,a2,a3⟩:=up_lt k hr hu;obtain⟨b1,_⟩:=Z6K k hp a1 a2;have h:∀ w∈L,s.rk w<s.rk z:=fun w hw=>by have:=(b1 w hw).2.2;omega
 exact⟨fun hm=>il _ (h z hm),h⟩
structure Kap(s:S)(G:Gr)(c v:Nat)(t:Int)(L:List Nat)(m:Nat)(κ:Nat->Int)(w:Nat)(r:Int):Prop where
 rew:s.re w
 rtw:s.root w=m
 tnw:s.tn w r
 bnd:G.Bnd κ
 sup:∀ e,κ e≠0->e<G.m/\e≠c/\s.re (G.bd e).a/\s.re (G.bd e).b/\(s.root (G.bd e).a∈L\/s.root (G.bd e).b∈L)/\(s.root (G.bd e).a∈L\/s.root (G.bd e).a=m)/\(s.root (G.bd e).b∈L\/s.root (G.bd e).b=m)
 stem:∀ e,κ e≠0->(s.root (G.bd e).a=m\/s.root (G.bd e).b=m)->∃ z∈L,∃ w',s.cb z=e/\Jn (G.bd e) z w'/\κ e=s.ar z
 bdr:∀ u,G.bdr κ u=-(dl v t u)+dl w r u
theorem z5(k:s.Ok G c T)(hG:G.Ok):∀ {L:List Nat}{z m v:Nat}{t:Int},Path s.up z L (some m)->s.re v->s.root v=z->s.tn v t->∃ κ w r,Kap s G c v t L m κ w r
 |[],z,m,v,t,hp,hv,hz,ht=>by
  have e:z=m:=by cases hp with |nil=>rfl
  subst e;refine⟨fun _=>0,v,t,hv,hz,ht,Iz hG,fun e h=>absurd rfl h,fun e h=>absurd rfl h,fun u=>?_⟩;rw [Jg];omega
 |y::L,z,m,v,t,hp,hv,hz,ht=>by
  have La:z=y:=by cases hp with |step _ _ _ _ _ _ _=>rfl
  subst La;obtain⟨z',hu,bV,hp⟩:∃ z',s.up z=some z'/\some z≠some m/\Path s.up z' L (some m):=by
   cases hp with |step _ z' _ _ hu bV hp=>exact⟨z',hu,bV,hp⟩
  ·
   have iL:=k.root v hv;rw [hz]at iL;obtain⟨kb,sS,_⟩:=iL;obtain⟨nL,_⟩:=Z7Q k kb sS hu hp;have ee:=hu;unfold S.up at ee;cases ec:s.cf z with
   |none=>rw [ec]at ee;cases ee
   |some w1 =>
    rw [ec]at ee;have er:s.root w1=z':=Option.some.inj ee;obtain⟨t1,t2,t3,t4,t5,t6,t7,t8⟩:=k.tree z w1 kb ec;obtain⟨κ1,w,r,K1⟩:=z5 k hG hp t1 er t7;obtain⟨μ,M⟩:=k.mu v t ht;have a1:=up_lt k kb hu;have mz:∀ m',some m=some m'->m'≠z:=fun m' e q=>bV (by rw [e,q])
    have mz:=mz m rfl;have EQ:z'≠z:=fun q=>by have:=a1.2.2;rw [q]at this;exact il _ this
    have hf:=(k.first z kb).2;have s1:∀ e,κ1 e≠0->s.root (G.bd e).a≠z/\s.root (G.bd e).b≠z:=fun e h=>by
     obtain⟨_,_,_,_,_,q1,q2⟩:=K1.sup e h;refine⟨fun q=>?_,fun q=>?_⟩
     ·rcases q1 with q1 |q1
      ·rw [q]at q1;exact nL q1
      ·rw [q]at q1;exact mz q1.symm
     ·rcases q2 with q2 |q2
      ·rw [q]at q2;exact nL q2
      ·rw [q]at q2;exact mz q2.symm
    have s2:∀ e,μ e≠0->s.root (G.bd e).a=z/\s.root (G.bd e).b=z:=fun e h=>by
     obtain⟨_,_,_,_,q1,q2⟩:=M.sup e h;rw [hz]at q1 q2;exact⟨q1,q2⟩
    have s3:(s.root (G.bd (s.cb z)).a=z/\s.root (G.bd (s.cb z)).b=z')\/(s.root (G.bd (s.cb z)).b=z/\s.root (G.bd (s.cb z)).a=z'):=by
     rcases t5 with⟨q1,q2⟩ |⟨q1,q2⟩
     ·exact .inl ⟨by rw [q1];exact sS,by rw [q2];exact er⟩
     ·exact .inr ⟨by rw [q1];exact sS,by rw [q2];exact er⟩
    have d1:∀ e,μ e=0\/one (s.cb z) (s.ar z) e=0:=fun e=>by
     by_cases q:e=s.cb z
     ·left;by_cases q2:μ e=0
      ·exact q2
      ·have:=s2 e q2;rw [q]at this;rcases s3 with⟨_,b⟩ |⟨_,b⟩
       ·rw [this.2]at b;exact absurd b.symm EQ
       ·rw [this.1]at b;exact absurd b.symm EQ
     ·right;unfold one;rw [ac q]
    have d2:∀ e,μ e+one (s.cb z) (s.ar z) e=0\/κ1 e=0:=fun e=>by
     by_cases q:κ1 e=0
     ·exact .inr q
     ·left;have h1:=s1 e q;have h2:μ e=0:=by
       by_cases q2:μ e=0
       ·exact q2
       ·exact absurd (s2 e q2).1 h1.1
      have h3:e≠s.cb z:=fun q3=>by
       rw [q3]at h1;rcases s3 with⟨b,_⟩ |⟨b,_⟩
       ·exact h1.1 b
       ·exact h1.2 b
      rw [h2];unfold one;rw [ac h3];rfl
    refine⟨fun e=>(μ e+one (s.cb z) (s.ar z) e)+κ1 e,w,r,K1.rew,K1.rtw,K1.tnw,ma (ma M.bnd (Bh hG hf t6) d1) K1.bnd d2,fun e h=>?_,fun e h hm=>?_,fun u=>?_⟩
    ·by_cases q1:κ1 e=0
     ·by_cases q2:e=s.cb z
      ·rw [q2];refine⟨t3,t4,?_⟩;have vd:z'∈L\/z'=m:=by
        cases hp with
        |nil=>exact .inr rfl
        |step _ _ _ _ _ _ _=>exact .inl (cZ ..)
       have Rt:s.re (G.bd (s.cb z)).a/\s.re (G.bd (s.cb z)).b:=by
        rcases t5 with⟨q1,q2⟩ |⟨q1,q2⟩
        ·rw [q1,q2];exact⟨kb,t1⟩
        ·rw [q1,q2];exact⟨t1,kb⟩
       refine⟨Rt.1,Rt.2,?_⟩;rcases s3 with⟨b1,b2⟩ |⟨b1,b2⟩
       ·rw [b1,b2];exact⟨.inl (cZ ..),.inl (cZ ..),vd.elim (fun q=>.inl (dk _ q)) .inr⟩
       ·rw [b1,b2];exact⟨.inr (cZ ..),vd.elim (fun q=>.inl (dk _ q)) .inr,.inl (cZ ..)⟩
      ·have q3:μ e≠0:=fun q3=>h (by show μ e+one (s.cb z) (s.ar z) e+κ1 e=0;rw [q1,q3];unfold one;rw [ac q2];rfl)
       obtain⟨m1,m2,m3,m4,m5,m6⟩:=M.sup e q3;rw [hz]at m5 m6;rw [m5,m6];exact⟨m1,m2,m3,m4,.inl (cZ ..),.inl (cZ ..),.inl (cZ ..)⟩
     ·obtain⟨m1,m2,m3,m4,m5,m6,m7⟩:=K1.sup e q1;exact⟨m1,m2,m3,m4,m5.imp (dk _) (dk _),m6.imp_left (dk _),m7.imp_left (dk _)⟩
    ·by_cases q1:κ1 e=0
     ·by_cases q2:e=s.cb z
      ·refine⟨z,cZ ..,w1,q2.symm,by rw [q2];exact t5,?_⟩
       have h2:μ e=0:=by
        rcases d1 e with q |q
        ·exact q
        ·rw [q2]at q;unfold one at q;rw [ae rfl]at q;rcases hf with z |z<;>omega
       show μ e+one (s.cb z) (s.ar z) e+κ1 e=s.ar z;rw [q1,h2,q2];unfold one;rw [ae rfl];omega
      ·have q3:μ e≠0:=fun q3=>h (by show μ e+one (s.cb z) (s.ar z) e+κ1 e=0;rw [q1,q3];unfold one;rw [ac q2];rfl)
       obtain⟨m5,m6⟩:=s2 e q3;rw [m5,m6]at hm;exact absurd (hm.elim id id).symm mz
     ·obtain⟨y',hy,w',a1,a2,a3⟩:=K1.stem e q1 hm;refine⟨y',dk _ hy,w',a1,a2,?_⟩;show μ e+one (s.cb z) (s.ar z) e+κ1 e=s.ar y';rcases d2 e with q |q
      ·omega
      ·exact absurd q q1
    ·rw [lG,lG,M.bdr,zq t3 t5,K1.bdr,hz];omega
end
end MX
end
section
namespace MX
section
variable{G:Gr}{c:Nat}{T:Int}{s:S}
structure Nu(s:S)(G:Gr)(c:Nat)(T:Int)(v:Nat)(t:Int)(L:List Nat)(ν:Nat->Int)(p:Nat):Prop where
 top:p=(G.bd c).a\/p=(G.bd c).b
 mem:p∈L
 bnd:G.Bnd ν
 sup:∀ e,ν e≠0->e<G.m/\e≠c/\s.root (G.bd e).a∈L/\s.root (G.bd e).b∈L
 bdr:∀ u,G.bdr ν u=-(dl v t u)-dl p T u
theorem nu(k:s.Ok G c T)(hG:G.Ok):∀ {L:List Nat}{z v:Nat}{t:Int},Path s.up z L none->s.re v->s.root v=z->s.tn v t->∃ ν p,Nu s G c T v t L ν p
 |[],z,v,t,hp,hv,hz,ht=>by cases hp
 |y::L,z,v,t,hp,hv,hz,ht=>by
  have La:z=y:=by cases hp<;>rfl
  subst La;have iL:=k.root v hv;rw [hz]at iL;obtain⟨kb,sS,_⟩:=iL;obtain⟨μ,M⟩:=k.mu v t ht;have wD:(L=[]/\s.up z=none)\/∃ z',s.up z=some z'/\Path s.up z' L none:=by
   cases hp with
   |top _ hu=>exact .inl ⟨rfl,hu⟩
   |step _ z' _ _ hu bV hp=>exact .inr ⟨z',hu,hp⟩
  rcases wD with⟨rfl,hu⟩ |⟨z',hu,hp⟩
  ·have ec:s.cf z=none:=by
    unfold S.up at hu;cases e:s.cf z with
    |none=>rfl
    |some w=>rw [e]at hu;cases hu
   obtain⟨c1,c2,c3⟩:=k.top z kb ec;refine⟨μ,z,c2,cZ ..,M.bnd,fun e h=>?_,fun u=>?_⟩
   ·obtain⟨m1,m2,m3,m4,m5,m6⟩:=M.sup e h;rw [hz]at m5 m6;rw [m5,m6];exact⟨m1,m2,cZ ..,cZ ..⟩
   ·rw [M.bdr,hz,c3];omega
  ·obtain⟨nL,_⟩:=Z7Q k kb sS hu hp;have ee:=hu;unfold S.up at ee;cases ec:s.cf z with
   |none=>rw [ec]at ee;cases ee
   |some w1 =>
    rw [ec]at ee;have er:s.root w1=z':=Option.some.inj ee;obtain⟨t1,t2,t3,t4,t5,t6,t7,t8⟩:=k.tree z w1 kb ec;obtain⟨ν1,p,N1⟩:=nu k hG hp t1 er t7;have a1:=up_lt k kb hu;have EQ:z'≠z:=fun q=>by have:=a1.2.2;rw [q]at this;exact il _ this
    have hf:=(k.first z kb).2;have s1:∀ e,ν1 e≠0->s.root (G.bd e).a≠z/\s.root (G.bd e).b≠z:=fun e h=>by
     obtain⟨_,_,q1,q2⟩:=N1.sup e h;exact⟨fun q=>nL (q ▸ q1),fun q=>nL (q ▸ q2)⟩
    have s2:∀ e,μ e≠0->s.root (G.bd e).a=z/\s.root (G.bd e).b=z:=fun e h=>by
     obtain⟨_,_,_,_,q1,q2⟩:=M.sup e h;rw [hz]at q1 q2;exact⟨q1,q2⟩
    have s3:(s.root (G.bd (s.cb z)).a=z/\s.root (G.bd (s.cb z)).b=z')\/(s.root (G.bd (s.cb z)).b=z/\s.root (G.bd (s.cb z)).a=z'):=by
     rcases t5 with⟨q1,q2⟩ |⟨q1,q2⟩
     ·exact .inl ⟨by rw [q1];exact sS,by rw [q2];exact er⟩
     ·exact .inr ⟨by rw [q1];exact sS,by rw [q2];exact er⟩
    have d1:∀ e,μ e=0\/one (s.cb z) (s.ar z) e=0:=fun e=>by
     by_cases q:e=s.cb z
     ·left;by_cases q2:μ e=0
      ·exact q2
      ·have:=s2 e q2;rw [q]at this;rcases s3 with⟨_,b⟩ |⟨_,b⟩
       ·rw [this.2]at b;exact absurd b.symm EQ
       ·rw [this.1]at b;exact absurd b.symm EQ
     ·right;unfold one;rw [ac q]
    have d2:∀ e,μ e+one (s.cb z) (s.ar z) e=0\/ν1 e=0:=fun e=>by
     by_cases q:ν1 e=0
     ·exact .inr q
     ·left;have h1:=s1 e q;have h2:μ e=0:=by
       by_cases q2:μ e=0
       ·exact q2
       ·exact absurd (s2 e q2).1 h1.1
      have h3:e≠s.cb z:=fun q3=>by
       rw [q3]at h1;rcases s3 with⟨b,_⟩ |⟨b,_⟩
       ·exact h1.1 b
       ·exact h1.2 b
      rw [h2];unfold one;rw [ac h3];rfl
    have vd:z'∈L:=by
     cases hp with
     |top _ _=>exact cZ ..
     |step _ _ _ _ _ _ _=>exact cZ ..
    refine⟨fun e=>(μ e+one (s.cb z) (s.ar z) e)+ν1 e,p,N1.top,dk _ N1.mem,ma (ma M.bnd (Bh hG hf t6) d1) N1.bnd d2,fun e h=>?_,fun u=>?_⟩
    ·by_cases q1:ν1 e=0
     ·by_cases q2:e=s.cb z
      ·rw [q2];refine⟨t3,t4,?_⟩;rcases s3 with⟨b1,b2⟩ |⟨b1,b2⟩
       ·rw [b1,b2];exact⟨cZ ..,dk _ vd⟩
       ·rw [b1,b2];exact⟨dk _ vd,cZ ..⟩
      ·have q3:μ e≠0:=fun q3=>h (by show μ e+one (s.cb z) (s.ar z) e+ν1 e=0;rw [q1,q3];unfold one;rw [ac q2];rfl)
       obtain⟨m1,m2,m3,m4,m5,m6⟩:=M.sup e q3;rw [hz]at m5 m6;rw [m5,m6];exact⟨m1,m2,cZ ..,cZ ..⟩
     ·obtain⟨m1,m2,m3,m4⟩:=N1.sup e q1;exact⟨m1,m2,dk _ m3,dk _ m4⟩
    ·rw [lG,lG,M.bdr,zq t3 t5,N1.bdr,hz];omega
theorem found(k:s.Ok G c T)(hG:G.Ok)(zP:c<G.m)(ho:(G.bd c).o=2)(hT:T=1\/T=-1){x y e:Nat}{t:Int}{C D:List Nat}(he:e<G.m)(hec:e≠c)(hj:Jn (G.bd e) x y)(hr:0<G.room t e)
  (tx:s.tn x t)(ty:s.tn y t)(pC:Path s.up (s.root x) C none)(pD:Path s.up (s.root y) D none)(dis:∀ z,z∈C->z∉D):∃ δ,G.Chg δ/\δ c=T:=by
 obtain⟨rx,ht⟩:=k.tnr x t tx;obtain⟨ry,_⟩:=k.tnr y t ty;obtain⟨f,p,F⟩:=nu k hG pC rx rfl tx;obtain⟨g,q,Gq⟩:=nu k hG pD ry rfl ty;have sI:∀ {z:Nat}{L:List Nat},Path s.up z L none->z∈L:=fun{z L} h=>by
  cases h with
  |top _ _=>exact cZ ..
  |step _ _ _ _ _ _ _=>exact cZ ..
 have hx:=sI pC;have hy:=sI pD;have sx:∀ i,f i≠0->s.root (G.bd i).a∉D/\s.root (G.bd i).b∉D:=fun i h=>let ⟨_,_,a,b⟩:=F.sup i h;⟨dis _ a,dis _ b⟩;have d1:∀ i,f i=0\/g i=0:=fun i=>by
  by_cases h:f i=0
  ·exact .inl h
  ·right;by_cases h2:g i=0
   ·exact h2
   ·exact absurd (Gq.sup i h2).2.2.1 (sx i h).1
 have fe:f e=0:=by
  by_cases h:f e=0
  ·exact h
  ·obtain⟨_,_,a,b⟩:=F.sup e h;rcases hj with⟨q1,q2⟩ |⟨q1,q2⟩
   ·rw [q2]at b;exact absurd hy (dis _ b)
   ·rw [q2]at a;exact absurd hy (dis _ a)
 have ge:g e=0:=by
  by_cases h:g e=0
  ·exact h
  ·obtain⟨_,_,a,b⟩:=Gq.sup e h;rcases hj with⟨q1,q2⟩ |⟨q1,q2⟩
   ·rw [q1]at a;exact absurd a (dis _ hx)
   ·rw [q1]at b;exact absurd b (dis _ hx)
 have fc:f c=0:=by
  by_cases h:f c=0
  ·exact h
  ·exact absurd rfl (F.sup c h).2.1
 have gc:g c=0:=by
  by_cases h:g c=0
  ·exact h
  ·exact absurd rfl (Gq.sup c h).2.1
 have rc:∀ t:Int,G.room t c=1:=fun t=>by unfold Gr.room;rw [ho];split<;>rfl
 have b1:=ma F.bnd Gq.bnd d1;have b2:=ma b1 (Bh hG ht hr) fun i=>by
  by_cases h:i=e
  ·rw [h];left;show f e+g e=0;omega
  ·right;unfold one;rw [ac h]
 have b3:=ma b2 (Bh hG hT (by rw [rc];decide)) fun i=>by
  by_cases h:i=c
  ·rw [h];left;show f c+g c+one e t c=0;unfold one;rw [ac (Ne.symm hec)];omega
  ·right;unfold one;rw [ac h]
 refine⟨fun i=>f i+g i+one e t i+one c T i,⟨fun i hi=>?_,fun i hi=>?_,fun v _=>?_⟩,?_⟩
 ·have:=(b3 i hi).1;unfold Gr.room at this;rw [ae rfl]at this;exact this
 ·have:=(b3 i hi).2;unfold Gr.room at this;rw [ac (by decide)]at this;exact this
 ·rw [lG,lG,lG,F.bdr,Gq.bdr,zq he hj,zq zP (.inl ⟨rfl,rfl⟩)];have pq:p≠q:=fun z=>dis p F.mem (z ▸ Gq.mem);rcases F.top with rfl |rfl<;>rcases Gq.top with rfl |rfl
  ·exact absurd rfl pq
  ·omega
  ·omega
  ·exact absurd rfl pq
 ·show f c+g c+one e t c+one c T c=T;unfold one;rw [ac (Ne.symm hec),ae rfl];omega
end
end MX
end
section
namespace MX
section
variable{G:Gr}{c:Nat}{T:Int}{s:S}
theorem Z3e{up:Nat->Option Nat}{z:Nat}{L:List Nat}{m:Nat}(h:Path up z L (some m)):z∈L\/z=m:=by
 cases h with
 |nil=>exact .inr rfl
 |step _ _ _ _ _ _ _=>exact .inl (cZ ..)
theorem Z4J(k:s.Ok G c T):∀ {L:List Nat}{x m z:Nat},Path s.up x L (some m)->s.re x->s.root x=x->z∈L->∃ C1 C2,L=C1++z::C2/\Path s.up x C1 (some z)/\Path s.up z (z::C2) (some m)/\(∀ w∈C1,w∈L)/\∀ w∈C2,w∈L
 |[],x,m,z,h,hr,hx,hz=>by simp at hz
 |y::L,x,m,z,h,hr,hx,hz=>by
  have CL:x=y:=by cases h with |step _ _ _ _ _ _ _=>rfl
  subst CL;obtain⟨x',hu,bV,hp⟩:∃ x',s.up x=some x'/\some x≠some m/\Path s.up x' L (some m):=by
   cases h with |step _ x' _ _ hu bV hp=>exact⟨x',hu,bV,hp⟩
  obtain⟨nL,_⟩:=Z7Q k hr hx hu hp;rcases bw.mp hz with rfl |hz
  ·exact⟨[],L,rfl,.nil _,.step _ x' _ _ hu bV hp,fun w hw=>by simp at hw,fun w hw=>dk _ hw⟩
  ·obtain⟨a1,a2,a3⟩:=up_lt k hr hu;obtain⟨C1,C2,e,p1,p2,b1,b2⟩:=Z4J k hp a1 a2 hz;refine⟨x::C1,C2,by rw [e];rfl,.step _ x' _ _ hu (fun q=>?_) p1,p2,fun w hw=>?_,fun w hw=>dk _ (b2 w hw)⟩
   ·cases q;exact nL hz
   ·rcases bw.mp hw with rfl |hw
    ·exact cZ ..
    ·exact dk _ (b1 w hw)
structure Ring(s:S)(G:Gr)(c x y e:Nat)(t:Int)(C D:List Nat)(m:Nat):Prop where
 tx:s.tn x t
 ty:s.tn y t
 he:e<G.m
 hec:e≠c
 hj:Jn (G.bd e) x y
 hr:0<G.room t e
 pC:Path s.up (s.root x) C (some m)
 pD:Path s.up (s.root y) D (some m)
 dis:∀ z,z∈C->z∉D
theorem Ring.symm{x y e:Nat}{t:Int}{C D:List Nat}{m:Nat}(R:Ring s G c x y e t C D m):Ring s G c y x e t D C m:=⟨R.ty,R.tx,R.he,R.hec,R.hj.symm,R.hr,R.pD,R.pC,fun z a b=>R.dis z b a⟩
structure RMu(s:S)(G:Gr)(c:Nat)(C D:List Nat)(m v:Nat)(t:Int)(μ:Nat->Int):Prop where
 bnd:G.Bnd μ
 sup:∀ e,μ e≠0->e<G.m/\e≠c/\s.re (G.bd e).a/\s.re (G.bd e).b/\(s.root (G.bd e).a∈C\/s.root (G.bd e).a∈D\/s.root (G.bd e).a=m)/\(s.root (G.bd e).b∈C\/s.root (G.bd e).b∈D\/s.root (G.bd e).b=m)
 bdr:∀ w,G.bdr μ w=-(dl m (s.ar m) w)-dl v t w
theorem RMu.swap{C D:List Nat}{m v:Nat}{t:Int}{μ:Nat->Int}(h:RMu s G c C D m v t μ):RMu s G c D C m v t μ:=
 ⟨h.bnd,fun e q=>by obtain⟨a,b,c1,d,f,g⟩:=h.sup e q;exact⟨a,b,c1,d,f.elim (fun z=>.inr (.inl z)) fun z=>z.elim .inl fun z=>.inr (.inr z),g.elim (fun z=>.inr (.inl z)) fun z=>z.elim .inl fun z=>.inr (.inr z)⟩,h.bdr⟩
theorem Z7l(k:s.Ok G c T){x y e:Nat}{t:Int}{C D:List Nat}{m:Nat}(R:Ring s G c x y e t C D m):s.re m/\s.root m=m/\m∉C/\m∉D/\(∀ z∈C,s.re z/\s.root z=z/\s.rk m<s.rk z)/\∀ z∈D,s.re z/\s.root z=z/\s.rk m<s.rk z:=by
 have rx:=(k.tnr x t R.tx).1;have ry:=(k.tnr y t R.ty).1;obtain⟨a1,a2⟩:=Z6K k R.pC (k.root x rx).1 (k.root x rx).2.1;obtain⟨b1,b2⟩:=Z6K k R.pD (k.root y ry).1 (k.root y ry).2.1;obtain⟨c1,c2,c3,c4⟩:=a2 m rfl;obtain⟨_,_,_,d4⟩:=b2 m rfl;exact⟨c1,c2,fun h=>il _ (c4 m h),fun h=>il _ (d4 m h),fun z hz=>⟨(a1 z hz).1,(a1 z hz).2.1,c4 z hz⟩,fun z hz=>⟨(b1 z hz).1,(b1 z hz).2.1,d4 z hz⟩⟩
theorem Oj(k:s.Ok G c T)(hG:G.Ok){x y e v:Nat}{t u:Int}{C D:List Nat}{m:Nat}(R:Ring s G c x y e t C D m)(hv:s.re v)(hc:s.root v∈C)(hu:s.tn v u):∃ μ,RMu s G c C D m v u μ:=by
 obtain⟨m1,m2,m3,m4,m5,m6⟩:=Z7l k R;have rx:=(k.tnr x t R.tx).1;obtain⟨C1,C2,e1,p1,p2,b1,b2⟩:=Z4J k R.pC (k.root x rx).1 (k.root x rx).2.1 hc;have sub:∀ w,w∈s.root v::C2->w∈C:=fun w hw=>by
  rcases bw.mp hw with rfl |hw
  ·exact hc
  ·exact b2 w hw
 obtain⟨κ,w,r,K⟩:=z5 k hG p2 hv rfl hu;obtain⟨μ,M⟩:=k.mu w r K.tnw;have hM:∀ i,μ i≠0->s.root (G.bd i).a=m/\s.root (G.bd i).b=m:=fun i h=>by
  obtain⟨_,_,_,_,q1,q2⟩:=M.sup i h;rw [K.rtw]at q1 q2;exact⟨q1,q2⟩
 have d:∀ i,κ i=0\/μ i=0:=fun i=>by
  by_cases h:κ i=0
  ·exact .inl h
  ·right;by_cases h2:μ i=0
   ·exact h2
   ·obtain⟨q1,q2⟩:=hM i h2;obtain⟨_,_,_,_,q,_,_⟩:=K.sup i h;rw [q1,q2]at q;exact absurd (sub m (q.elim id id)) m3
 refine⟨fun i=>κ i+μ i,ma K.bnd M.bnd d,fun i h=>?_,fun q=>?_⟩
 ·by_cases h1:κ i=0
  ·have h2:μ i≠0:=fun z=>h (by show κ i+μ i=0;rw [h1,z];rfl)
   obtain⟨a1,a2,a3,a4,_,_⟩:=M.sup i h2;obtain⟨q1,q2⟩:=hM i h2;exact⟨a1,a2,a3,a4,.inr (.inr q1),.inr (.inr q2)⟩
  ·obtain⟨a1,a2,a3,a4,_,a6,a7⟩:=K.sup i h1;exact⟨a1,a2,a3,a4,a6.elim (fun z=>.inl (sub _ z)) fun z=>.inr (.inr z),a7.elim (fun z=>.inl (sub _ z)) fun z=>.inr (.inr z)⟩
 ·rw [lG,K.bdr,M.bdr,K.rtw];omega
theorem Pg(k:s.Ok G c T)(hG:G.Ok){x y e z:Nat}{t:Int}{C D:List Nat}{m:Nat}(R:Ring s G c x y e t C D m)(hz:z∈C)(hn:¬ s.tn z (s.ar z)):∃ μ,RMu s G c C D m z (s.ar z) μ:=by
 obtain⟨m1,m2,m3,m4,m5,m6⟩:=Z7l k R;have rx:=(k.tnr x t R.tx).1;have ry:=(k.tnr y t R.ty).1;obtain⟨C1,C2,e1,p1,p2,b1,b2⟩:=Z4J k R.pC (k.root x rx).1 (k.root x rx).2.1 hz;obtain⟨kb,sS,hmz⟩:=m5 z hz;have hsz:=(k.first z kb).2;obtain⟨κ1,w1,r1,K1⟩:=z5 k hG p1 rx rfl R.tx;have qM:w1=z:=by
  by_cases q:w1=z
  ·exact q
  ·exact absurd (k.cls z w1 (s.ar z) kb K1.rew (fun z'=>q z'.symm) (by rw [K1.rtw,sS]) hsz) hn
 subst qM;have iK:r1=-(s.ar w1):=by
  have h2:=(k.tnr w1 r1 K1.tnw).2;by_cases q:r1=s.ar w1
  ·rw [q]at K1;exact absurd K1.tnw hn
  ·omega
 obtain⟨κy,wy,ry',Ky⟩:=z5 k hG R.pD ry rfl R.ty;obtain⟨μ,M⟩:=k.mu wy ry' Ky.tnw;have hM:∀ i,μ i≠0->s.root (G.bd i).a=m/\s.root (G.bd i).b=m:=fun i h=>by
  obtain⟨_,_,_,_,q1,q2⟩:=M.sup i h;rw [Ky.rtw]at q1 q2;exact⟨q1,q2⟩
 have h1:∀ i,κ1 i≠0->s.root (G.bd i).a∈C/\s.root (G.bd i).b∈C:=fun i h=>by
  obtain⟨_,_,_,_,_,a6,a7⟩:=K1.sup i h;exact⟨a6.elim (b1 _) fun q=>by rw [q];exact hz,a7.elim (b1 _) fun q=>by rw [q];exact hz⟩
 have hy:∀ i,κy i≠0->s.root (G.bd i).a∉C/\s.root (G.bd i).b∉C:=fun i h=>by
  obtain⟨_,_,_,_,_,a6,a7⟩:=Ky.sup i h;exact⟨fun q=>a6.elim (R.dis _ q) fun z'=>by rw [z']at q;exact m3 q,fun q=>a7.elim (R.dis _ q) fun z'=>by rw [z']at q;exact m3 q⟩
 have xC:s.root x∈C:=by
  rcases Z3e R.pC with q |q
  ·exact q
  ·have QX:=R.pC;rw [q]at QX;cases QX with
   |nil=>simp at hz
   |step _ _ _ _ _ bV _=>exact absurd rfl bV
 have yD:s.root y∉C:=by
  rcases Z3e R.pD with q |q
  ·exact fun z'=>R.dis _ z' q
  ·rw [q];exact m3
 have eA:(s.root (G.bd e).a∈C/\s.root (G.bd e).b∉C)\/(s.root (G.bd e).b∈C/\s.root (G.bd e).a∉C):=by
  rcases R.hj with⟨q1,q2⟩ |⟨q1,q2⟩
  ·rw [q1,q2];exact .inl ⟨xC,yD⟩
  ·rw [q1,q2];exact .inr ⟨xC,yD⟩
 have d1:∀ i,κy i=0\/μ i=0:=fun i=>by
  by_cases h:κy i=0
  ·exact .inl h
  ·right;by_cases h2:μ i=0
   ·exact h2
   ·obtain⟨q1,q2⟩:=hM i h2;obtain⟨_,_,_,_,q,_,_⟩:=Ky.sup i h;rw [q1,q2]at q;exact absurd (q.elim id id) m4
 have d2:∀ i,κy i+μ i=0\/one e t i=0:=fun i=>by
  by_cases h:i=e
  ·left;have a:κy i=0:=by
    by_cases q:κy i=0
    ·exact q
    ·have:=hy i q;rw [h]at this;rcases eA with z' |z'
     ·exact absurd z'.1 this.1
     ·exact absurd z'.1 this.2
   have b:μ i=0:=by
    by_cases q:μ i=0
    ·exact q
    ·have:=hM i q;rw [h]at this;rcases eA with z' |z'
     ·rw [this.1]at z';exact absurd z'.1 m3
     ·rw [this.2]at z';exact absurd z'.1 m3
   rw [a,b];rfl
  ·right;unfold one;rw [ac h]
 have d3:∀ i,κy i+μ i+one e t i=0\/κ1 i=0:=fun i=>by
  by_cases h:κ1 i=0
  ·exact .inr h
  ·left;obtain⟨q1,q2⟩:=h1 i h;have a:κy i=0:=by
    by_cases q:κy i=0
    ·exact q
    ·exact absurd q1 (hy i q).1
   have b:μ i=0:=by
    by_cases q:μ i=0
    ·exact q
    ·rw [(hM i q).1]at q1;exact absurd q1 m3
   have c1:i≠e:=fun q=>by
    rw [q]at q1 q2;rcases eA with z' |z'
    ·exact z'.2 q2
    ·exact z'.2 q1
   rw [a,b];unfold one;rw [ac c1];rfl
 have hs:=(k.tnr x t R.tx).2;refine⟨fun i=>κy i+μ i+one e t i+κ1 i,ma (ma (ma Ky.bnd M.bnd d1) (Bh hG hs R.hr) d2) K1.bnd d3,fun i h=>?_,fun q=>?_⟩
 ·by_cases q1:κ1 i=0
  ·by_cases q2:i=e
   ·rw [q2];refine⟨R.he,R.hec,?_⟩;have yy:s.root y∈C\/s.root y∈D\/s.root y=m:=(Z3e R.pD).elim (fun z'=>.inr (.inl z')) fun z'=>.inr (.inr z');rcases R.hj with⟨j1,j2⟩ |⟨j1,j2⟩
    ·rw [j1,j2];exact⟨rx,ry,.inl xC,yy⟩
    ·rw [j1,j2];exact⟨ry,rx,yy,.inl xC⟩
   ·by_cases q3:κy i=0
    ·have q4:μ i≠0:=fun z'=>h (by show κy i+μ i+one e t i+κ1 i=0;rw [q1,q3,z'];unfold one;rw [ac q2];rfl)
     obtain⟨a1,a2,a3,a4,_,_⟩:=M.sup i q4;obtain⟨z1,z2⟩:=hM i q4;exact⟨a1,a2,a3,a4,.inr (.inr z1),.inr (.inr z2)⟩
    ·obtain⟨a1,a2,a3,a4,_,a6,a7⟩:=Ky.sup i q3;exact⟨a1,a2,a3,a4,.inr a6,.inr a7⟩
  ·obtain⟨a1,a2,a3,a4,_,_,_⟩:=K1.sup i q1;obtain⟨z1,z2⟩:=h1 i q1;exact⟨a1,a2,a3,a4,.inl z1,.inl z2⟩
 ·rw [lG,lG,lG,Ky.bdr,M.bdr,Ky.rtw,zq R.he R.hj,K1.bdr,iK];unfold dl;split<;>split<;>split<;>split<;>split<;>omega
theorem pK(k:s.Ok G c T)(hG:G.Ok){x y e:Nat}{t:Int}{C D:List Nat}{m:Nat}(R:Ring s G c x y e t C D m)(hn:¬ s.tn m (s.ar m))(CJ:s.root x≠s.root y)
  (hx:s.cb x=e->s.root x=x->s.ar x=t->2<=G.room t e)(hy:s.cb y=e->s.root y=y->s.ar y=t->2<=G.room t e):∃ μ,RMu s G c C D m m (s.ar m) μ:=by
 obtain⟨m1,m2,m3,m4,m5,m6⟩:=Z7l k R;have rx:=(k.tnr x t R.tx).1;have ry:=(k.tnr y t R.ty).1;have hsm:=(k.first m m1).2;obtain⟨f,wx,r,Kx⟩:=z5 k hG R.pC rx rfl R.tx;obtain⟨g,wy,r',Ky⟩:=z5 k hG R.pD ry rfl R.ty;have uR:∀ {w:Nat},s.re w->s.root w=m->w=m:=fun{w} h1 h2=>by
  by_cases q:w=m
  ·exact q
  ·exact absurd (k.cls m w (s.ar m) m1 h1 (fun z'=>q z'.symm) (by rw [h2,m2]) hsm) hn
 have ewx:=uR Kx.rew Kx.rtw;have Qp:=uR Ky.rew Ky.rtw;subst ewx;have iK:r=-(s.ar wx):=by
  have h2:=(k.tnr wx r Kx.tnw).2;by_cases q:r=s.ar wx
  ·rw [q]at Kx;exact absurd Kx.tnw hn
  ·omega
 have eh:r'=-(s.ar wx):=by
  have h3:=Ky.tnw;rw [Qp]at h3;have h2:=(k.tnr wx r' h3).2;by_cases q:r'=s.ar wx
  ·rw [q]at h3;exact absurd h3 hn
  ·omega
 have d1:∀ i,f i=0\/g i=0:=fun i=>by
  by_cases h:f i=0
  ·exact .inl h
  ·right;by_cases h2:g i=0
   ·exact h2
   ·obtain⟨_,_,_,_,a5,_,_⟩:=Kx.sup i h;obtain⟨_,_,_,_,_,b6,b7⟩:=Ky.sup i h2;rcases a5 with q |q
    ·exact(b6.elim (R.dis _ q) fun z'=>by rw [z']at q;exact m3 q).elim
    ·exact(b7.elim (R.dis _ q) fun z'=>by rw [z']at q;exact m3 q).elim
 have sg:=(k.tnr x t R.tx).2;have fe:f e=0\/(f e=s.ar x/\s.cb x=e/\s.root x=x):=by
  by_cases h:f e=0
  ·exact .inl h
  ·right;obtain⟨_,_,_,_,a5,a6,a7⟩:=Kx.sup e h;have Am:s.root y∈C\/s.root y=wx:=by
    rcases R.hj with⟨j1,j2⟩ |⟨j1,j2⟩
    ·rw [j2]at a7;exact a7
    ·rw [j2]at a6;exact a6
   have ym:s.root y=wx:=Am.elim (fun q=>(Z3e R.pD).elim (fun z'=>(R.dis _ q z').elim) id) id;obtain⟨z,hz,w',s1,s2,s3⟩:=Kx.stem e h (by
    rcases R.hj with⟨j1,j2⟩ |⟨j1,j2⟩
    ·rw [j2];exact .inr ym
    ·rw [j2];exact .inl ym)
   obtain⟨_,zz,_⟩:=m5 z hz;rcases R.hj.end s2 with q |q
   ·subst q;exact⟨s3,s1,zz⟩
   ·rw [q]at zz hz;rw [zz]at ym;rw [ym]at hz;exact absurd hz m3
 have ge:g e=0\/(g e=s.ar y/\s.cb y=e/\s.root y=y):=by
  by_cases h:g e=0
  ·exact .inl h
  ·right;obtain⟨_,_,_,_,a5,a6,a7⟩:=Ky.sup e h;have Al:s.root x∈D\/s.root x=wx:=by
    rcases R.hj with⟨j1,j2⟩ |⟨j1,j2⟩
    ·rw [j1]at a6;exact a6
    ·rw [j1]at a7;exact a7
   have xm:s.root x=wx:=Al.elim (fun q=>(Z3e R.pC).elim (fun z'=>(R.dis _ z' q).elim) id) id;obtain⟨z,hz,w',s1,s2,s3⟩:=Ky.stem e h (by
    rcases R.hj with⟨j1,j2⟩ |⟨j1,j2⟩
    ·rw [j1];exact .inl xm
    ·rw [j1];exact .inr xm)
   obtain⟨_,zz,_⟩:=m6 z hz;rcases R.hj.end s2 with q |q
   ·rw [q]at zz hz;rw [zz]at xm;rw [xm]at hz;exact absurd hz m4
   ·subst q;exact⟨s3,s1,zz⟩
 have b0:=ma Kx.bnd Ky.bnd d1;have yg:=fun i hi=>zn hG (e:=i) hi 1;have yT:=fun i hi=>zn hG (e:=i) hi (-1);have bnd:G.Bnd fun i=>f i+g i+one e t i:=fun i hi=>by
  by_cases h:i=e
  ·subst h;show f i+g i+one i t i<=_/\_<=f i+g i+one i t i;unfold one;rw [ae rfl];have a:=yg i hi;have b:=yT i hi;have hr:=R.hr;have fin:∀ v:Int,(v=0\/(v=1\/v=-1)/\(v=t->2<=G.room t i))->v+t<=G.room 1 i/\-(G.room (-1) i)<=v+t:=fun v hv=>by
    rcases sg with rfl |rfl
    ·rcases hv with rfl |⟨rfl |rfl,h2⟩
     ·omega
     ·have:=h2 rfl;omega
     ·omega
    ·rcases hv with rfl |⟨rfl |rfl,h2⟩
     ·omega
     ·omega
     ·have:=h2 rfl;omega
   rcases fe with q1 |⟨q1,q2,q3⟩
   ·rcases ge with q4 |⟨q4,q5,q6⟩
    ·rw [q1,q4];exact fin 0 (.inl rfl)
    ·rw [q1,q4,Int.zero_add];exact fin _ (.inr ⟨(k.first y ry).2,hy q5 q6⟩)
   ·have q4:g i=0:=by
     rcases d1 i with q |q
     ·rw [q1]at q;have:=(k.first x rx).2;omega
     ·exact q
    rw [q1,q4,Int.add_zero];exact fin _ (.inr ⟨(k.first x rx).2,hx q2 q3⟩)
  ·show f i+g i+one e t i<=_/\_<=f i+g i+one e t i;unfold one;rw [ac h];have:=(show f i+g i<=G.room 1 i/\-(G.room (-1) i)<=f i+g i from b0 i hi);omega
 refine⟨fun i=>f i+g i+one e t i,bnd,fun i h=>?_,fun q=>?_⟩
 ·by_cases q2:i=e
  ·rw [q2];refine⟨R.he,R.hec,?_⟩;have yy:s.root y∈C\/s.root y∈D\/s.root y=wx:=(Z3e R.pD).elim (fun z'=>.inr (.inl z')) fun z'=>.inr (.inr z');have xx:s.root x∈C\/s.root x∈D\/s.root x=wx:=(Z3e R.pC).elim (fun z'=>.inl z') fun z'=>.inr (.inr z');rcases R.hj with⟨j1,j2⟩ |⟨j1,j2⟩
   ·rw [j1,j2];exact⟨rx,ry,xx,yy⟩
   ·rw [j1,j2];exact⟨ry,rx,yy,xx⟩
  ·by_cases q3:f i=0
   ·have q4:g i≠0:=fun z'=>h (by show f i+g i+one e t i=0;rw [q3,z'];unfold one;rw [ac q2];rfl)
    obtain⟨a1,a2,a3,a4,_,a6,a7⟩:=Ky.sup i q4;exact⟨a1,a2,a3,a4,.inr a6,.inr a7⟩
   ·obtain⟨a1,a2,a3,a4,_,a6,a7⟩:=Kx.sup i q3;exact⟨a1,a2,a3,a4,a6.elim .inl fun z'=>.inr (.inr z'),a7.elim .inl fun z'=>.inr (.inr z')⟩
 ·rw [lG,lG,Kx.bdr,Ky.bdr,zq R.he R.hj,iK,eh,Qp];unfold dl;split<;>split<;>split<;>omega
end
end MX
end
section
namespace MX
section
variable{G:Gr}{c:Nat}{T:Int}{s:S}
def S.start(G:Gr)(c:Nat)(T:Int):S where
 re:=fun x=>x=(G.bd c).a\/x=(G.bd c).b
 root:=fun x=>x
 rk:=fun x=>if x=(G.bd c).a then 0 else 1
 nx:=2
 cb:=fun _=>c
 cf:=fun _=>none
 ar:=fun _=>T
 tn:=fun x t=>(x=(G.bd c).a\/x=(G.bd c).b)/\t=-T
 dn:=fun _ _ _=>False
theorem start_ok(hG:G.Ok)(hc:c<G.m)(hT:T=1\/T=-1):(S.start G c T).Ok G c T where
 rn:=fun x h=>by
  rcases h with rfl |rfl
  ·exact hG.an c hc
  ·exact hG.bn c hc
 rkn:=fun x h=>by show(if x=_ then 0 else 1)<2;split<;>decide
 root:=fun x h=>⟨h,rfl,fun q=>absurd rfl q⟩
 first:=fun x h=>⟨⟨h,rfl⟩,hT⟩
 tnr:=fun x t h=>⟨h.1,by rw [h.2];rcases hT with rfl |rfl;exact .inr rfl;exact .inl rfl⟩
 cls:=fun x y t _ _ hn h _=>absurd h hn
 top:=fun x h _=>⟨rfl,h,rfl⟩
 tree:=fun x w h e=>by cases e
 upp:=fun x h q=>absurd rfl q
 ends:=⟨.inl rfl,.inr rfl,rfl,rfl⟩
 mu:=fun v t h=>by
  refine⟨fun _=>0,Iz hG,fun e q=>absurd rfl q,fun w=>?_⟩;rw [Jg,h.2];show 0=-(dl v T w)-dl v (-T) w;unfold dl;split<;>omega
 d1:=fun _ _ _ h=>h.elim
 d2:=fun _ _ _ _ _ h=>h.elim
 d4:=fun _ _ _ _ _ h=>h.elim
def S.reach(s:S)(x y e:Nat)(t:Int):S where
 re:=fun z=>s.re z\/z=y
 root:=fun z=>if z=y then y else s.root z
 rk:=fun z=>if z=y then s.nx else s.rk z
 nx:=s.nx+1
 cb:=fun z=>if z=y then e else s.cb z
 cf:=fun z=>if z=y then some x else s.cf z
 ar:=fun z=>if z=y then t else s.ar z
 tn:=fun z u=>s.tn z u\/(z=y/\u=-t)
 dn:=fun z u f=>s.dn z u f\/(z=x/\u=t/\f=e)
theorem reach_ok(k:s.Ok G c T)(hG:G.Ok){x y e:Nat}{t:Int}(tx:s.tn x t)(he:e<G.m)(hec:e≠c)(hj:Jn (G.bd e) x y)(hr:0<G.room t e)(hy:¬ s.re y):(s.reach x y e t).Ok G c T:=by
 have rx:=(k.tnr x t tx).1;have ht:=(k.tnr x t tx).2;have qO:∀ {z},s.re z->z≠y:=fun h q=>hy (q ▸ h);have xy:x≠y:=qO rx;have rt:∀ {z},s.re z->(s.reach x y e t).root z=s.root z:=fun h=>ac (qO h);have rk:∀ {z},s.re z->(s.reach x y e t).rk z=s.rk z:=fun h=>ac (qO h);have cb:∀ {z},s.re z->(s.reach x y e t).cb z=s.cb z:=fun h=>ac (qO h);have cf:∀ {z},s.re z->(s.reach x y e t).cf z=s.cf z:=fun h=>ac (qO h);have ar:∀ {z},s.re z->(s.reach x y e t).ar z=s.ar z:=fun h=>ac (qO h);have Ah:(s.reach x y e t).root y=y:=ae rfl;have cby:(s.reach x y e t).cb y=e:=ae rfl;have JF:(s.reach x y e t).cf y=some x:=ae rfl;have FP:(s.reach x y e t).ar y=t:=ae rfl;have Rv:(s.reach x y e t).rk y=s.nx:=ae rfl;have vy:∀ {z},s.re z->s.root z≠y:=fun h=>qO (k.root _ h).1;have yn:y<G.n:=by
  rcases hj with⟨_,q⟩ |⟨_,q⟩
  ·rw [<-q];exact hG.bn e he
  ·rw [<-q];exact hG.an e he
 refine⟨fun z h=>?_,fun z h=>?_,fun z h=>?_,fun z h=>?_,fun z u h=>?_,fun z w u h1 h2 hn h hu=>?_,fun z h hc=>?_,fun z w h hc=>?_,fun z h hn=>?_,?_,fun v u h=>?_,fun z u f h=>?_,fun z w u f gG h1 h2=>?_,fun z w u f gG h1 h2 h3 h4=>?_⟩
 ·rcases h with h |rfl
  ·exact k.rn z h
  ·exact yn
 ·rcases h with h |rfl
  ·rw [rk h];exact ze (k.rkn z h)
  ·rw [Rv];exact E2 _
 ·rcases h with h |rfl
  ·rw [rt h];obtain⟨a,b,d⟩:=k.root z h;refine⟨.inl a,by rw [rt a];exact b,fun q=>?_⟩
   rw [rk a,rk h];exact d q
  ·rw [Ah,Ah];exact⟨.inr rfl,rfl,fun q=>absurd rfl q⟩
 ·rcases h with h |rfl
  ·rw [ar h];exact⟨.inl (k.first z h).1,(k.first z h).2⟩
  ·rw [FP];exact⟨.inr ⟨rfl,rfl⟩,ht⟩
 ·rcases h with h |⟨rfl,rfl⟩
  ·exact⟨.inl (k.tnr z u h).1,(k.tnr z u h).2⟩
  ·exact⟨.inr rfl,by omega⟩
 ·rcases h1 with h1 |rfl
  ·rcases h2 with h2 |rfl
   ·rw [rt h1,rt h2]at h;exact .inl (k.cls z w u h1 h2 hn h hu)
   ·rw [rt h1,Ah]at h;exact absurd h (vy h1)
  ·rcases h2 with h2 |rfl
   ·rw [rt h2,Ah]at h;exact absurd h.symm (vy h2)
   ·exact absurd rfl hn
 ·rcases h with h |rfl
  ·rw [cf h]at hc;rw [cb h,ar h];exact k.top z h hc
  ·rw [JF]at hc;cases hc
 ·rcases h with h |rfl
  ·rw [cf h]at hc;obtain⟨a1,a2,a3,a4,a5,a6,a7,a8⟩:=k.tree z w h hc;rw [cb h,ar h,rk h,rk a1];exact⟨.inl a1,a2,a3,a4,a5,a6,.inl a7,.inl a8⟩
  ·rw [JF]at hc;cases hc;rw [cby,FP,Rv,rk rx];exact⟨.inl rx,k.rkn x rx,he,hec,hj.symm,hr,.inl tx,.inr ⟨rfl,rfl,rfl⟩⟩
 ·rcases h with h |rfl
  ·rw [rt h]at hn;obtain⟨w,a,b⟩:=k.upp z h hn;have gJ:=(k.tree z w h a).1;exact⟨w,by rw [cf h];exact a,by rw [rt gJ,rt h];exact b⟩
  ·exact absurd Ah hn
 ·obtain⟨a,b,d,f⟩:=k.ends;exact⟨.inl a,.inl b,by rw [cf a];exact d,by rw [cf b];exact f⟩
 ·rcases h with h |⟨rfl,rfl⟩
  ·have rv:=(k.tnr v u h).1;obtain⟨μ,M⟩:=k.mu v u h;refine⟨μ,M.bnd,fun f q=>?_,fun w=>?_⟩
   ·obtain⟨a1,a2,a3,a4,a5,a6⟩:=M.sup f q;exact⟨a1,a2,.inl a3,.inl a4,by rw [rt a3,rt rv];exact a5,by rw [rt a4,rt rv];exact a6⟩
   ·rw [M.bdr,rt rv,ar (k.root v rv).1]
  ·refine⟨fun _=>0,Iz hG,fun f q=>absurd rfl q,fun w=>?_⟩;rw [Jg,Ah,FP];unfold dl;split<;>omega
 ·rcases h with h |⟨rfl,rfl,rfl⟩
  ·obtain⟨a1,a2,a3,a4,w,a5,a6⟩:=k.d1 z u f h;exact⟨.inl a1,a2,a3,a4,w,a5,.inl a6⟩
  ·exact⟨.inl tx,he,hec,hr,y,hj,.inr rfl⟩
 ·
  have Dg:∀ {u f},¬ s.dn y u f:=fun h=>hy (k.tnr _ _ (k.d1 _ _ _ h).1).1;rcases h1 with h1 |⟨rfl,rfl,rfl⟩
  ·have rz:=(k.tnr _ _ (k.d1 _ _ _ h1).1).1;rcases h2 with h2 |⟨rfl,rfl,rfl⟩
   ·have gJ:=(k.tnr _ _ (k.d1 _ _ _ h2).1).1;rw [rt rz,rt gJ,cb rz,cb gJ,ar rz,ar gJ];exact k.d2 z w u f gG h1 h2
   ·have:=Jn.eq gG.symm hj (hG.ne f he);subst this;exact absurd h1 Dg
  ·rcases h2 with h2 |⟨rfl,_,_⟩
   ·have:=Jn.eq gG hj (hG.ne f he);subst this;exact absurd h2 Dg
   ·exact absurd rfl (Jn.ne gG (hG.ne f he))
 ·
  by_cases q:z=y
  ·subst q;rw [cby]at h2;rw [JF]at h3;rw [FP]at h4;subst h2;cases h3;rcases h1 with h1 |⟨_,rfl,_⟩
   ·obtain⟨_,_,_,_,w',a5,a6⟩:=k.d1 _ _ _ h1;have:=Jn.eq a5 hj (hG.ne e he);subst this;exact absurd a6 hy
   ·rcases ht with rfl |rfl<;>omega
  ·have cbz:(s.reach x y e t).cb z=s.cb z:=ac q;have cfz:(s.reach x y e t).cf z=s.cf z:=ac q;have arz:(s.reach x y e t).ar z=s.ar z:=ac q;have rtz:(s.reach x y e t).root z=s.root z:=ac q;rw [cbz]at h2;rw [cfz]at h3;rw [arz]at h4;rcases h1 with h1 |⟨rfl,rfl,rfl⟩
   ·have gJ:=(k.tnr _ _ (k.d1 _ _ _ h1).1).1;rw [rtz,rt gJ];exact k.d4 z w u f gG h1 h2 h3 h4
   ·have:=Jn.eq gG.symm hj (hG.ne f he);exact absurd this q
def S.mark(s:S)(x e:Nat)(t:Int):S:={ s with dn:=fun z u f=>s.dn z u f\/(z=x/\u=t/\f=e) }
theorem nE(k:s.Ok G c T){z e x y:Nat}(hz:s.re z)(hb:s.cb z=e)(hec:e≠c)(hj:Jn (G.bd e) x y):(z=x\/z=y)/\∃ w,s.cf z=some w:=by
 cases q:s.cf z with
 |none=>exact absurd (hb.symm.trans (k.top z hz q).1) hec
 |some w =>
  have:=(k.tree z w hz q).2.2.2.2.1;rw [hb]at this;exact⟨hj.end this,w,rfl⟩
theorem mark_ok(k:s.Ok G c T)(hG:G.Ok){x y e:Nat}{t:Int}(tx:s.tn x t)(he:e<G.m)(hec:e≠c)(hj:Jn (G.bd e) x y)(hr:0<G.room t e)(hy:s.re y)
  (h:s.root x=s.root y\/(s.cb (s.root x)=e/\G.room t e=1)\/¬ s.tn y t):(s.mark x e t).Ok G c T:=by
 have rx:=(k.tnr x t tx).1;have ht:=(k.tnr x t tx).2;have EE:s.cb (s.root x)=e->s.root x=s.root y\/(s.root x=x/\s.cb x=e/\s.cf x=some y):=fun hb=>by
  obtain⟨a,w,hw⟩:=nE k (k.root x rx).1 hb hec hj;rcases a with a |a
  ·rw [a]at hb hw;have:=(k.tree x w rx hw).2.2.2.2.1;rw [hb]at this;have:=Jn.eq this hj (hG.ne e he);subst this;exact .inr ⟨a,hb,hw⟩
  ·have:=(k.root x rx).2.1;rw [a]at this;exact .inl (by rw [a,this])
 have CV:s.dn y t e->s.root x=s.root y\/(G.room t e=1/\s.root x=x/\s.cb x=e/\s.ar x=t):=fun hd=>by
  rcases h with h |⟨h1,h2⟩ |h
  ·exact .inl h
  ·rcases EE h1 with z |⟨z1,z2,z3⟩
   ·exact .inl z
   ·by_cases q:s.ar x=t
    ·exact .inr ⟨h2,z1,z2,q⟩
    ·have:s.ar x=-t:=by have:=(k.first x rx).2;omega
     exact .inl (k.d4 x y t e hj hd z2 z3 this)
  ·exact absurd (k.d1 _ _ _ hd).1 h
 refine⟨k.rn,k.rkn,k.root,k.first,k.tnr,k.cls,k.top,fun z w h hc=>?_,k.upp,k.ends,(fun v u h=>by obtain⟨μ,M⟩:=k.mu v u h;exact⟨μ,M.bnd,M.sup,M.bdr⟩),fun z u f h=>?_,fun z w u f gG h1 h2=>?_,fun z w u f gG h1 h2 h3 h4=>?_⟩
 ·obtain⟨a1,a2,a3,a4,a5,a6,a7,a8⟩:=k.tree z w h hc;exact⟨a1,a2,a3,a4,a5,a6,a7,.inl a8⟩
 ·rcases h with h |⟨rfl,rfl,rfl⟩
  ·exact k.d1 z u f h
  ·exact⟨tx,he,hec,hr,y,hj,hy⟩
 ·rcases h1 with h1 |⟨rfl,rfl,rfl⟩
  ·rcases h2 with h2 |⟨rfl,rfl,rfl⟩
   ·exact k.d2 z w u f gG h1 h2
   ·have:=Jn.eq gG.symm hj (hG.ne f he);subst this;rcases CV h1 with q |⟨q1,q2⟩
    ·exact .inl q.symm
    ·exact .inr ⟨q1,.inr q2⟩
  ·rcases h2 with h2 |⟨rfl,_,_⟩
   ·have:=Jn.eq gG hj (hG.ne f he);subst this;rcases CV h2 with q |⟨q1,q2⟩
    ·exact .inl q
    ·exact .inr ⟨q1,.inl q2⟩
   ·exact absurd rfl (Jn.ne gG (hG.ne f he))
 ·rcases h1 with h1 |⟨rfl,rfl,rfl⟩
  ·exact k.d4 z w u f gG h1 h2 h3 h4
  ·have:=Jn.eq gG.symm hj (hG.ne f he);subst this;show s.root z=s.root w;rcases h with h |⟨h1,_⟩ |h
   ·exact h.symm
   ·rcases EE h1 with q |⟨_,_,q⟩
    ·exact q.symm
    ·have a:=(k.tree w z rx q).2.1;have b:=(k.tree z w hy h3).2.1;omega
   ·have:=(k.first z hy).1;have h4:s.ar z=-u:=h4;rw [h4,Int.neg_neg]at this;exact absurd this h
end
end MX
end
section
namespace MX
section
variable{G:Gr}{c:Nat}{T:Int}{s:S}
open Classical in
def S.fold(s:S)(C D:List Nat)(m x e:Nat)(t:Int):S where
 re:=s.re
 root:=fun v=>if s.root v∈C\/s.root v∈D then m else s.root v
 rk:=s.rk
 nx:=s.nx
 cb:=s.cb
 cf:=s.cf
 ar:=s.ar
 tn:=fun z u=>s.tn z u\/((z∈C\/z∈D\/z=m)/\(u=1\/u=-1))
 dn:=fun z u f=>s.dn z u f\/(z=x/\u=t/\f=e)
theorem fold_ok(k:s.Ok G c T)(hG:G.Ok){x y e:Nat}{t:Int}{C D:List Nat}{m:Nat}(R:Ring s G c x y e t C D m)(CJ:s.root x≠s.root y)(KJ:¬ (s.cb (s.root x)=e/\G.room t e=1))(wY:¬ s.dn x t e):
  (s.fold C D m x e t).Ok G c T:=by
 obtain⟨m1,m2,m3,m4,m5,m6⟩:=Z7l k R;have rx:=(k.tnr x t R.tx).1;have ry:=(k.tnr y t R.ty).1;have Af:∀ {v},(s.root v∈C\/s.root v∈D)->(s.fold C D m x e t).root v=m:=fun h=>ae h;have jB:∀ {v},¬ (s.root v∈C\/s.root v∈D)->(s.fold C D m x e t).root v=s.root v:=fun h=>ac h;have rm:∀ {v},s.root v=m->(s.fold C D m x e t).root v=m:=fun h=>by
  rw [jB (by rw [h];exact fun q=>q.elim m3 m4)];exact h
 have hZ:∀ {v},(s.root v∈C\/s.root v∈D\/s.root v=m)->(s.fold C D m x e t).root v=m:=fun h=>by
  rcases h with h |h |h
  ·exact Af (.inl h)
  ·exact Af (.inr h)
  ·exact rm h
 have yw:∀ {v w},s.root v=s.root w->(s.fold C D m x e t).root v=(s.fold C D m x e t).root w:=fun{v w} h=>by
  show(if _ then m else s.root v)=if _ then m else s.root w;rw [h]
 have yz:∀ {z},(z∈C\/z∈D)->s.re z/\s.root z=z/\s.rk m<s.rk z:=fun h=>h.elim (m5 _) (m6 _);have tr:∀ {z u},s.tn z u->(s.fold C D m x e t).tn z u:=fun h=>.inl h;have RL:∀ {L:List Nat}{z w:Nat},Path s.up z L (some m)->s.re z->s.root z=z->w∈L->∃ w',s.cf w=some w'/\(s.root w'∈L\/s.root w'=m):=fun{L z w} hp hr hz hw=>by
  obtain⟨C1,C2,e1,p1,p2,b1,b2⟩:=Z4J k hp hr hz hw;cases p2 with
  |step _ z' _ _ hu _ Cj =>
   unfold S.up at hu;cases q:s.cf w with
   |none=>rw [q]at hu;cases hu
   |some w' =>
    rw [q]at hu;have:s.root w'=z':=Option.some.inj hu;refine⟨w',rfl,?_⟩;rw [this];exact(Z3e Cj).imp_left (b2 _)
 have ED:∀ {z},(z∈C\/z∈D)->∃ w,s.cf z=some w/\(s.root w∈C\/s.root w∈D\/s.root w=m):=fun h=>by
  rcases h with h |h
  ·obtain⟨w,a,b⟩:=RL R.pC (k.root x rx).1 (k.root x rx).2.1 h;exact⟨w,a,b.imp_right .inr⟩
  ·obtain⟨w,a,b⟩:=RL R.pD (k.root y ry).1 (k.root y ry).2.1 h;exact⟨w,a,.inr b⟩
 have hyy:s.cb y=e->s.root y=y->s.ar y=t->2<=G.room t e:=fun h1 h2 h3=>by
  obtain⟨_,w,hw⟩:=nE k ry h1 R.hec R.hj;obtain⟨_,_,_,_,a5,_,_,a8⟩:=k.tree y w ry hw;rw [h1]at a5 a8;have:=Jn.eq a5 R.hj.symm (hG.ne e R.he);subst this;rw [h3]at a8;exact absurd a8 wY
 have hxx:s.cb x=e->s.root x=x->s.ar x=t->2<=G.room t e:=fun h1 h2 _=>by
  have:=R.hr;by_cases q:G.room t e=1
  ·exact absurd ⟨by rw [h2];exact h1,q⟩ KJ
  ·omega
 have Al:s.root x∈C\/s.root x∈D\/s.root x=m:=(Z3e R.pC).elim .inl fun q=>.inr (.inr q);have Am:s.root y∈C\/s.root y∈D\/s.root y=m:=(Z3e R.pD).elim (fun q=>.inr (.inl q)) fun q=>.inr (.inr q);have Db:∀ {v:Nat}{u:Int}{μ:Nat->Int},(s.root v∈C\/s.root v∈D\/s.root v=m)->RMu s G c C D m v u μ->∃ μ,(s.fold C D m x e t).Mu G c v u μ:=fun{v u μ} hv h=>by
  refine⟨μ,h.bnd,fun f q=>?_,fun w=>?_⟩
  ·obtain⟨a1,a2,a3,a4,a5,a6⟩:=h.sup f q;exact⟨a1,a2,a3,a4,by rw [hZ a5,hZ hv],by rw [hZ a6,hZ hv]⟩
  ·rw [h.bdr,hZ hv];rfl
 refine⟨k.rn,k.rkn,fun z h=>?_,fun z h=>⟨tr (k.first z h).1,(k.first z h).2⟩,fun z u h=>?_,fun z w u h1 h2 hn h hu=>?_,k.top,fun z w h hc=>?_,fun z h hn=>?_,k.ends,fun v u h=>?_,fun z u f h=>?_,fun z w u f gG h1 h2=>?_,fun z w u f gG h1 h2 h3 h4=>?_⟩
 ·obtain⟨a,b,d⟩:=k.root z h;by_cases q:s.root z∈C\/s.root z∈D
  ·rw [Af q,rm m2];refine⟨m1,rfl,fun _=>?_⟩;show s.rk m<s.rk z;have:=(yz q).2.2;by_cases q2:s.root z=z
   ·rw [q2]at this;exact this
   ·exact qv this (d q2)
  ·rw [jB q];refine⟨a,?_,d⟩;rw [jB (by rw [b];exact q)];exact b
 ·rcases h with h |⟨h,hu⟩
  ·exact k.tnr z u h
  ·refine⟨?_,hu⟩;rcases h with h |h |rfl
   ·exact(m5 z h).1
   ·exact(m6 z h).1
   ·exact m1
 ·
  by_cases q1:s.root z=s.root w
  ·exact tr (k.cls z w u h1 h2 hn q1 hu)
  ·have Ra:s.root z∈C\/s.root z∈D\/s.root z=m:=by
    by_cases p1:s.root z∈C\/s.root z∈D
    ·exact p1.imp_right .inl
    ·right;right;rw [jB p1]at h;by_cases p2:s.root w∈C\/s.root w∈D
     ·rw [Af p2]at h;exact h
     ·rw [jB p2]at h;exact absurd h q1
   by_cases q2:s.root z=z
   ·rw [q2]at Ra;exact .inr ⟨Ra,hu⟩
   ·exact tr (k.cls z (s.root z) u h1 (k.root z h1).1 (fun q=>q2 q.symm) (k.root z h1).2.1.symm hu)
 ·obtain⟨a1,a2,a3,a4,a5,a6,a7,a8⟩:=k.tree z w h hc;exact⟨a1,a2,a3,a4,a5,a6,tr a7,.inl a8⟩
 ·
  by_cases q2:s.root z=z
  ·by_cases q:s.root z∈C\/s.root z∈D
   ·rw [q2]at q;obtain⟨w,a,b⟩:=ED q;refine⟨w,a,?_⟩;rw [hZ b,Af (by rw [q2];exact q)]
   ·rw [jB q]at hn;exact absurd q2 hn
  ·obtain⟨w,a,b⟩:=k.upp z h q2;exact⟨w,a,yw b⟩
 ·
  have rv:s.re v:=by
   rcases h with h |⟨h |h |rfl,_⟩
   ·exact(k.tnr v u h).1
   ·exact(m5 v h).1
   ·exact(m6 v h).1
   ·exact m1
  by_cases mq:s.root v∈C\/s.root v∈D\/s.root v=m
  ·by_cases iu:s.tn v u
   ·rcases mq with q |q |q
    ·obtain⟨μ,M⟩:=Oj k hG R rv q iu;exact Db (.inl q) M
    ·obtain⟨μ,M⟩:=Oj k hG R.symm rv q iu;exact Db (.inr (.inl q)) M.swap
    ·obtain⟨μ,M⟩:=k.mu v u iu;refine⟨μ,M.bnd,fun f p=>?_,fun w=>?_⟩
     ·obtain⟨a1,a2,a3,a4,a5,a6⟩:=M.sup f p;exact⟨a1,a2,a3,a4,yw a5,yw a6⟩
     ·rw [M.bdr,rm q,q];rfl
   ·obtain⟨hv,hu⟩:(v∈C\/v∈D\/v=m)/\(u=1\/u=-1):=h.elim (fun z=>absurd z iu) id;have hf:=k.first v rv;have eu:u=s.ar v:=by
     by_cases q:u=s.ar v
     ·exact q
     ·have:u=-(s.ar v):=by omega
      rw [this]at iu;exact absurd hf.1 iu
    rw [eu]at iu ⊢;rcases hv with q |q |rfl
    ·obtain⟨μ,M⟩:=Pg k hG R q iu;exact Db (.inl (by rw [(m5 v q).2.1];exact q)) M
    ·obtain⟨μ,M⟩:=Pg k hG R.symm q iu;exact Db (.inr (.inl (by rw [(m6 v q).2.1];exact q))) M.swap
    ·obtain⟨μ,M⟩:=pK k hG R iu CJ hxx hyy;exact Db (.inr (.inr m2)) M
  ·
   have iu:s.tn v u:=by
    rcases h with h |⟨h,_⟩
    ·exact h
    ·rcases h with h |h |rfl
     ·exact absurd (.inl (by rw [(m5 v h).2.1];exact h)) mq
     ·exact absurd (.inr (.inl (by rw [(m6 v h).2.1];exact h))) mq
     ·exact absurd (.inr (.inr m2)) mq
   have wZ:¬ (s.root v∈C\/s.root v∈D):=fun q=>mq (q.imp_right .inl);obtain⟨μ,M⟩:=k.mu v u iu;refine⟨μ,M.bnd,fun f p=>?_,fun w=>?_⟩
   ·obtain⟨a1,a2,a3,a4,a5,a6⟩:=M.sup f p;exact⟨a1,a2,a3,a4,yw a5,yw a6⟩
   ·rw [M.bdr,jB wZ];rfl
 ·rcases h with h |⟨rfl,rfl,rfl⟩
  ·obtain⟨a1,a2⟩:=k.d1 z u f h;exact⟨tr a1,a2⟩
  ·exact⟨tr R.tx,R.he,R.hec,R.hr,y,R.hj,ry⟩
 ·
  have Qr:(s.fold C D m x e t).root x=(s.fold C D m x e t).root y:=by rw [hZ Al,hZ Am]
  have stay:∀ {p q:Nat},Jn (G.bd f) p q->s.dn p u f->s.root p=p/\s.cb p=f/\s.ar p=u->(s.fold C D m x e t).root p=(s.fold C D m x e t).root q\/((s.fold C D m x e t).root p=p/\s.cb p=f/\s.ar p=u):=fun{p q} hjp hd ⟨h1,h2,h3⟩=>by
   have rp:=(k.tnr _ _ (k.d1 _ _ _ hd).1).1;by_cases z1:s.root p∈C\/s.root p∈D
   ·left;rw [h1]at z1;obtain⟨w',a,b⟩:=ED z1;have a5:=(k.tree p w' rp a).2.2.2.2.1;rw [h2]at a5;have:=Jn.eq a5 hjp (hG.ne f (k.d1 _ _ _ hd).2.1);subst this;rw [hZ b,Af (by rw [h1];exact z1)]
   ·right;rw [jB z1];exact⟨h1,h2,h3⟩
  rcases h1 with h1 |⟨rfl,rfl,rfl⟩
  ·rcases h2 with h2 |⟨rfl,rfl,rfl⟩
   ·rcases k.d2 z w u f gG h1 h2 with q |⟨q1,q2 |q2⟩
    ·exact .inl (yw q)
    ·rcases stay gG h1 q2 with q3 |q3
     ·exact .inl q3
     ·exact .inr ⟨q1,.inl q3⟩
    ·rcases stay gG.symm h2 q2 with q3 |q3
     ·exact .inl q3.symm
     ·exact .inr ⟨q1,.inr q3⟩
   ·have:=Jn.eq gG.symm R.hj (hG.ne f R.he);subst this;exact .inl Qr.symm
  ·rcases h2 with h2 |⟨rfl,_,_⟩
   ·have:=Jn.eq gG R.hj (hG.ne f R.he);subst this;exact .inl Qr
   ·exact absurd rfl (Jn.ne gG (hG.ne f R.he))
 ·rcases h1 with h1 |⟨rfl,rfl,rfl⟩
  ·exact yw (k.d4 z w u f gG h1 h2 h3 h4)
  ·have:=Jn.eq gG.symm R.hj (hG.ne f R.he);subst this;rw [hZ Al,hZ Am]
open Classical in
theorem ended(k:s.Ok G c T)(hG:G.Ok)(hc:c<G.m)(hT:T=1\/T=-1)(all:∀ x y t e,s.tn x t->e<G.m->e≠c->Jn (G.bd e) x y->0<G.room t e->s.dn x t e){δ:Nat->Int}(hd:G.Chg δ):δ c≠T:=by
 let aZ:Nat->Lab:=fun x=>if s.tn x 1 then(if s.tn x (-1)then .two (s.root x)else .one 1)else(if s.tn x (-1)then .one (-1)else .un)
 have l1:∀ {x t},aZ x=.one t->(t=1\/t=-1)/\s.tn x t:=fun{x t} h=>by
  simp only [aZ]at h;split at h
  ·split at h
   ·cases h
   ·cases h;exact⟨.inl rfl,by assumption⟩
  ·split at h
   ·cases h;exact⟨.inr rfl,by assumption⟩
   ·cases h
 have l2:∀ {x r},aZ x=.two r->s.tn x 1/\s.tn x (-1)/\r=s.root x:=fun{x r} h=>by
  simp only [aZ]at h;split at h
  ·split at h
   ·cases h;exact⟨by assumption,by assumption,rfl⟩
   ·cases h
  ·split at h<;>cases h
 have vh:∀ {x},s.tn x 1->s.tn x (-1)->aZ x=.two (s.root x):=fun h1 h2=>by simp only [aZ];rw [ae h1,ae h2]
 have has:∀ {x t},(t=1\/t=-1)->(aZ x).has t->s.tn x t:=fun{x t} ht h=>by
  cases hl:aZ x with
  |un=>rw [hl]at h;exact h.elim
  |one u=>rw [hl]at h;have h:u=t:=h;subst h;exact(l1 hl).2
  |two r =>
   obtain⟨a,b,_⟩:=l2 hl;rcases ht with rfl |rfl
   ·exact a
   ·exact b
 have hs:∀ {x t},s.tn x t->(aZ x).has t:=fun{x t} h=>by
  have ht:=(k.tnr x t h).2;cases hl:aZ x with
  |un =>
   simp only [aZ]at hl;split at hl
   ·split at hl<;>cases hl
   ·rename_i a;split at hl
    ·cases hl
    ·rename_i b;rcases ht with rfl |rfl
     ·exact absurd h a
     ·exact absurd h b
  |one u =>
   show u=t;obtain⟨a,b⟩:=l1 hl;by_cases q:u=t
   ·exact q
   ·have:s.tn x 1/\s.tn x (-1):=by
     rcases a with rfl |rfl<;>rcases ht with rfl |rfl
     ·exact absurd rfl q
     ·exact⟨b,h⟩
     ·exact⟨h,b⟩
     ·exact absurd rfl q
    rw [vh this.1 this.2]at hl;cases hl
  |two r=>trivial
 have DH:∀ {x},s.re x->aZ x≠.un:=fun{x} h q=>by
  have:=hs (k.first x h).1;rw [q]at this;exact this
 have rQ:∀ {x},s.tn x (s.ar x)->s.re x->s.tn x 1/\s.tn x (-1):=fun{x} h hr=>by
  obtain⟨a,b⟩:=k.first x hr;rcases b with b |b<;>rw [b]at a h
  ·exact⟨h,a⟩
  ·exact⟨a,h⟩
 have JE:lw G c T aZ s.cb:=by
  refine⟨fun v t hv h=>(l1 h).1,fun v r hv h=>?_,fun e t he hec ht hr=>?_,fun e t he hec ht hr ha hb=>?_,fun r hr h=>?_,hc,?_,?_,hT⟩
  ·obtain⟨a,b,rfl⟩:=l2 h;have rv:=(k.tnr v 1 a).1;obtain⟨q1,q2,_⟩:=k.root v rv;refine⟨k.rn _ q1,?_⟩;by_cases q:s.root v=v
   ·rw [q];rw [q]at h;exact h
   ·have:=k.cls (s.root v) v;rw [vh (this 1 q1 rv q q2 (.inl rfl)) (this (-1) q1 rv q q2 (.inr rfl)),q2]
  ·refine⟨fun h=>?_,fun h=>?_⟩
   ·obtain⟨_,_,_,_,y,q1,q2⟩:=k.d1 _ _ _ (all _ _ t e (has ht h) he hec (.inl ⟨rfl,rfl⟩) hr);have:=Jn.eq q1 (.inl ⟨rfl,rfl⟩) (hG.ne e he);subst this;exact DH q2
   ·obtain⟨_,_,_,_,y,q1,q2⟩:=k.d1 _ _ _ (all _ _ t e (has ht h) he hec (.inr ⟨rfl,rfl⟩) hr);have:=Jn.eq q1 (.inr ⟨rfl,rfl⟩) (hG.ne e he);subst this;exact DH q2
  ·have ta:=has ht ha;have tb:=has ht hb;have ra:=(k.tnr _ _ ta).1;have rb:=(k.tnr _ _ tb).1;have da:=all _ _ t e ta he hec (.inl ⟨rfl,rfl⟩) hr;have db:=all _ _ t e tb he hec (.inr ⟨rfl,rfl⟩) hr;have ne:=hG.ne e he;rcases k.d2 _ _ t e (.inl ⟨rfl,rfl⟩) da db with q |⟨q1,⟨z1,z2,z3⟩ |⟨z1,z2,z3⟩⟩
   ·left;refine⟨s.root (G.bd e).a,vh (k.cls _ _ 1 ra rb ne q (.inl rfl)) (k.cls _ _ (-1) ra rb ne q (.inr rfl)),?_⟩;rw [q];exact vh (k.cls _ _ 1 rb ra ne.symm q.symm (.inl rfl)) (k.cls _ _ (-1) rb ra ne.symm q.symm (.inr rfl))
   ·right;refine⟨q1,.inl ⟨?_,z2⟩⟩;obtain⟨b1,b2⟩:=rQ (by rw [z3];exact ta) ra
    rw [vh b1 b2,z1]
   ·right;refine⟨q1,.inr ⟨?_,z2⟩⟩;obtain⟨b1,b2⟩:=rQ (by rw [z3];exact tb) rb
    rw [vh b1 b2,z1]
  ·obtain⟨a,b,e1⟩:=l2 h;have rr:=(k.tnr _ _ a).1;cases q:s.cf r with
   |none=>exact .inl (k.top r rr q).1
   |some w =>
    obtain⟨a1,a2,a3,a4,a5,a6,a7,a8⟩:=k.tree r w rr q;refine .inr ⟨a3,a4,s.ar r,(k.first r rr).2,a6,?_⟩;rcases a5 with⟨z1,z2⟩ |⟨z1,z2⟩
    ·exact .inl ⟨z1,by rw [z2];exact hs a7⟩
    ·exact .inr ⟨z1,by rw [z2];exact hs a7⟩
  ·obtain⟨ra,_,ca,_⟩:=k.ends;obtain⟨t1,_,t3⟩:=k.top _ ra ca;have f:=(k.first _ ra).1;rw [t3]at f;by_cases q:s.tn (G.bd c).a T
   ·obtain⟨b1,b2⟩:=rQ (by rw [t3];exact q) ra
    right;rw [vh b1 b2,k.rootTop ra ca];exact⟨rfl,t1⟩
   ·left;have:=hs f;cases hl:aZ (G.bd c).a with
    |un=>rw [hl]at this;exact this.elim
    |one u=>rw [hl]at this;have h:u=-T:=this;rw [h]
    |two r=>exact absurd (by rcases hT with rfl |rfl;exact(l2 hl).1;exact(l2 hl).2.1) q
  ·obtain⟨_,ra,_,ca⟩:=k.ends;obtain⟨t1,_,t3⟩:=k.top _ ra ca;have f:=(k.first _ ra).1;rw [t3]at f;by_cases q:s.tn (G.bd c).b T
   ·obtain⟨b1,b2⟩:=rQ (by rw [t3];exact q) ra
    right;rw [vh b1 b2,k.rootTop ra ca];exact⟨rfl,t1⟩
   ·left;have:=hs f;cases hl:aZ (G.bd c).b with
    |un=>rw [hl]at this;exact this.elim
    |one u=>rw [hl]at this;have h:u=-T:=this;rw [h]
    |two r=>exact absurd (by rcases hT with rfl |rfl;exact(l2 hl).1;exact(l2 hl).2.1) q
 exact ZbC JE hG hd
end
end MX
end
section
namespace RD
open PySem PySem.Spec PyProof.Rows L2 EX
section
variable{X:Cx}
theorem P9:iC X (binaryOp .Mult) (rI IntMulOk fun i j=>.int (i*j)):=Rn fun _ _ _ _ _ _ _ hc q=>mul_int q hc
end
end RD
end
section
namespace LA
abbrev R:=List Int
def dot:R->R->Int
 |x::a,y::b=>x*y+dot a b
 |_,_=>0
end LA
end
section
namespace BK
open PySem PySem.Spec PyProof.Rows L2 EX RD
def top(i:Nat):Stmt:=PySem.Challenge.pw_wholeamounts_s07_kept.main.body.getD i (.Pass ⟨0,0,0,0⟩)
abbrev zm:Stmt:=iq (top 1) 0
abbrev A6:Stmt:=top 6
abbrev HL:Stmt:=top 9
abbrev Hy:Stmt:=top 10
abbrev vW:Stmt:=top 12
abbrev AV:Stmt:=top 13
abbrev uM:Stmt:=top 14
abbrev Hi:Stmt:=top 15
abbrev Ii:Stmt:=top 16
abbrev HM:Stmt:=iq (top 27) 0
abbrev Ht:Stmt:=iq (top 27) 1
abbrev HN:Stmt:=iq (top 27) 2
abbrev HF:Stmt:=iq (top 27) 3
abbrev HE:Stmt:=iq (top 27) 4
abbrev Io:Stmt:=iq (top 32) 0
abbrev HP:Stmt:=iq (top 33) 0
abbrev HH:Stmt:=iq (top 33) 1
abbrev HI:Stmt:=iq (top 33) 2
abbrev Hw:Stmt:=iq (top 33) 3
abbrev Hh:Stmt:=iq (top 33) 4
abbrev HC:Stmt:=iq (top 33) 5
abbrev Hj:Stmt:=iq (top 33) 6
abbrev Hs:Stmt:=iq (top 33) 7
abbrev Hv:Stmt:=iq (top 33) 8
abbrev HQ:Stmt:=iq (top 33) 9
abbrev Hu:Stmt:=iq (top 33) 10
abbrev A8:Stmt:=top 34
abbrev Hg:Stmt:=top 35
abbrev II:Stmt:=top 36
abbrev Hz:Stmt:=iq (top 50) 0
abbrev HA:Stmt:=iq (top 51) 0
abbrev Hm:Stmt:=iq (top 52) 0
abbrev Hn:Stmt:=top 53
abbrev AU:Stmt:=top 54
abbrev HB:Stmt:=top 55
abbrev Ig:Stmt:=top 56
abbrev AT:Stmt:=top 57
abbrev Hq:Stmt:=top 58
abbrev Hl:Stmt:=top 59
abbrev Hr:Stmt:=top 60
abbrev HG:Stmt:=top 61
abbrev Hk:Stmt:=top 62
abbrev Ho:Stmt:=iq (top 68) 0
abbrev vX:Stmt:=top 69
abbrev HJ:Stmt:=top 70
abbrev mV:Stmt:=top 77
abbrev Hx:Stmt:=top 78
abbrev IE:Stmt:=top 79
end BK
end
section
namespace BK
open PySem PySem.Spec PyProof.Rows L2 EX RD LM
structure NE(K:aq)(mg:Str->Option Value)(CF CW CN CT fF:Addr):Prop where
 xc:XC K CF fF ["rule","place","which"]
 xw:XP K CW
 xn:XP K CN
 xt:XP K CT
 mF:mg "Fault" = some (.ref CF)
 mW:mg "WrongNumbers" = some (.ref CW)
 mN:mg "NotThere" = some (.ref CN)
 mT:mg "TooGreat" = some (.ref CT)
 fw:CW≠CF
 fn:CN≠CF
 ft:CT≠CF
 wn:CN≠CW
 wt:CT≠CW
 nt:CT≠CN
 xg:XG K CF
 nr:NoAttr K CF "rule"
 np:NoAttr K CF "place"
 nw:NoAttr K CF "which"
 c0:∃ u,mg "ANSWERED" = some u/\RelV (.int 0) u
 c1:∃ u,mg "WRONG_NUMBERS" = some u/\RelV (.int (-1)) u
 c2:∃ u,mg "NOT_THERE" = some u/\RelV (.int (-2)) u
 c5:∃ u,mg "FAULTY_FORM" = some u/\RelV (.int (-5)) u
 c6:∃ u,mg "TOO_GREAT" = some u/\RelV (.int (-6)) u
def Jt(CF CW CN CT:Addr)(gE:List Int):XK:=fun cls d H =>
 (cls=.ref CF/\∃ dx r p w,d=some dx/\H dx=some (.xd (xf r p w))/\gE=[-5,w,r,p])\/(cls=.ref CW/\gE=[-1])\/(cls=.ref CN/\gE=[-2])\/(cls=.ref CT/\gE=[-6])
theorem Bm{X:Cx}{f:Str}{e:Expr}{pos:Pos}{ta:TE}(K:aq)(hK:X.K=K)(he:PE X e ta)(hb:attributeBase e f X.env (eval e X.env)=eval e X.env):PE X (.Attribute e f pos) (RI K ta f):=by
 subst hK;exact DB he hb
section
variable{P:Program}{w:World}{K:aq}{mg:Str->Option Value}{base:Heap}{CF CW CN CT fF:Addr}{ι:Type}{pre:ι->List V->Hp->Prop}{gE:ι->List Int}{z:Bool}
def RB(CF CW CN CT:Addr)(pre:ι->List V->Hp->Prop)(gE:ι->List Int)(vs:List V):Sp:=fun us H Q E=>us=[]/\∃ x,pre x vs H /\
 (∀ H' t xs,L2.Same H H'->H t=none->H' t=some (.lst (xs.map V.int))->gE x=0::xs->Q (.ref t) H')/\∀ cls d H',Jt CF CW CN CT (gE x) cls d H'->E cls d H'
def spA(pre:ι->List V->Hp->Prop)(gE:ι->List Int)(f:Addr)(vs:List V):Sp:=fun us H Q _=>us=[.ref f]/\∃ x,pre x vs H/\(gE x).length<=sizeLine/\∀ H' u,H' u=some (.lst ((gE x).map V.int))->Q (.ref u) H'
theorem vz:cX ["tell","fault"] ["tell"] (bo IE):=⟨rfl,rfl,rfl,by decide +kernel,rfl,by decide +kernel,by decide +kernel⟩
theorem Dm{fA f:Addr}{gx fd:FuncData}{k:Nat}{vs:List V}(F:Fun K "answer" "answer" IE fA gx)(T:NE K mg CF CW CN CT fF)(GL:am P w K mg base (CXQ z P w) k f fd [] (RB CF CW CN CT pre gE vs))(hf:PySem.W.FnAt f base)
  (bL:Binds K fd [] [])(xj:∀ x H H',L2.Same H H'->pre x vs H->pre x vs H'):am P w K mg base CX0 (k+1) fA gx ["tell"] (spA pre gE f vs):=by
 refine F.ok vz (fun vs H Q E h=>?_) (fun bq A outer s H EH Q E hr h=>?_)
 ·rw [h.1];rfl
 ·obtain⟨rfl,x,hp,FY,h⟩:=h;refine⟨_,bh (yu (W:=fun D cls d H'=>Jt CF CW CN CT (gE x) cls d H'/\∀ H2 u,H2 u=some (.lst ((gE x).map V.int))->D.rt (.ref u) H2) rfl rfl rfl
   (fun pins E1 Ew hp=>bh (dL (a0 oU (mO (ao (ay rfl T.c0) aE)) (tM (i:=0) GL hr hf bL hp))))
   (fun pins D H s ea T1 C d a hW=>?_)),?_⟩
  ·obtain⟨hW,hQ⟩:=hW;rcases hW with⟨e,dx,r,p,w,rfl,hd,hq⟩ |⟨e,hq⟩ |⟨e,hq⟩ |⟨e,hq⟩
   ·cases e;rw [hq]at hQ;refine' BX (i:=1) a T.xc.k1 rfl rfl rfl rfl T.mF vz.nd rfl rfl ?hs0 ?hE0
    case hs0=>exact fun ea=>bh (dL (mO (ao (ay rfl T.c5) (ao (Bm K rfl (pv 1) rfl) (ao (Bm K rfl (pv 1) rfl) (ao (Bm K rfl (pv 1) rfl) aE))))))
    intro ea F7 Lw;have h1:upd H ea (XE z ea CF dx) dx=some (.xd (xf r p w)):=by rw [aj Lw.symm];exact hd
    exact⟨_,rfl,z,ea,CF,dx,_,_,rfl,Z2j,h1,T.xg,T.nw,qu _ _ _,_,rfl,z,ea,CF,dx,_,_,rfl,Z2j,h1,T.xg,T.nr,Qc _ _ _,_,rfl,z,ea,CF,dx,_,_,rfl,Z2j,h1,T.xg,T.np,Ow _ _ _,
     (by show 4<=sizeLine;decide),fun u hu=>hQ _ u Z2j⟩
   ·cases e;rw [hq]at hQ;refine zu a rfl T.mF T.xw.k1 T.xc.k1 T.fw ?_;refine' Jq a T.xw.k1 rfl rfl rfl rfl T.mW ?hs1 ?hE1
    case hs1=>exact fun ea=>bh (dL (mO (ao (ay rfl T.c1) aE)))
    exact⟨(by show 1<=sizeLine;decide),fun u hu=>hQ _ u Z2j⟩
   ·cases e;rw [hq]at hQ;refine zu a rfl T.mF T.xn.k1 T.xc.k1 T.fn (zu a rfl T.mW T.xn.k1 T.xw.k1 T.wn ?_);refine' Jq a T.xn.k1 rfl rfl rfl rfl T.mN ?hs2 ?hE2
    case hs2=>exact fun ea=>bh (dL (mO (ao (ay rfl T.c2) aE)))
    exact⟨(by show 1<=sizeLine;decide),fun u hu=>hQ _ u Z2j⟩
   ·cases e;rw [hq]at hQ;refine zu a rfl T.mF T.xt.k1 T.xc.k1 T.ft (zu a rfl T.mW T.xt.k1 T.xw.k1 T.wt (zu a rfl T.mN T.xt.k1 T.xn.k1 T.nt ?_));refine' Jq a T.xt.k1 rfl rfl rfl rfl T.mT ?hs3 ?hE3
    case hs3=>exact fun ea=>bh (dL (mO (ao (ay rfl T.c6) aE)))
    exact⟨(by show 1<=sizeLine;decide),fun u hu=>hQ _ u Z2j⟩
  ·refine⟨(by show 1<=sizeLine;decide),fun l hl=>⟨rfl,rfl,x,xj x _ _ (RD.Same.new hl) hp,fun H' t xs s1 nt ht e=>?_,fun cls d H' r=>⟨r,h⟩⟩⟩
   rw [e]at h FY;refine⟨l,t,_,_,rfl,rfl,s1 _ _ Z2j,ht,?_,fun p hp=>h _ p Z2j⟩;rw [gC]at FY;simp only [gC,lB,aW];omega
end
def spD{ι:Type}(PT:Addr)(ix:List Nat)(pre:ι->List V->Hp->Prop)(gE:ι->List Int):Sp:=fun us H Q _=>us.length=ix.length/\H PT=some (.tbl #[])/\∃ x vs,vs.length=ix.length/\(∀ (j i:Nat)(v:V),ix[j]?=some i->vs[j]?=some v->us[i]?=some v) /\
 (∀ c8,pre x vs (upd H PT (.tbl c8)))/\(gE x).length<=sizeLine/\∀ H' p,H' p=some (.lst ((gE x).map V.int))->Q (.ref p) H'
theorem nG{K:aq}{x:Str}{c PT f:Addr}{oc:Value}{od:Option Addr}{fd:FuncData}{jc:Array (Option Value)}(h:PySem.W.tabIn K x=some (c,PT))(hn:PySem.W.nsIn K mainGlobals x=some (some (.ref f)))
  (lk:K.lookup f=some ⟨oc,od,.func fd,jc⟩):fd.code=.ref c:=by
 unfold PySem.W.tabIn at h;rw [hn]at h;dsimp only at h;rw [lk]at h;dsimp only at h;split at h
 ·rename_i c2 hc;split at h
  ·split at h
   ·cases h;exact hc
   ·cases h
  ·cases h
 ·cases h
noncomputable def kX(st:Stmt):Arguments×Expr×Scope×Pos:=match eQ st with
 |[.Return (some (.Call _ [.Lambda a b s p] _ _)) _]=>(a,b,s,p)
 |_=>(lH st,.Name "" ⟨0,0,0,0⟩,bo st,⟨0,0,0,0⟩)
abbrev zo(st:Stmt):Arguments:=(kX st).1
abbrev Bi(st:Stmt):Expr:=(kX st).2.1
abbrev rE(st:Stmt):Scope:=(kX st).2.2.1
abbrev xJ(st:Stmt):Pos:=(kX st).2.2.2
structure Jp(st:Stmt)(ps M:List Str)(ix:List Nat):Prop where
 fs:cX ps ps (bo st)
 ls:FD M (rE st)
 body:∃ p1 p2 p3,eQ st=[.Return (some (.Call (.Name "answer" p1) [.Lambda (zo st) (Bi st) (rE st) (xJ st)] [] p2)) p3]
 dft:∀ env,defaultsOf (zo st) env=([],[])
 cel:∀ y∈(rE st).names,y.2=.free->(bo st).names.lookup y.1=some .cell
 at_:∀ (j:Nat)(y:Str),M[j]?=some y->∃ i,ix[j]?=some i/\ps[i]?=some y
 len:ix.length=M.length
 uq:∀ y∈(rE st).names,(rE st).names.lookup y.1=some y.2
 gl:(bo st).names.lookup ("answer":Str)=some .globalImplicit
 cb:∀ (qual:Str)(cl:List (Str×Addr))(pm cd rV:Value),bindArgs (PySem.W.kla_fn "<lambda>" qual (zo st) (Bi st) (rE st) cl pm cd rV) ⟨[],[]⟩=pure []
section
variable{P:Program}{w:World}{K:aq}{mg:Str->Option Value}{base:Heap}{CF CW CN CT fF:Addr}{ι:Type}{pre:ι->List V->Hp->Prop}{gE:ι->List Int}{k:Nat}{nm:Str}{st:Stmt}{f fA c PT:Addr}{fd gx:FuncData}{ps M:List Str}{ix:List Nat}
theorem okD(F:Fun K nm nm st f fd)(ji:fd.code=.ref c)(S:Jp st ps M ix)(hC:PySem.W.CodeHd base c PT)(hB:base.BuiltinsAt mg PT)
  (hm:mg "answer" = some (.ref fA))(hk:PySem.W.keepIn K (.ref fA)=true)(hb:Binds K gx ["tell"] [])
  (GA:∀ (base:Heap)(f:Addr)(fd:FuncData)(cl:List (Str×Addr))(cd:Value)(vs:List V),K.In base->base.Ns mainGlobals mg->uB base f fd (nm++".<locals>."++"<lambda>") (zo st) (Bi st) (rE st) cl cd M vs ->
    am P w K mg base CX0 k fA gx ["tell"] (spA pre gE f vs))(Kt:ix.length=ps.length):
  am P w K mg base CX0 (k+1) f fd ps (spD PT ix pre gE):=by
 obtain⟨oc,od,kV,gW,pm,an,bq,ct,jc,rfl,lk,hc⟩:=F.ex;obtain rfl:bq=.ref c:=ji;refine nW lk hc S.fs (fun vs H Q E h=>by rw [h.1,Kt]) fun A outer s H us Q E hr h=>?_
 obtain⟨hl,hT,x,vs,K3,K4,hp,FY,hq⟩:=h;obtain⟨p1,p2,p3,Kb⟩:=S.body;rw [Kb];refine⟨_,bh (dL (yj (ix:=ix) (spA:=spA pre gE) (CX:=CX0) (E:=E0) hC hB rfl rfl rfl rfl (fun _=>rfl) (S.dft _) S.ls S.cel S.at_ S.len S.uq S.gl hm hk hb hr (fun _ _ _ _ _ _ _ z=>z.elim) GA (by decide) rfl)),?_⟩
 refine⟨#[],vs,hT,rfl,by first |trivial |exact .nil |simp [TriplesOk] |decide,K3,fun j i v e1 e2=>?_,fun f' c8 hf'=>⟨rfl,x,hp _,FY,hq⟩⟩
 have z:=K4 j i v e1 e2;have hi:i<us.length:=(eg.mp z).1;unfold L2.start;rw [mJ (by simpa using hi),dQ,z]
 rfl
theorem nz{qual:Str}{cl:List (Str×Addr)}{cd:Value}{vs:List V}(S:Jp st ps M ix)(L:uB base f fd qual (zo st) (Bi st) (rE st) cl cd M vs):Binds K fd [] []:=by
 obtain⟨oc,od,sl,pm,rV,rfl,_⟩:=L.ex;exact .all fun us hl=>by
  obtain rfl:us=[]:=E8 hl;exact S.cb ..
theorem nU{qual:Str}{cl:List (Str×Addr)}{cd:Value}{vs:List V}{a:Arguments}{b:Expr}{sc:Scope}(L:uB base f fd qual a b sc cl cd M vs):PySem.W.FnAt f base:=by
 obtain⟨oc,od,sl,pm,rV,_,e⟩:=L.ex;exact⟨oc,od,_,sl,e⟩
end
end BK
end
section
namespace MX
open Classical in
def cnt:Nat->(Nat->Prop)->Nat
 |0,_=>0
 |n+1,p=>cnt n p+if p n then 1 else 0
theorem Z4C{n:Nat}{p q:Nat->Prop}(h:∀ x,x<n->(p x↔q x)):cnt n p=cnt n q:=by
 induction n with
 |zero=>rfl
 |succ n ih =>
  unfold cnt;rw [ih fun x hx=>h x (by omega)]
  have:=h n (by omega)
  by_cases q1:p n
  ·rw [ae q1,ae (this.mp q1)]
  ·rw [ac q1,ac fun z=>q1 (this.mpr z)]
open Classical in
theorem Z9k{n a:Nat}{p q:Nat->Prop}(ha:a<n)(hp:p a)(h:∀ x,q x↔p x/\x≠a):cnt n p=cnt n q+1:=by
 induction n with
 |zero=>omega
 |succ n ih =>
  unfold cnt;by_cases e:n=a
  ·subst e;rw [ae hp,ac (fun z=>((h n).mp z).2 rfl),Z4C (p:=p) (q:=q) fun x hx=>⟨fun z=>(h x).mpr ⟨z,by omega⟩,fun z=>((h x).mp z).1⟩]
  ·rw [ih (by omega)]
   have:(if p n then 1 else 0)=(if q n then 1 else 0):=by
    by_cases q1:p n
    ·rw [ae q1,ae ((h n).mpr ⟨q1,e⟩)]
    ·rw [ac q1,ac fun z=>q1 ((h n).mp z).1]
   rw [this];omega
theorem cnt_le(n:Nat)(p:Nat->Prop):cnt n p<=n:=by
 induction n with
 |zero=>exact bO _
 |succ n ih=>unfold cnt;split<;>omega
def miss(s:S)(n:Nat):Nat:=cnt n (fun x=>¬ s.tn x 1)+cnt n (fun x=>¬ s.tn x (-1))
def S.allow(s:S)(x:Nat)(t:Int):S:={ s with tn:=fun z u=>s.tn z u\/(z=x/\u=t) }
theorem ZaT{s:S}{n x:Nat}{t:Int}(hx:x<n)(ht:t=1\/t=-1)(h:¬ s.tn x t):miss s n=miss (s.allow x t) n+1:=by
 unfold miss;rcases ht with rfl |rfl
 ·rw [Z9k (p:=fun x=>¬ s.tn x 1) (q:=fun z=>¬ (s.allow x 1).tn z 1) hx h fun z=>?_,Z4C (p:=fun x=>¬ s.tn x (-1)) (q:=fun z=>¬ (s.allow x 1).tn z (-1)) fun z _=>?_]
  ·omega
  ·refine⟨fun a b=>?_,fun a b=>a (.inl b)⟩;rcases b with b |⟨_,b⟩
   ·exact a b
   ·omega
  ·refine⟨fun a=>⟨fun b=>a (.inl b),fun b=>a (.inr ⟨b,rfl⟩)⟩,fun a b=>?_⟩;rcases b with b |⟨b,_⟩
   ·exact a.1 b
   ·exact a.2 b
 ·rw [Z9k (p:=fun x=>¬ s.tn x (-1)) (q:=fun z=>¬ (s.allow x (-1)).tn z (-1)) hx h fun z=>?_,Z4C (p:=fun x=>¬ s.tn x 1) (q:=fun z=>¬ (s.allow x (-1)).tn z 1) fun z _=>?_]
  ·omega
  ·refine⟨fun a b=>?_,fun a b=>a (.inl b)⟩;rcases b with b |⟨_,b⟩
   ·exact a b
   ·omega
  ·refine⟨fun a=>⟨fun b=>a (.inl b),fun b=>a (.inr ⟨b,rfl⟩)⟩,fun a b=>?_⟩;rcases b with b |⟨b,_⟩
   ·exact a.1 b
   ·exact a.2 b
def cfI(s:S)(x:Nat):Int:=match s.cf x with
 |none=>-1
 |some w=>w
end MX
namespace BK
open PySem PySem.Spec PyProof.Rows L2 EX RD LM
structure SA where
 sr:Addr
 dx:Addr
 wl:Addr
 db:Addr
 cb:Addr
 cf:Addr
 tn:Addr
 wq:Addr
abbrev SA.mut(A:SA):List Addr:=[A.db,A.cb,A.cf,A.tn,A.wq]
def SA.flds(A:SA)(c:Nat):List (Str×V):=[("ways",.ref A.wl),("cut",.int (c:Int)),("bases",.ref A.db),("came_by",.ref A.cb),("came_from",.ref A.cf),("turns",.ref A.tn),("waiting",.ref A.wq)]
theorem tY(A:SA)(c:Nat):(SA.flds A c).lookup ("ways":Str)=some (.ref A.wl):=by
 unfold SA.flds;rw [bi,show(("ways":Str)=="ways")=true by decide]
theorem yC(A:SA)(c:Nat):(SA.flds A c).lookup ("cut":Str)=some (.int (c:Int)):=by
 unfold SA.flds;rw [bi,show(("cut":Str)=="ways")=false by decide,bi,show(("cut":Str)=="cut")=true by decide]
theorem rF(A:SA)(c:Nat):(SA.flds A c).lookup ("bases":Str)=some (.ref A.db):=by
 unfold SA.flds;rw [bi,show(("bases":Str)=="ways")=false by decide,bi,show(("bases":Str)=="cut")=false by decide,bi,show(("bases":Str)=="bases")=true by decide]
theorem Oi(A:SA)(c:Nat):(SA.flds A c).lookup ("came_by":Str)=some (.ref A.cb):=by
 unfold SA.flds;rw [bi,show(("came_by":Str)=="ways")=false by decide,bi,show(("came_by":Str)=="cut")=false by decide,bi,show(("came_by":Str)=="bases")=false by decide,bi,show(("came_by":Str)=="came_by")=true by decide]
theorem NS(A:SA)(c:Nat):(SA.flds A c).lookup ("came_from":Str)=some (.ref A.cf):=by
 unfold SA.flds;rw [bi,show(("came_from":Str)=="ways")=false by decide,bi,show(("came_from":Str)=="cut")=false by decide,bi,show(("came_from":Str)=="bases")=false by decide,bi,show(("came_from":Str)=="came_by")=false by decide,bi,show(("came_from":Str)=="came_from")=true by decide]
theorem Jb(A:SA)(c:Nat):(SA.flds A c).lookup ("turns":Str)=some (.ref A.tn):=by
 unfold SA.flds;rw [bi,show(("turns":Str)=="ways")=false by decide,bi,show(("turns":Str)=="cut")=false by decide,bi,show(("turns":Str)=="bases")=false by decide,bi,show(("turns":Str)=="came_by")=false by decide,bi,show(("turns":Str)=="came_from")=false by decide,bi,show(("turns":Str)=="turns")=true by decide]
theorem HU(A:SA)(c:Nat):(SA.flds A c).lookup ("waiting":Str)=some (.ref A.wq):=by
 unfold SA.flds;rw [bi,show(("waiting":Str)=="ways")=false by decide,bi,show(("waiting":Str)=="cut")=false by decide,bi,show(("waiting":Str)=="bases")=false by decide,bi,show(("waiting":Str)=="came_by")=false by decide,bi,show(("waiting":Str)=="came_from")=false by decide,bi,show(("waiting":Str)=="turns")=false by decide,bi,show(("waiting":Str)=="waiting")=true by decide]
theorem vA(A:SA)(c:Nat){m:Str}(h0:(m=="ways")=false)(h1:(m=="cut")=false)(h2:(m=="bases")=false)(h3:(m=="came_by")=false)(h4:(m=="came_from")=false)(h5:(m=="turns")=false)(h6:(m=="waiting")=false):(SA.flds A c).lookup m=none:=by
 unfold SA.flds;rw [bi,h0,bi,h1,bi,h2,bi,h3,bi,h4,bi,h5,bi,h6];rfl
def Frm(A:SA)(H H':Hp):Prop:=∀ b o,H b=some o->b∉A.mut->H' b=some o
theorem Frm.refl(A:SA)(H:Hp):Frm A H H:=fun _ _ h _=>h
theorem Frm.trans{A:SA}{H H1 H2:Hp}(a:Frm A H H1)(b:Frm A H1 H2):Frm A H H2:=fun c o h n=>b c o (a c o h n) n
theorem Frm.new{A:SA}{H H1:Hp}{b:Addr}{o:HO}(h:Frm A H H1)(n:H1 b=none):Frm A H (upd H1 b o):=fun c o' e hc=>by
 have e1:=h c o' e hc;rw [aj (ba e1 n)];exact e1
theorem Frm.upd{A:SA}{H H1:Hp}{b:Addr}{o:HO}(h:Frm A H H1)(hb:b∈A.mut):Frm A H (L2.upd H1 b o):=fun c o' e hc=>by
 rw [aj (fun z=>hc (by rw [z];exact hb))];exact h c o' e hc
structure Bas(s:MX.S)(ah:List (Key×V)):Prop where
 mid:aL ah (.inl (-1))=some (.int (-1))
 at_:∀ x:Nat,s.re x->∃ y:Nat,aL ah (.inl (x:Int))=some (.int (y:Int))/\s.re y/\s.root y=s.root x/\(y=x↔s.root x=x)/\(y≠x->s.rk y<s.rk x)
 no:∀ x:Nat,¬ s.re x->aL ah (.inl (x:Int))=none
structure Rep(CS:Addr)(n:Nat)(H:Hp)(A:SA)(c:Nat)(s:MX.S)(q:List (Nat×Int))(N M:Nat):Prop where
 obj:H A.sr=some (.ins CS A.dx (A.flds c))
 bas:∃ ah,H A.db=some (.dK ah)/\Bas s ah/\ah.length<=M
 cby:∃ ah:List (Key×V),H A.cb=some (.dK ah)/\(∀ x,s.re x->aL ah (.inl (x:Int))=some (.int (s.cb x:Int)))/\ah.length<=M
 cfr:∃ ah:List (Key×V),H A.cf=some (.dK ah)/\(∀ x,s.re x->aL ah (.inl (x:Int))=some (.int (MX.cfI s x)))/\ah.length<=M
 trn:∃ ah:List (List Key×V),H A.tn=some (.dT ah)/\(∀ (x:Nat)(t:Int),(aL ah [.inl (x:Int),.inl t]).isSome=true↔s.tn x t)/\ah.length<=N
 wat:∃ ts,H A.wq=some (.lst (ts.map V.ref))/\Tups H ts (q.map fun p=>[(p.1:Int),p.2])
 qle:q.length<=N
 bud:N+MX.miss s n<=2*n+3
 mle:M<=400
 nn:n<=128
 nd:A.mut.Nodup
theorem Rep.small{CS n:Nat}{H:Hp}{A:SA}{c:Nat}{s:MX.S}{q:List (Nat×Int)}{N M:Nat}(r:Rep CS n H A c s q N M):N<300:=by
 have:=r.bud;have:=r.nn;omega
section
variable{CS n:Nat}{H H':Hp}{A:SA}{c:Nat}{s s':MX.S}{q:List (Nat×Int)}{N M:Nat}
theorem Rep.sr_mut(r:Rep CS n H A c s q N M):A.sr∉A.mut:=fun h=>by
 have ho:=r.obj;obtain⟨_,a1,_⟩:=r.bas;obtain⟨_,a2,_⟩:=r.cby;obtain⟨_,a3,_⟩:=r.cfr;obtain⟨_,a4,_⟩:=r.trn;obtain⟨_,a5,_⟩:=r.wat;simp only [bw,ik,or_false]at h;rcases h with h |h |h |h |h<;>rw [h]at ho
 ·rw [a1]at ho;cases ho
 ·rw [a2]at ho;cases ho
 ·rw [a3]at ho;cases ho
 ·rw [a4]at ho;cases ho
 ·rw [a5]at ho;cases ho
theorem Rep.new(r:Rep CS n H A c s q N M){b:Addr}{o:HO}(hb:H b=none):Rep CS n (upd H b o) A c s q N M:=by
 have k:∀ {a:Addr}{u:HO},H a=some u->upd H b o a=some u:=fun e=>by rw [aj (ba e hb)];exact e
 obtain⟨_,a1,b1⟩:=r.bas;obtain⟨_,a2,b2⟩:=r.cby;obtain⟨_,a3,b3⟩:=r.cfr;obtain⟨_,a4,b4⟩:=r.trn;obtain⟨_,a5,b5⟩:=r.wat;exact⟨k r.obj,⟨_,k a1,b1⟩,⟨_,k a2,b2⟩,⟨_,k a3,b3⟩,⟨_,k a4,b4⟩,⟨_,k a5,b5.same fun c xs e=>k e⟩,r.qle,r.bud,r.mle,r.nn,r.nd⟩
theorem Rep.setBas(r:Rep CS n H A c s q N M){ah:List (Key×V)}(h:Bas s' ah)(hl:ah.length<=M)(e1:s'.re=s.re)(e2:s'.cb=s.cb)(e3:s'.cf=s.cf)(e4:s'.tn=s.tn):Rep CS n (upd H A.db (.dK ah)) A c s' q N M:=by
 have nd:=r.nd;simp only [lA,bw,ik,or_false,b9]at nd;obtain⟨⟨n1,n2,n3,n4⟩,_⟩:=nd;obtain⟨_,a1,b1⟩:=r.bas;obtain⟨_,a2,b2,l2⟩:=r.cby;obtain⟨_,a3,b3,l3⟩:=r.cfr;obtain⟨_,a4,b4,l4⟩:=r.trn;obtain⟨_,a5,b5⟩:=r.wat;refine⟨by rw [aj (az r.obj a1 (by intro z;cases z))];exact r.obj,⟨_,Z2j,h,hl⟩,⟨_,by rw [aj (Ne.symm n1)];exact a2,by rw [e1,e2];exact b2,l2⟩,⟨_,by rw [aj (Ne.symm n2)];exact a3,?_,l3⟩,⟨_,by rw [aj (Ne.symm n3)];exact a4,by rw [e4];exact b4,l4⟩,
  ⟨_,by rw [aj (Ne.symm n4)];exact a5,b5.same fun c xs e=>by rw [aj (az e a1 (by intro z;cases z))];exact e⟩,r.qle,?_,r.mle,r.nn,r.nd⟩
 ·intro x hx;rw [e1]at hx;have:=b3 x hx;unfold MX.cfI at this ⊢;rw [e3];exact this
 ·have:=r.bud;unfold MX.miss at this ⊢;rw [e4];exact this
end
structure jX(K:aq)(mg:Str->Option Value)(CS:Addr):Prop where
 cl:Cls K CS
 nw:NoAttr K CS "ways"
 nc:NoAttr K CS "cut"
 nb:NoAttr K CS "bases"
 ny:NoAttr K CS "came_by"
 nf:NoAttr K CS "came_from"
 nt:NoAttr K CS "turns"
 nq:NoAttr K CS "waiting"
 up:∃ u,mg "UP" = some u/\RelV (.int 1) u
 dn:∃ u,mg "DOWN" = some u/\RelV (.int (-1)) u
 md:∃ u,mg "MIDDLE" = some u/\RelV (.int (-1)) u
theorem Ox{κ:Type}[DecidableEq κ]{ah:List (κ×V)}{k:κ}{v:V}(h:(aL ah k).isSome=true):(aG ah k v).length=ah.length:=by
 unfold aG;rw [v0,ae h,aW]
theorem jO{a b:Int}:((Sum.inl a:Key)=Sum.inl b)↔a=b:=⟨fun h=>Sum.inl.inj h,fun h=>by rw [h]⟩
theorem Bas.put{s:MX.S}{ah:List (Key×V)}(h:Bas s ah){x y:Nat}(hy:s.re y)(hr:s.root y=s.root x)(h1:y=x↔s.root x=x)(h2:y≠x->s.rk y<s.rk x)(hx:s.re x):Bas s (aG ah (.inl (x:Int)) (.int (y:Int))):=by
 refine⟨?_,fun z hz=>?_,fun z hz=>?_⟩
 ·rw [iF,ac (by rw [jO];omega)];exact h.mid
 ·rw [iF];by_cases q:z=x
  ·subst q;rw [ae rfl];exact⟨y,rfl,hy,hr,h1,h2⟩
  ·rw [ac (by rw [jO];omega)]
   exact h.at_ z hz
 ·rw [iF,ac (by rw [jO];intro q;apply hz;have:z=x:=(by omega);rw [this];exact hx)]
  exact h.no z hz
section
variable{P:Program}{w:World}{K:aq}{mg:Str->Option Value}{base:Heap}{CS:Addr}
def mw(s:MX.S)(x r:Int):Prop:=(x=-1/\r=-1)\/∃ a:Nat,x=a/\s.re a/\r=s.root a
def Js(CS:Addr):Sp:=fun vs H Q _=>∃ (A:SA)(n c N M:Nat)(s:MX.S)(q:List (Nat×Int))(x r:Int),vs=[.ref A.sr,.int x]/\Rep CS n H A c s q N M/\mw s x r/\∀ H',Frm A H H'->Rep CS n H' A c s q N M->Q (.int r) H'
theorem pP:cX ["self","atom"] ["self","atom"] (bo Hj):=⟨rfl,rfl,rfl,by decide +kernel,rfl,by decide +kernel,by decide +kernel⟩
theorem xU{f:Addr}{fd:FuncData}(F:Fun K "base_of" "Search.base_of" Hj f fd)(T:jX K mg CS):am P w K mg base CX0 1 f fd ["self","atom"] (Js CS):=by
 refine F.ok pP (fun vs H Q E h=>?_) (fun bq A' outer s' H vs Q E hr h=>?_)
 ·obtain⟨A,n,c,N,M,s,q,x,r,rfl,_⟩:=h;rfl
 ·obtain⟨A,n,c,N,M,s,q,x,r,rfl,R,hx,k⟩:=h;have hu:=eF hr;refine⟨_,aO (Fq PassesOwn.never (gr d5 (uQ hu (br (pv 0) rfl) (pv 1) (fun _ _=>rfl)) (pv 1) (eT _))
    (aO (wd hu (br (pv 0) rfl) (pv 1) (uQ hu (br (pv 0) rfl) (uQ hu (br (pv 0) rfl) (pv 1) (fun _ _=>rfl)) (fun _ _=>rfl)) rfl)
    (bh (dj (i:=1) pP.nd rfl (Or.inl rfl) (uQ hu (br (pv 0) rfl) (pv 1) (fun _ _=>rfl))))))
   (bh (dL (pv 1))),?_⟩
  refine Ji (fun σ H'=>∃ y:Int,σ=[some (.ref A.sr),some (.int y)]/\Frm A H H'/\Rep CS n H' A c s q N M/\mw s y r) (fun σ _=>match σ with |[_,some (.int y)]=>s.rk y.toNat |_=>0) ⟨x,rfl,Frm.refl _ _,R,hx⟩ ?_ ?_
  ·rintro σ H1 ⟨y,rfl,fr,R1,hy⟩;obtain⟨ah,hb,B,hl⟩:=R1.bas;have g:∀ z:Int,DGet H1 A.db (.int z) (aL ah (.inl z)):=fun z=>DGet.k (k:=.inl z) hb;rcases hy with⟨rfl,rfl⟩ |⟨a,rfl,ra,rfl⟩
   ·refine⟨_,rfl,A.sr,CS,A.dx,_,_,rfl,R1.obj,T.cl,T.nb,rF _ _,_,rfl,A.db,.int (-1),rfl,by rw [<-B.mid];exact g _,_,rfl,rfl,_,rfl,bu (fun hc=>?_) (fun hc=>?_)⟩
    ·simp at hc
    ·exact⟨_,rfl,k H1 fr R1⟩
   ·obtain⟨y1,v1,r1,e1,i1,l1⟩:=B.at_ a ra;refine⟨_,rfl,A.sr,CS,A.dx,_,_,rfl,R1.obj,T.cl,T.nb,rF _ _,_,rfl,A.db,.int y1,rfl,by rw [<-v1];exact g _,_,rfl,rfl,_,rfl,bu (fun hc=>?_) (fun hc=>?_)⟩
    ·have bV:y1≠a:=fun z=>by simp [z]at hc
     obtain⟨y2,v2,r2,e2,i2,l2⟩:=B.at_ y1 r1;have Gb:s.rk y2<s.rk a:=by
      by_cases z:y2=y1
      ·rw [z];exact l1 bV
      ·exact qv (l2 z) (l1 bV)
     have n2:y2≠a:=fun z=>by rw [z]at Gb;exact il _ Gb
     have ra1:s.root a≠a:=fun z=>bV (i1.mpr z);have B2:Bas s (aG ah (.inl (a:Int)) (.int (y2:Int))):=B.put r2 (e2.trans e1) ⟨fun z=>absurd z n2,fun z=>absurd z ra1⟩ (fun _=>Gb) ra;have l2':(aG ah (.inl (a:Int)) (.int (y2:Int))).length<=M:=by rw [Ox (by rw [v1];rfl)];exact hl
     have R2:=R1.setBas (s':=s) B2 l2' rfl rfl rfl rfl;refine⟨_,rfl,A.sr,CS,A.dx,_,_,rfl,R1.obj,T.cl,T.nb,rF _ _,_,rfl,A.sr,CS,A.dx,_,_,rfl,R1.obj,T.cl,T.nb,rF _ _,_,rfl,A.db,.int y1,rfl,by rw [<-v1];exact g _,A.db,.int y2,rfl,by rw [<-v2];exact g _,
      _,rfl,A.sr,CS,A.dx,_,_,rfl,R1.obj,T.cl,T.nb,rF _ _,_,rfl,A.db,_,rfl,DPut.k (k:=.inl (a:Int)) hb (by rw [ak];have:=R1.mle;omega),?_⟩
     have g2:DGet (upd H1 A.db (.dK (aG ah (.inl (a:Int)) (.int (y2:Int))))) A.db (.int (a:Int)) (some (.int (y2:Int))):=by
      have:=DGet.k (k:=.inl (a:Int)) (Z2j (H:=H1) (a:=A.db) (o:=.dK (aG ah (.inl (a:Int)) (.int (y2:Int)))));rw [iF,ae rfl]at this;exact this
     refine⟨_,rfl,A.sr,CS,A.dx,_,_,rfl,R2.obj,T.cl,T.nb,rF _ _,_,rfl,A.db,.int y2,rfl,g2,?_⟩;refine⟨⟨y2,rfl,fr.upd (by simp),R2,.inr ⟨y2,rfl,r2,by rw [e2.trans e1]⟩⟩,?_⟩
     show s.rk ((y2:Int)).toNat<s.rk ((a:Int)).toNat;simpa using Gb
    ·have he:y1=a:=by
      by_cases z:y1=a
      ·exact z
      ·exact absurd (show _=true by simp;omega) hc
     refine⟨_,rfl,?_⟩;rw [i1.mp he]at k;exact k H1 fr R1
  ·rintro σ H1 Q1 Q2 hq ⟨v,e,a,C,dx,fs,v',h1,h2,h3,h4,h5,v2,h6,d,v3,h7,h8,v4,h9,ju,b',lN,q'⟩;exact⟨v,e,a,C,dx,fs,v',h1,h2,h3,h4,h5,v2,h6,d,v3,h7,h8,v4,h9,ju,b',lN,hq _ _ q'⟩
end
section
variable{P:Program}{w:World}{K:aq}{mg:Str->Option Value}{base:Heap}{CS:Addr}
def uy(s:MX.S)(z r:Int):Prop:=(z=-1/\r=-1)\/∃ a:Nat,z=a/\s.re a/\(∀ w,s.cf a=some w->s.re w)/\r=(match s.up a with |none=>(-1:Int) |some y=>(y:Int))
def pZ(CS:Addr):Sp:=fun vs H Q _=>∃ (A:SA)(n c N M:Nat)(s:MX.S)(q:List (Nat×Int))(x r:Int),vs=[.ref A.sr,.int x]/\Rep CS n H A c s q N M/\uy s x r/\∀ H',Frm A H H'->Rep CS n H' A c s q N M->Q (.int r) H'
theorem DR:cX ["self","base"] ["self","base"] (bo Hs):=⟨rfl,rfl,rfl,by decide +kernel,rfl,by decide +kernel,by decide +kernel⟩
theorem Dn{f fB:Addr}{fd iH:FuncData}(F:Fun K "base_before" "Search.base_before" Hs f fd)(T:jX K mg CS)(GB:am P w K mg base CX0 1 fB iH ["self","atom"] (Js CS))(mB:aS K CS "base_of" fB)(bB:Binds K iH ["self","atom"] []):
  am P w K mg base CX0 2 f fd ["self","base"] (pZ CS):=by
 refine F.ok DR (fun vs H Q E h=>?_) (fun bq A' outer s' H vs Q E hr h=>?_)
 ·obtain⟨A,n,c,N,M,s,q,x,r,rfl,_⟩:=h;rfl
 ·obtain⟨A,n,c,N,M,s,q,x,r,rfl,R,hx,k⟩:=h;have hu:=eF hr;refine⟨_,bh (dL (oY (gr iR (pv 1) (ay rfl T.md) (eT _)) (ay rfl T.md) (ez (pv 0) T.cl mB GB hr bB .nil aC (ao (uQ hu (br (pv 0) rfl) (pv 1) (fun _ _=>rfl)) aE)))),?_⟩;refine⟨_,rfl,rfl,_,rfl,bu (fun hc=>?_) (fun hc=>?_)⟩
  ·have e:x=-1:=by simpa using hc
   have er:r=-1:=by
    rcases hx with⟨_,z⟩ |⟨a,z,_⟩
    ·exact z
    ·omega
   rw [er]at k;exact k H (Frm.refl _ _) R
  ·have e:x≠-1:=fun z=>hc (by simp [z])
   rcases hx with⟨z,_⟩ |⟨a,rfl,ra,hw,er⟩
   ·exact absurd z e
   ·obtain⟨ah,hb,hv,hl⟩:=R.cfr;have g:DGet H A.cf (.int (a:Int)) (some (.int (MX.cfI s a))):=by rw [<-hv a ra];exact DGet.k (k:=.inl (a:Int)) hb
    refine⟨_,rfl,A.sr,A.dx,_,rfl,R.obj,vA _ _ (by decide) (by decide) (by decide) (by decide) (by decide) (by decide) (by decide),_,rfl,A.sr,CS,A.dx,_,_,rfl,R.obj,T.cl,T.nf,NS _ _,_,rfl,A.cf,_,rfl,g,A,n,c,N,M,s,q,MX.cfI s a,r,rfl,R,?_,k⟩
    unfold MX.cfI;unfold MX.S.up at er;cases ec:s.cf a with
    |none=>rw [ec]at er;exact .inl ⟨rfl,er⟩
    |some w=>rw [ec]at er;exact .inr ⟨w,rfl,hw w ec,er⟩
def IY(CS:Addr):Sp:=fun vs H Q _=>∃ (A:SA)(n c N M:Nat)(s:MX.S)(q:List (Nat×Int))(x:Nat)(t:Int),vs=[.ref A.sr,.int (x:Int),.int t]/\Rep CS n H A c s q N M/\x<n/\(t=1\/t=-1) /\
 ∀ H' q' N',Frm A H H'->Rep CS n H' A c (s.allow x t) q' N' M->(s.tn x t->q'=q)->(¬ s.tn x t->q'=q++[(x,t)]/\N'=N+1)->N<=N'->Q .non H'
theorem tU:cX ["self","atom","turn"] ["self","atom","turn"] (bo HI):=⟨rfl,rfl,rfl,by decide +kernel,rfl,by decide +kernel,by decide +kernel⟩
theorem OJ{s:MX.S}{x:Nat}{t:Int}(h:s.tn x t):s.allow x t=s:=by
 unfold MX.S.allow;have:(fun z u=>s.tn z u\/(z=x/\u=t))=s.tn:=by
  funext z u
  exact propext ⟨fun q=>q.elim id fun⟨a,b⟩=>by rw [a,b];exact h,.inl⟩
 rw [this]
theorem tz{f:Addr}{fd:FuncData}(F:Fun K "allow" "Search.allow" HI f fd)(T:jX K mg CS):am P w K mg base CX0 1 f fd ["self","atom","turn"] (IY CS):=by
 refine F.ok tU (fun vs H Q E h=>?_) (fun bq A' outer s' H vs Q E hr h=>?_)
 ·obtain⟨A,n,c,N,M,s,q,x,t,rfl,_⟩:=h;rfl
 ·obtain⟨A,n,c,N,M,s,q,x,t,rfl,R,hx,ht,k⟩:=h;have hu:=eF hr;refine⟨_,bh (b8 (FE (IG hu (qB (ao (pv 1) (ao (pv 2) aE))) (br (pv 0) rfl)))
    (aO (wd hu (br (pv 0) rfl) (qB (ao (pv 1) (ao (pv 2) aE))) dG rfl)
    (bh (gT (lg AH Fa Fb Fv (br (pv 0) rfl) (ao (qB (ao (pv 1) (ao (pv 2) aE))) aE))))) io),?_⟩
  obtain⟨ah,hb,hv,hl⟩:=R.trn;refine⟨_,rfl,_,rfl,(by show 2<=sizeLine;decide),fun u1 ke=>?_⟩
  have R1:=R.new (o:=.tup [.int (x:Int),.int t]) ke;have f1:Frm A H (upd H u1 (.tup [.int (x:Int),.int t])):=(Frm.refl _ _).new ke;have BW:upd H u1 (.tup [.int (x:Int),.int t]) A.tn=some (.dT ah):=by rw [aj (ba hb ke)];exact hb
  refine⟨_,rfl,A.sr,CS,A.dx,_,_,rfl,R1.obj,T.cl,T.nt,Jb _ _,A.tn,_,rfl,DGet.t (k:=[.inl (x:Int),.inl t]) BW Z2j,_,rfl,bu (fun hc=>?_) (fun hc=>?_)⟩
  ·have hs:(aL ah [.inl (x:Int),.inl t])=none:=by
    cases z:aL ah [.inl (x:Int),.inl t]with
    |none=>rfl
    |some v=>rw [z]at hc;cases hc
   have om:¬ s.tn x t:=fun z=>by have:=(hv x t).mpr z;rw [hs]at this;cases this
   refine⟨_,rfl,A.sr,CS,A.dx,_,_,rfl,R1.obj,T.cl,T.nt,Jb _ _,_,rfl,_,rfl,(by show 2<=sizeLine;decide),fun u2 CD=>?_⟩
   have R2:=R1.new (o:=.tup [.int (x:Int),.int t]) CD;have f2:=f1.new (o:=.tup [.int (x:Int),.int t]) CD;have jS:upd (upd H u1 (.tup [.int (x:Int),.int t])) u2 (.tup [.int (x:Int),.int t]) A.tn=some (.dT ah):=by rw [aj (ba BW CD)];exact BW
   have sm:=R.small;refine⟨A.tn,_,rfl,DPut.t (k:=[.inl (x:Int),.inl t]) jS Z2j (by rw [ak];omega),?_⟩
   generalize hH2:upd (upd H u1 (.tup [.int (x:Int),.int t])) u2 (.tup [.int (x:Int),.int t])=H2 at *
   obtain⟨ts,hq,hT⟩:=R2.wat;have nd:=R.nd;have Rj:A.wq≠A.tn:=fun z=>by rw [z,jS]at hq;cases hq
   have Rk:A.sr≠A.tn:=az R2.obj jS (by intro z;cases z)
   have ho3:upd H2 A.tn (.dT (aG ah [.inl (x:Int),.inl t] (.bl true))) A.sr=some (.ins CS A.dx (A.flds c)):=by rw [aj Rk];exact R2.obj
   have Cn:upd H2 A.tn (.dT (aG ah [.inl (x:Int),.inl t] (.bl true))) A.wq=some (.lst (ts.map V.ref)):=by rw [aj Rj];exact hq
   refine⟨_,rfl,A.sr,CS,A.dx,_,_,rfl,ho3,T.cl,T.nq,HU _ _,.inl ⟨rfl,_,SqL.of Cn⟩,_,rfl,_,rfl,(by show 2<=sizeLine;decide),fun u3 sR=>?_⟩
   have zV:upd (upd H2 A.tn (.dT (aG ah [.inl (x:Int),.inl t] (.bl true)))) u3 (.tup [.int (x:Int),.int t]) A.wq=some (.lst (ts.map V.ref)):=by rw [aj (ba Cn sR)];exact Cn
   have hql:=R.qle;have zY:ts.length=q.length:=by have:=hT.1;rw [aW]at this;exact this
   refine⟨A.wq,_,_,rfl,rfl,zV,(by rw [aW,ak];omega),?_⟩
   have nu:∀ {b:Addr}{o:HO},upd H2 A.tn (.dT (aG ah [.inl (x:Int),.inl t] (.bl true))) b=some o->b≠u3:=fun e=>ba e sR;have keep:∀ {b:Addr}{o:HO},H2 b=some o->b≠A.tn->b≠A.wq->upd (upd (upd H2 A.tn (.dT (aG ah [.inl (x:Int),.inl t] (.bl true)))) u3 (.tup [.int (x:Int),.int t])) A.wq (.lst (ts.map V.ref++[.ref u3])) b=some o:=fun{b o} e n1 n2=>by
    have e1:upd H2 A.tn (.dT (aG ah [.inl (x:Int),.inl t] (.bl true))) b=some o:=by rw [aj n1];exact e
    rw [aj n2,aj (nu e1)];exact e1
   have CU:∀ b xs,H2 b=some (.tup xs)->upd (upd (upd H2 A.tn (.dT (aG ah [.inl (x:Int),.inl t] (.bl true)))) u3 (.tup [.int (x:Int),.int t])) A.wq (.lst (ts.map V.ref++[.ref u3])) b=some (.tup xs):=fun b xs e =>
    keep e (az e jS (by intro z;cases z)) (az e hq (by intro z;cases z))
   have Mx:A.tn≠u3:=nu Z2j;refine k _ (q++[(x,t)]) (N+1) ?_ ?_ (fun z=>absurd z om) (fun _=>⟨rfl,rfl⟩) (Nat.le_succ _)
   ·exact((f2.upd (by simp)).new sR).upd (by simp)
   ·obtain⟨k1,a1,b1,l1⟩:=R2.bas;obtain⟨k2,a2,b2,l2⟩:=R2.cby;obtain⟨k3,a3,b3,l3⟩:=R2.cfr;simp only [lA,bw,ik,or_false,b9]at nd;obtain⟨⟨n1,n2,n3,n4⟩,⟨n5,n6,n7⟩,⟨n8,n9⟩,_⟩:=nd;refine⟨keep R2.obj Rk (az R2.obj hq (by intro z;cases z)),⟨k1,keep a1 n3 n4,⟨b1.mid,b1.at_,b1.no⟩,l1⟩,⟨k2,keep a2 n6 n7,b2,l2⟩,⟨k3,keep a3 n8 n9,b3,l3⟩,⟨aG ah [.inl (x:Int),.inl t] (.bl true),?_,fun z u=>?_,?_⟩,⟨ts++[u3],?_,?_⟩,?_,?_,R.mle,R.nn,R.nd⟩
    ·rw [aj (Ne.symm Rj),aj Mx,Z2j]
    ·rw [iF];by_cases e:(([.inl (z:Int),.inl u]:List Key)=[.inl (x:Int),.inl t])
     ·rw [ae e];injection e with e1 e2
      injection e2 with e2 _
      have e1:=Sum.inl.inj e1;have e2:=Sum.inl.inj e2;refine⟨fun _=>.inr ⟨by omega,e2⟩,fun _=>rfl⟩
     ·rw [ac e,hv z u];refine⟨.inl,fun h=>h.elim id fun⟨h1,h2⟩=>absurd (by rw [h1,h2]) e⟩
    ·have:=mL ah [.inl (x:Int),.inl t] (.bl true);omega
    ·rw [Z2j,fO];rfl
    ·rw [fO];refine Tups.snoc (hT.same CU) ?_;rw [aj (fun z=>by rw [z]at sR;rw [sR]at Cn;cases Cn),Z2j]
     rfl
    ·rw [gD];show q.length+1<=N+1;omega
    ·have:=R.bud;have:=MX.ZaT hx ht om;omega
  ·have om:s.tn x t:=by
    refine(hv x t).mp ?_;cases z:aL ah [.inl (x:Int),.inl t]with
    |none=>rw [z]at hc;exact absurd rfl hc
    |some v=>rfl
   refine k _ q N f1 ?_ (fun _=>rfl) (fun z=>absurd om z) (bO _);rw [OJ om];exact R1
end
def Ext(s:MX.S)(q:List (Nat×Int))(s':MX.S)(q':List (Nat×Int)):Prop:=∃ r,q'=q++r/\(∀ x t,s'.tn x t↔s.tn x t\/(x,t)∈r)/\(∀ p∈r,¬ s.tn p.1 p.2)/\r.Nodup
theorem Ext.refl(s:MX.S)(q:List (Nat×Int)):Ext s q s q:=⟨[],by simp,fun x t=>by simp,fun p hp=>by simp at hp,uJ⟩
theorem Ext.trans{s s1 s2:MX.S}{q q1 q2:List (Nat×Int)}(a:Ext s q s1 q1)(b:Ext s1 q1 s2 q2):Ext s q s2 q2:=by
 obtain⟨r,rfl,h,n1,d1⟩:=a;obtain⟨r',rfl,h',n2,d2⟩:=b;refine⟨r++r',by simp,fun x t=>?_,fun p hp=>?_,?_⟩
 ·rw [h',h,dz,or_assoc]
 ·rcases dz.mp hp with hp |hp
  ·exact n1 p hp
  ·exact fun z=>n2 p hp ((h p.1 p.2).mpr (.inl z))
 ·exact rg.mpr ⟨d1,d2,fun a ha b hb z=>n2 b hb ((h b.1 b.2).mpr (.inr (by rw [<-z];exact ha)))⟩
theorem Ext.tn{s s1 s2:MX.S}{q q1:List (Nat×Int)}(a:Ext s q s1 q1)(h:s2.tn=s1.tn):Ext s q s2 q1:=by
 obtain⟨r,e,k,n,d⟩:=a;exact⟨r,e,fun x t=>by rw [h];exact k x t,n,d⟩
theorem Ext.allow{s:MX.S}{q q':List (Nat×Int)}{x N N':Nat}{t:Int}(h1:s.tn x t->q'=q)(h2:¬ s.tn x t->q'=q++[(x,t)]/\N'=N+1):Ext s q (s.allow x t) q':=by
 by_cases h:s.tn x t
 ·rw [h1 h,OJ h];exact Ext.refl _ _
 ·refine⟨[(x,t)],(h2 h).1,fun z u=>?_,fun p hp=>by rw [du.mp hp];exact h,by simp⟩
  show s.tn z u\/(z=x/\u=t)↔_;simp
theorem Rep.congr{CS n:Nat}{H:Hp}{A:SA}{c:Nat}{s s':MX.S}{q:List (Nat×Int)}{N M:Nat}(r:Rep CS n H A c s q N M)(e1:s'.re=s.re)(e2:s'.root=s.root)(e3:s'.rk=s.rk)(e4:s'.cb=s.cb)(e5:s'.cf=s.cf)(e6:s'.tn=s.tn):
  Rep CS n H A c s' q N M:=by
 obtain⟨k1,a1,b1,l1⟩:=r.bas;obtain⟨k2,a2,b2,l2⟩:=r.cby;obtain⟨k3,a3,b3,l3⟩:=r.cfr;obtain⟨k4,a4,b4,l4⟩:=r.trn;refine⟨r.obj,⟨k1,a1,⟨b1.mid,fun x hx=>?_,fun x hx=>?_⟩,l1⟩,⟨k2,a2,fun x hx=>?_,l2⟩,⟨k3,a3,fun x hx=>?_,l3⟩,⟨k4,a4,fun x t=>?_,l4⟩,r.wat,r.qle,?_,r.mle,r.nn,r.nd⟩
 ·rw [e1]at hx ⊢;rw [e2,e3];exact b1.at_ x hx
 ·rw [e1]at hx;exact b1.no x hx
 ·rw [e1]at hx;rw [e4];exact b2 x hx
 ·rw [e1]at hx;unfold MX.cfI;rw [e5];exact b3 x hx
 ·rw [e6];exact b4 x t
 ·have:=r.bud;unfold MX.miss at this ⊢;rw [e6];exact this
section
variable{P:Program}{w:World}{K:aq}{mg:Str->Option Value}{base:Heap}{CS:Addr}
theorem jk{A:SA}{c:Nat}{m:Str}(h0:autoParam ((m=="ways")=false) aD._auto_1)(h1:autoParam ((m=="cut")=false) aD._auto_1)(h2:autoParam ((m=="bases")=false) aD._auto_1)(h3:autoParam ((m=="came_by")=false) aD._auto_1)(h4:autoParam ((m=="came_from")=false) aD._auto_1)
  (h5:autoParam ((m=="turns")=false) aD._auto_1)(h6:autoParam ((m=="waiting")=false) aD._auto_1):(A.flds c).lookup m=none:=vA A c h0 h1 h2 h3 h4 h5 h6
def Ju(CS:Addr):Sp:=fun vs H Q _=>∃ (A:SA)(n c N M:Nat)(s:MX.S)(q:List (Nat×Int))(x:Nat),vs=[.ref A.sr,.int (x:Int)]/\Rep CS n H A c s q N M/\x<n /\
 ∀ H' q' N',Frm A H H'->Rep CS n H' A c ((s.allow x 1).allow x (-1)) q' N' M->Ext s q ((s.allow x 1).allow x (-1)) q'->N<=N'->Q .non H'
theorem yA:cX ["self","atom"] ["self","atom"] (bo Hu):=⟨rfl,rfl,rfl,by decide +kernel,rfl,by decide +kernel,by decide +kernel⟩
theorem xV{f fA:Addr}{fd gx:FuncData}(F:Fun K "allow_both" "Search.allow_both" Hu f fd)(T:jX K mg CS)(GA:am P w K mg base CX0 1 fA gx ["self","atom","turn"] (IY CS))(mA:aS K CS "allow" fA)(bA:Binds K gx ["self","atom","turn"] []):
  am P w K mg base CX0 2 f fd ["self","atom"] (Ju CS):=by
 refine F.ok yA (fun vs H Q E h=>?_) (fun bq A' outer s' H vs Q E hr h=>?_)
 ·obtain⟨A,n,c,N,M,s,q,x,rfl,_⟩:=h;rfl
 ·obtain⟨A,n,c,N,M,s,q,x,rfl,R,hx,k⟩:=h;refine⟨_,aO (gT (ez (pv 0) T.cl mA GA hr bA .nil aC (ao (pv 1) (ao (ay rfl T.up) aE)))) (bh (gT (ez (pv 0) T.cl mA GA hr bA .nil aC (ao (pv 1) (ao (ay rfl T.dn) aE))))),?_⟩;refine⟨_,rfl,A.sr,A.dx,_,rfl,R.obj,jk,_,rfl,A,n,c,N,M,s,q,x,1,rfl,R,hx,.inl rfl,fun H1 q1 N1 f1 R1 a1 b1 c1=>?_⟩;refine⟨_,rfl,A.sr,A.dx,_,rfl,R1.obj,jk,_,rfl,A,n,c,N1,M,_,q1,x,-1,rfl,R1,hx,.inr rfl,fun H2 q2 N2 f2 R2 a2 b2 c2=>?_⟩;exact k H2 q2 N2 (f1.trans f2) R2 ((Ext.allow a1 b1).trans (Ext.allow a2 b2)) (iE c1 c2)
def put(s:MX.S)(y e:Nat)(qC:Option Nat)(u:Int):MX.S where
 re:=fun z=>s.re z\/z=y
 root:=fun z=>if z=y then y else s.root z
 rk:=fun z=>if z=y then s.nx else s.rk z
 nx:=s.nx+1
 cb:=fun z=>if z=y then e else s.cb z
 cf:=fun z=>if z=y then qC else s.cf z
 ar:=fun z=>if z=y then -u else s.ar z
 tn:=fun z v=>s.tn z v\/(z=y/\v=u)
 dn:=s.dn
def IW(CS:Addr):Sp:=fun vs H Q _=>∃ (A:SA)(n c N M:Nat)(s:MX.S)(q:List (Nat×Int))(y e:Nat)(b u:Int)(qC:Option Nat),vs=[.ref A.sr,.int (y:Int),.int b,.int (e:Int),.int u]/\Rep CS n H A c s q N M/\M<=390/\y<n/\¬ s.re y /\
 (∀ x v,s.tn x v->s.re x)/\(∀ x,s.re x->s.re (s.root x))/\(u=1\/u=-1)/\b=(match qC with |none=>(-1:Int) |some x=>(x:Int)) /\
 ∀ H' q' N',Frm A H H'->Rep CS n H' A c (put s y e qC u) q' N' (M+1)->N'=N+1->Ext s q (put s y e qC u) q'->Q .non H'
theorem tW:cX ["self","atom","before","bond","turn"] ["self","atom","before","bond","turn"] (bo HH):=⟨rfl,rfl,rfl,by decide +kernel,rfl,by decide +kernel,by decide +kernel⟩
theorem tG{f fA:Addr}{fd gx:FuncData}(F:Fun K "reach" "Search.reach" HH f fd)(T:jX K mg CS)(GA:am P w K mg base CX0 1 fA gx ["self","atom","turn"] (IY CS))(mA:aS K CS "allow" fA)(bA:Binds K gx ["self","atom","turn"] []):
  am P w K mg base CX0 2 f fd ["self","atom","before","bond","turn"] (IW CS):=by
 refine F.ok tW (fun vs H Q E h=>?_) (fun bq A' outer s' H vs Q E hr h=>?_)
 ·obtain⟨A,n,c,N,M,s,q,y,e,b,u,qC,rfl,_⟩:=h;rfl
 ·obtain⟨A,n,c,N,M,s,q,y,e,b,u,qC,rfl,R,hM,hy,Cp,lQ,iL,ke,hb,k⟩:=h;have hu:=eF hr;refine⟨_,aO (wd hu (br (pv 0) rfl) (pv 1) (pv 1) rfl)
   (aO (wd hu (br (pv 0) rfl) (pv 1) (pv 3) rfl)
   (aO (wd hu (br (pv 0) rfl) (pv 1) (pv 2) rfl)
   (bh (gT (ez (pv 0) T.cl mA GA hr bA .nil aC (ao (pv 1) (ao (pv 4) aE))))))),?_⟩
  obtain⟨k1,a1,b1,l1⟩:=R.bas;obtain⟨k2,a2,b2,l2⟩:=R.cby;obtain⟨k3,a3,b3,l3⟩:=R.cfr;obtain⟨k4,a4,b4,l4⟩:=R.trn;obtain⟨ts,a5,b5⟩:=R.wat;have nd:=R.nd;simp only [lA,bw,ik,or_false,b9]at nd;obtain⟨⟨n1,n2,n3,n4⟩,⟨n5,n6,n7⟩,⟨n8,n9⟩,Aa,_⟩:=nd;have o1:=az R.obj a1 (by intro z;cases z)
  have o2:=az R.obj a2 (by intro z;cases z)
  have o3:=az R.obj a3 (by intro z;cases z)
  have qO:∀ {z},s.re z->z≠y:=fun h q=>Cp (q ▸ h);refine⟨_,rfl,_,rfl,A.sr,CS,A.dx,_,_,rfl,R.obj,T.cl,T.nb,rF _ _,_,rfl,A.db,_,rfl,DPut.k (k:=.inl (y:Int)) a1 (by rw [ak];omega),?_⟩
  have QA:upd H A.db (.dK (aG k1 (.inl (y:Int)) (.int (y:Int)))) A.sr=some (.ins CS A.dx (A.flds c)):=by rw [aj o1];exact R.obj
  have h1c:upd H A.db (.dK (aG k1 (.inl (y:Int)) (.int (y:Int)))) A.cb=some (.dK k2):=by rw [aj (Ne.symm n1)];exact a2
  refine⟨_,rfl,_,rfl,A.sr,CS,A.dx,_,_,rfl,QA,T.cl,T.ny,Oi _ _,_,rfl,A.cb,_,rfl,DPut.k (k:=.inl (y:Int)) h1c (by rw [ak];omega),?_⟩
  have h2o:upd (upd H A.db (.dK (aG k1 (.inl (y:Int)) (.int (y:Int))))) A.cb (.dK (aG k2 (.inl (y:Int)) (.int (e:Int)))) A.sr=some (.ins CS A.dx (A.flds c)):=by rw [aj o2];exact QA
  have h2c:upd (upd H A.db (.dK (aG k1 (.inl (y:Int)) (.int (y:Int))))) A.cb (.dK (aG k2 (.inl (y:Int)) (.int (e:Int)))) A.cf=some (.dK k3):=by rw [aj (Ne.symm n5),aj (Ne.symm n2)];exact a3
  refine⟨_,rfl,_,rfl,A.sr,CS,A.dx,_,_,rfl,h2o,T.cl,T.nf,NS _ _,_,rfl,A.cf,_,rfl,DPut.k (k:=.inl (y:Int)) h2c (by rw [ak];omega),?_⟩
  generalize lP:upd (upd (upd H A.db (.dK (aG k1 (.inl (y:Int)) (.int (y:Int))))) A.cb (.dK (aG k2 (.inl (y:Int)) (.int (e:Int))))) A.cf (.dK (aG k3 (.inl (y:Int)) (.int b)))=H3;have keep:∀ {a:Addr}{o:HO},H a=some o->a≠A.db->a≠A.cb->a≠A.cf->H3 a=some o:=fun{a o} e' m1 m2 m3=>by rw [<-lP,aj m3,aj m2,aj m1];exact e'
  have fr:Frm A H H3:=by rw [<-lP];exact(((Frm.refl A H).upd (by simp)).upd (by simp)).upd (by simp)
  have R3:Rep CS n H3 A c { put s y e qC u with tn:=s.tn } q N (M+1):=by
   refine⟨keep R.obj o1 o2 o3,⟨aG k1 (.inl (y:Int)) (.int (y:Int)),?_,⟨?_,fun x hx=>?_,fun x hx=>?_⟩,?_⟩,⟨aG k2 (.inl (y:Int)) (.int (e:Int)),?_,fun x hx=>?_,?_⟩,⟨aG k3 (.inl (y:Int)) (.int b),?_,fun x hx=>?_,?_⟩,⟨k4,keep a4 (Ne.symm n3) (Ne.symm n6) (Ne.symm n8),b4,l4⟩,
    ⟨ts,keep a5 (Ne.symm n4) (Ne.symm n7) (Ne.symm n9),b5.same fun d xs z=>keep z (az z a1 (by intro z;cases z)) (az z a2 (by intro z;cases z)) (az z a3 (by intro z;cases z))⟩,R.qle,R.bud,by omega,R.nn,R.nd⟩
   ·rw [<-lP,aj n2,aj n1,Z2j]
   ·rw [iF,ac (by rw [jO];omega)];exact b1.mid
   ·by_cases z:x=y
    ·subst z;refine⟨x,by rw [iF,ae rfl],.inr rfl,rfl,⟨fun _=>ae rfl,fun _=>rfl⟩,fun z=>absurd rfl z⟩
    ·have rx:s.re x:=hx.elim id fun z'=>absurd z' z;obtain⟨y1,v1,r1,e1,i1,lt1⟩:=b1.at_ x rx;refine⟨y1,by rw [iF,ac (by rw [jO];omega)];exact v1,.inl r1,?_,?_,?_⟩
     ·show(if y1=y then y else s.root y1)=if x=y then y else s.root x;rw [ac (qO r1),ac z];exact e1
     ·show y1=x↔(if x=y then y else s.root x)=x;rw [ac z];exact i1
     ·intro h';show(if y1=y then s.nx else s.rk y1)<if x=y then s.nx else s.rk x;rw [ac (qO r1),ac z];exact lt1 h'
   ·have nx:x≠y:=fun z=>hx (.inr z);rw [iF,ac (by rw [jO];omega)]
    exact b1.no x fun z=>hx (.inl z)
   ·have:=mL k1 (.inl (y:Int)) (.int (y:Int));omega
   ·rw [<-lP,aj n5,Z2j]
   ·show _=some (V.int ((if x=y then e else s.cb x:Nat):Int));by_cases z:x=y
    ·rw [ae z,z,iF,ae rfl]
    ·rw [ac z,iF,ac (by rw [jO];omega)]
     exact b2 x (hx.elim id fun z'=>absurd z' z)
   ·have:=mL k2 (.inl (y:Int)) (.int (e:Int));omega
   ·rw [<-lP,Z2j]
   ·by_cases z:x=y
    ·rw [z,iF,ae rfl];unfold MX.cfI;show _=some (V.int (match (if y=y then qC else s.cf y)with |none=>-1 |some w=>(w:Int)))
     rw [ae rfl,hb]
    ·rw [iF,ac (by rw [jO];omega)]
     have:=b3 x (hx.elim id fun z'=>absurd z' z);unfold MX.cfI at this ⊢;show _=some (V.int (match (if x=y then qC else s.cf x)with |none=>-1 |some w=>(w:Int)))
     rw [ac z];exact this
   ·have:=mL k3 (.inl (y:Int)) (.int b);omega
  have hn:¬ s.tn y u:=fun z=>Cp (lQ y u z);refine⟨_,rfl,A.sr,A.dx,_,rfl,R3.obj,jk,_,rfl,_,rfl,A,n,c,N,M+1,_,q,y,u,rfl,R3,hy,ke,fun H4 q4 N4 f4 R4 _ zV _=>?_⟩;obtain⟨hq5,J0⟩:=zV hn;refine k H4 q4 N4 (fr.trans f4) (R4.congr rfl rfl rfl rfl rfl rfl) J0 ⟨[(y,u)],hq5,fun z v=>?_,fun p hp=>by rw [du.mp hp];exact hn,by simp⟩
  show s.tn z v\/(z=y/\v=u)↔_;simp
end
end BK
end
section
namespace MX
theorem Zbx{up:Nat->Option Nat}:∀ {C:List Nat}{b z z':Nat},Path up b C (some z)->up z=some z'->(∀ w∈C++[z],w≠z')->Path up b (C++[z]) (some z')
 |[],b,z,z',h,hu,hn=>by
  have e:b=z:=by cases h with |nil=>rfl
  subst e;exact .step b z' [] _ hu (fun q=>hn b (by simp) (Option.some.inj q)) (.nil _)
 |y::C,b,z,z',h,hu,hn=>by
  cases h with
  |step _ x _ _ hx bV hp=>exact .step _ x _ _ hx (fun q=>hn _ (by simp) (Option.some.inj q)) (Zbx hp hu fun w hw=>hn w (by rw [E6];exact dk _ hw))
theorem ZbA{up:Nat->Option Nat}:∀ {C:List Nat}{b z:Nat},Path up b C (some z)->up z=none->Path up b (C++[z]) none
 |[],b,z,h,hu=>by
  have e:b=z:=by cases h with |nil=>rfl
  subst e;exact .top b hu
 |y::C,b,z,h,hu=>by
  cases h with
  |step _ x _ _ hx bV hp=>exact .step _ x _ _ hx (fun q=>by cases q) (ZbA hp hu)
end MX
namespace BK
open PySem PySem.Spec PyProof.Rows L2 EX RD LM
def pI:Option Nat->Int
 |none=>-1
 |some z=>z
theorem wo{p:Option Nat}:pI p=-1↔p=none:=by
 cases p with
 |none=>exact⟨fun _=>rfl,fun _=>rfl⟩
 |some z=>refine⟨fun h=>?_,fun h=>by cases h⟩;have h:(z:Int)=-1:=h;omega
def ei(C:List Nat)(p:Option Nat):List Nat:=C++p.toList
def Meet(s:MX.S)(b o:Nat)(r:Int)(C D:List Nat):Prop:=(∀ z,z∈C->z∉D)/\((r=-1/\MX.Path s.up b C none/\MX.Path s.up o D none)\/∃ m:Nat,r=m/\MX.Path s.up b C (some m)/\MX.Path s.up o D (some m))
theorem Meet.symm{s:MX.S}{b o:Nat}{r:Int}{C D:List Nat}(h:Meet s b o r C D):Meet s o b r D C:=
 ⟨fun z a b=>h.1 z b a,h.2.elim (fun⟨a,b,c⟩=>.inl ⟨a,c,b⟩) fun⟨m,a,b,c⟩=>.inr ⟨m,a,c,b⟩⟩
section
variable{P:Program}{w:World}{K:aq}{mg:Str->Option Value}{base:Heap}{CS:Addr}
def qe(CS:Addr):Sp:=fun vs H Q _=>∃ (A:SA)(n c N M:Nat)(s:MX.S)(q:List (Nat×Int))(G:MX.Gr)(T:Int)(b o:Nat),vs=[.ref A.sr,.int (b:Int),.int (o:Int)]/\Rep CS n H A c s q N M/\s.Ok G c T/\s.nx<=400 /\
 s.re b/\s.root b=b/\s.re o/\s.root o=o/\b≠o/\∀ H' r C D,Frm A H H'->Rep CS n H' A c s q N M->Meet s b o r C D->Q (.int r) H'
theorem ib:cX ["self","base","other","passed","before"] ["self","base","other"] (bo Hv):=⟨rfl,rfl,rfl,by decide +kernel,rfl,by decide +kernel,by decide +kernel⟩
def ph(s:MX.S)(x:Int):Nat:=if x=-1 then 0 else s.rk x.toNat+1
theorem Fh(s:MX.S)(z:Nat):ph s (pI (some z))=s.rk z+1:=by
 unfold ph;rw [ac (fun h=>by have:=wo.mp h;cases this)]
 rfl
theorem pi(s:MX.S):ph s (pI none)=0:=rfl
theorem Ov{p:Option Nat}(h:(!decide (V.int (pI p)=V.int (-1)))=true):p≠none:=fun z=>by rw [z]at h;simp [pI]at h
def tj(s:MX.S)(x y:Int):Nat:=2*(ph s x+ph s y)+if x=-1 then 1 else 0
theorem x8{f fB:Addr}{fd iH:FuncData}(F:Fun K "meeting_of" "Search.meeting_of" Hv f fd)(T:jX K mg CS)(GB:am P w K mg base CX0 2 fB iH ["self","base"] (pZ CS))(mB:aS K CS "base_before" fB)(bB:Binds K iH ["self","base"] []):
  am P w K mg base CX0 3 f fd ["self","base","other"] (qe CS):=by
 refine F.ok ib (fun vs H Q E h=>?_) (fun bq A' outer s' H vs Q E hr h=>?_)
 ·obtain⟨A,n,c,N,M,s,q,G,T',b,o,rfl,_⟩:=h;rfl
 ·obtain⟨A,n,c,N,M,s,q,G,T',b,o,rfl,R,ok,hnx,rb,bb,ro,oo,hbo,k⟩:=h;have hu:=eF hr;refine⟨_,aO (dj (i:=3) ib.nd rfl (Or.inl rfl) (IQ (Ba (pv 1) dG (Ba (pv 2) dG IS)) rfl rfl (by decide) (by decide)))
   (aO (Fq PassesOwn.never (PW.pt (jA (gr d5 (pv 1) (ay rfl T.md) (eT _)) (FI (gr d5 (pv 2) (ay rfl T.md) (eT _)))))
     (aO (dj (i:=4) ib.nd rfl (Or.inl rfl) (ez (pv 0) T.cl mB GB hr bB .nil aC (ao (pv 1) aE)))
     (aO (b8 (PW.pt (Bp (gr d5 (pv 4) (ay rfl T.md) (eT _)) (Fy (FE (yi hu (pv 4) (pv 3)))))) (bh (dL (pv 4))) io)
     (aO (wd hu (pv 3) (pv 4) dG rfl)
     (aO (dj (i:=1) ib.nd rfl (Or.inl rfl) (pv 2))
     (bh (dj (i:=2) ib.nd rfl (Or.inl rfl) (pv 4))))))))
   (bh (dL (ay rfl T.md)))),?_⟩
  intro pd kW;refine⟨_,rfl,_,rfl,Z2j,[(.inl (b:Int),.bl true),(.inl (o:Int),.bl true)],rfl,(by show 2<=15;decide),?_⟩
  rw [j4];have qK:zA [] [((.inl (b:Int):Key),V.bl true),(.inl (o:Int),.bl true)]=aG (aG [] (Sum.inl (b:Int):Key) (.bl true)) (Sum.inl (o:Int):Key) (.bl true):=rfl;rw [qK];generalize Cd:aG (aG [] (Sum.inl (b:Int):Key) (V.bl true)) (Sum.inl (o:Int):Key) (V.bl true)=kv0;have Lf:∀ z:Nat,(aL kv0 (.inl (z:Int))).isSome=true↔z∈ei [] (some b)\/z∈ei [] (some o):=fun z=>by
   rw [<-Cd,iF,iF,qt];simp only [ei,Option.toList,AF,du,jO];by_cases z1:(z:Int)=(o:Int)
   ·rw [ae z1];exact⟨fun _=>.inr (by omega),fun _=>rfl⟩
   ·rw [ac z1];by_cases z2:(z:Int)=(b:Int)
    ·rw [ae z2];exact⟨fun _=>.inl (by omega),fun _=>rfl⟩
    ·rw [ac z2];exact⟨fun h=>absurd h (by simp),fun h=>by omega⟩
  have len0:kv0.length<=2:=by
   have a:=mL (aG ([]:List (Key×V)) (.inl (b:Int)) (.bl true)) (.inl (o:Int)) (.bl true);have b':=mL ([]:List (Key×V)) (.inl (b:Int)) (.bl true);simp only [lB]at b';rw [<-Cd];omega
  have Rr:∀ {H':Hp}{kv:List (Key×V)},H' pd=some (.dK kv)->pd∉A.mut:=fun{H' kv} _ hm=>by
   simp only [bw,ik,or_false]at hm;obtain⟨_,a1,_⟩:=R.bas;obtain⟨_,a2,_⟩:=R.cby;obtain⟨_,a3,_⟩:=R.cfr;obtain⟨_,a4,_⟩:=R.trn;obtain⟨_,a5,_⟩:=R.wat;rcases hm with h |h |h |h |h<;>rw [h]at kW
   ·rw [a1]at kW;cases kW
   ·rw [a2]at kW;cases kW
   ·rw [a3]at kW;cases kW
   ·rw [a4]at kW;cases kW
   ·rw [a5]at kW;cases kW
  have Ru:∀ {x:Nat},s.re x->s.rk x<400:=fun h=>iD (ok.rkn _ h) hnx;refine Ji (fun σ H'=>∃ (b0 o0:Nat)(C D:List Nat)(p p':Option Nat)(kv:List (Key×V))(v:Option V),σ=[some (.ref A.sr),some (.int (pI p)),some (.int (pI p')),some (.ref pd),v]/\((b0=b/\o0=o)\/(b0=o/\o0=b)) /\
    Frm A H H'/\Rep CS n H' A c s q N M/\H' pd=some (.dK kv)/\(∀ z:Nat,(aL kv (.inl (z:Int))).isSome=true↔z∈ei C p\/z∈ei D p')/\MX.Path s.up b0 C p/\MX.Path s.up o0 D p'/\(∀ z,z∈ei C p->z∉ei D p') /\
    kv.length+tj s (pI p) (pI p')<=2000)
   (fun σ _=>match σ with |[_,some (.int x),some (.int y),_,_]=>tj s x y |_=>0)
   ⟨b,o,[],[],some b,some o,kv0,none,rfl,.inl ⟨rfl,rfl⟩,(Frm.refl _ _).new kW,R.new kW,Z2j,Lf,.nil _,.nil _,fun z h1 h2=>?_,?_⟩ ?_ ?_
  ·simp only [ei,Option.toList,AF,du]at h1 h2;omega
  ·have a:=Ru rb;have b':=Ru ro;unfold tj;rw [Fh,Fh,ac (fun z=>by have:=wo.mp z;cases this)]
   omega
  ·rintro σ H1 ⟨b0,o0,C,D,p,p',kv,v,rfl,va,fr,R1,hk,key,pC,pD,dis,bQ⟩;have gw:s.re b0/\s.root b0=b0/\s.re o0/\s.root o0=o0:=by
    rcases va with⟨rfl,rfl⟩ |⟨rfl,rfl⟩
    ·exact⟨rb,bb,ro,oo⟩
    ·exact⟨ro,oo,rb,bb⟩
   refine⟨_,rfl,rfl,_,rfl,bu (fun hc=>?_) (fun hc=>⟨_,rfl,rfl,_,rfl,bu (fun gN=>?_) (fun gN=>?_)⟩)⟩
   rotate_left 2
   ·
    have e1:p=none:=wo.mp (by simpa using hc)
    have e2:p'=none:=wo.mp (by simpa using gN)
    subst e1 e2;have hm:Meet s b0 o0 (-1) C D:=⟨fun z h1 h2=>dis z (by simpa [ei]using h1) (by simpa [ei]using h2),.inl ⟨rfl,pC,pD⟩⟩
    rcases va with⟨rfl,rfl⟩ |⟨rfl,rfl⟩
    ·exact k H1 (-1) C D fr R1 hm
    ·exact k H1 (-1) D C fr R1 hm.symm
   all_goals
    have bV:p≠none\/p'≠none:=by
     first
     |exact .inl (Ov hc)
     |exact .inr (Ov gN)
    have hb:∃ p2:Option Nat,uy s (pI p) (pI p2)/\(p=none->p2=none)/\∀ z,p=some z->s.up z=p2/\s.re z/\s.root z=z:=by
     cases hp:p with
     |none=>exact⟨none,.inl ⟨rfl,rfl⟩,fun _=>rfl,fun z h=>by cases h⟩
     |some z =>
      rw [hp]at pC;obtain⟨_,a2⟩:=MX.Z6K ok pC gw.1 gw.2.1;obtain⟨c1,c2,_⟩:=a2 z rfl;refine⟨s.up z,.inr ⟨z,rfl,c1,fun w hw=>(ok.tree z w c1 hw).1,?_⟩,fun h=>(by cases h),fun z' h=>by cases h;exact⟨rfl,c1,c2⟩⟩
      cases s.up z<;>rfl
    obtain⟨p2,Kc,Ck,xb⟩:=hb;refine⟨_,rfl,A.sr,A.dx,_,rfl,R1.obj,jk,_,rfl,A,n,c,N,M,s,q,pI p,pI p2,rfl,R1,Kc,fun H2 f2 R2=>?_⟩;have jw:H2 pd=some (.dK kv):=f2 _ _ hk (Rr hk);have wF:∀ z∈ei C p,z∉ei D p':=dis;have vI:∀ z2,p2=some z2->z2∉ei C p/\MX.Path s.up b0 (ei C p) (some z2):=fun z2 e=>by
     cases hp:p with
     |none=>rw [Ck hp]at e;cases e
     |some z =>
      obtain⟨e1,r1,r2⟩:=xb z hp;rw [e]at e1;obtain⟨a1,a2,a3⟩:=MX.up_lt ok r1 e1;rw [hp]at pC;obtain⟨q1,q2⟩:=MX.Z6K ok pC gw.1 gw.2.1;obtain⟨_,_,_,q3⟩:=q2 z rfl;have lt:∀ w∈C++[z],s.rk z2<s.rk w:=fun w hw=>by
       rcases dz.mp hw with h |h
       ·exact qv a3 (q3 w h)
       ·rw [du.mp h];exact a3
      exact⟨fun h=>il _ (lt z2 h),MX.Zbx pC e1 fun w hw z'=>by have:=lt w hw;rw [z']at this;exact il _ this⟩
    have Eg:p2=none->MX.Path s.up b0 (ei C p) none:=fun e=>by
     cases hp:p with
     |none=>rw [hp]at pC;simpa [ei]using pC
     |some z =>
      obtain⟨e1,_,_⟩:=xb z hp;rw [hp]at pC;exact MX.ZbA pC (e1.trans e)
    have BQ:(∀ z2,p2=some z2->z2∉ei D p')->(∃ (b1 o1:Nat)(C1 D1:List Nat)(p1 DA:Option Nat)(Lh:List (Key×V))(v1:Option V),[some (V.ref A.sr),some (.int (pI p')),some (.int (pI p2)),some (.ref pd),some (.int (pI p2))]=[some (V.ref A.sr),some (.int (pI p1)),some (.int (pI DA)),some (.ref pd),v1]/\((b1=b/\o1=o)\/(b1=o/\o1=b)) /\
      Frm A H (upd H2 pd (.dK (aG kv (.inl (pI p2)) (.bl true))))/\Rep CS n (upd H2 pd (.dK (aG kv (.inl (pI p2)) (.bl true)))) A c s q N M/\upd H2 pd (.dK (aG kv (.inl (pI p2)) (.bl true))) pd=some (.dK Lh)/\(∀ z:Nat,(aL Lh (.inl (z:Int))).isSome=true↔z∈ei C1 p1\/z∈ei D1 DA)/\MX.Path s.up b1 C1 p1/\MX.Path s.up o1 D1 DA/\(∀ z,z∈ei C1 p1->z∉ei D1 DA) /\
      Lh.length+tj s (pI p1) (pI DA)<=2000)/\tj s (pI p') (pI p2)<tj s (pI p) (pI p'):=fun Ci=>by
     have ms:tj s (pI p') (pI p2)<tj s (pI p) (pI p'):=by
      unfold tj;have h1:ph s (pI p2)<=ph s (pI p)/\(p≠none->ph s (pI p2)<ph s (pI p)):=by
       cases hp:p with
       |none=>rw [Ck hp];exact⟨bO _,fun h=>absurd rfl h⟩
       |some z =>
        obtain⟨e1,r1,_⟩:=xb z hp;have hz:=Fh s z;have:ph s (pI p2)<ph s (pI (some z)):=by
         rw [hz];cases e2:p2 with
         |none=>rw [pi];omega
         |some z2 =>
          rw [e2]at e1;have:=(MX.up_lt ok r1 e1).2.2;rw [Fh];omega
        exact⟨vT this,fun _=>this⟩
      by_cases hp:p=none
      ·have w9:p'≠none:=bV.elim (fun z=>absurd hp z) id;rw [ac (fun z=>w9 (wo.mp z)),ae (wo.mpr hp)];omega
      ·have:=h1.2 hp;rw [ac (fun z=>hp (wo.mp z))];split<;>omega
     refine⟨⟨o0,b0,D,ei C p,p',p2,aG kv (.inl (pI p2)) (.bl true),_,rfl,va.elim (fun⟨a,b⟩=>.inr ⟨b,a⟩) fun⟨a,b⟩=>.inl ⟨b,a⟩,fun x ob e hx=>?_,?_,Z2j,fun z=>?_,pD,?_,fun z h1 h2=>?_,?_⟩,ms⟩
     ·rw [aj (ba e kW)];exact(fr.trans f2) x ob e hx
     ·
      obtain⟨k1,a1,b1,l1⟩:=R2.bas;obtain⟨k2,a2,b2,l2⟩:=R2.cby;obtain⟨k3,a3,b3,l3⟩:=R2.cfr;obtain⟨k4,a4,b4,l4⟩:=R2.trn;obtain⟨ts,a5,b5⟩:=R2.wat;have np:=Rr hk;simp only [bw,ik,or_false,b9]at np;obtain⟨m1,m2,m3,m4,m5⟩:=np;have keep:∀ {a:Addr}{ob:HO},H2 a=some ob->a≠pd->upd H2 pd (.dK (aG kv (.inl (pI p2)) (.bl true))) a=some ob:=fun e h=>by rw [aj h];exact e
      exact⟨keep R2.obj (az R2.obj jw (by intro z;cases z)),⟨k1,keep a1 (Ne.symm m1),b1,l1⟩,⟨k2,keep a2 (Ne.symm m2),b2,l2⟩,⟨k3,keep a3 (Ne.symm m3),b3,l3⟩,⟨k4,keep a4 (Ne.symm m4),b4,l4⟩,⟨ts,keep a5 (Ne.symm m5),b5.same fun d xs e=>keep e (az e jw (by intro z;cases z))⟩,R2.qle,R2.bud,R2.mle,R2.nn,R2.nd⟩
     ·rw [iF];cases e2:p2 with
      |none =>
       rw [ac (by rw [jO];show ¬ (z:Int)=-1;omega),key z]
       simp only [ei,Option.toList,jZ];exact or_comm
      |some z2 =>
       have em:z∈ei (ei C p) (some z2)↔z∈ei C p\/z=z2:=by
        show z∈ei C p++[z2]↔_;rw [dz,du]
       rw [em];by_cases q1:z=z2
       ·rw [ae (by rw [jO,q1];rfl)]
        exact⟨fun _=>.inr (.inr q1),fun _=>rfl⟩
       ·rw [ac (by rw [jO];show ¬ (z:Int)=(z2:Int);omega),key z]
        constructor
        ·rintro(h |h)
         ·exact .inr (.inl h)
         ·exact .inl h
        ·rintro(h |h |h)
         ·exact .inr h
         ·exact .inl h
         ·exact absurd h q1
     ·cases e2:p2 with
      |none=>exact Eg e2
      |some z2=>exact(vI z2 e2).2
     ·cases e2:p2 with
      |none =>
       rw [e2]at h2;have h2:z∈ei C p:=by simpa [ei]using h2
       exact wF z h2 h1
      |some z2 =>
       rw [e2]at h2;rcases dz.mp (show z∈ei C p++[z2]from h2)with h |h
       ·exact wF z h h1
       ·rw [du.mp h]at h1;exact Ci z2 e2 h1
     ·have:=mL kv (.inl (pI p2)) (.bl true);omega
    have C9:kv.length<sizeLine:=by rw [ak];omega
    refine⟨_,rfl,rfl,_,rfl,bu (fun kQ=>?_) (fun kQ=>?_)⟩
    ·
     obtain⟨z2,e2⟩:∃ z2,p2=some z2:=by
      cases e2:p2 with
      |none=>rw [e2]at kQ;simp [pI]at kQ
      |some z2=>exact⟨z2,rfl⟩
     refine⟨_,rfl,_,rfl,pd,_,rfl,DGet.k (k:=.inl (pI p2)) jw,_,rfl,bu (fun qI=>?_) (fun qI=>?_)⟩
     ·
      rw [e2]at qI;have mq:=(key z2).mp qI;obtain⟨n1,Ga⟩:=vI z2 e2;have hD:z2∈ei D p':=mq.elim (fun h=>absurd h n1) id;have yr:∃ D1,MX.Path s.up o0 D1 (some z2)/\∀ x∈D1,x∈ei D p':=by
       cases w9:p' with
       |none =>
        rw [w9]at hD pD;have hD:z2∈D:=by simpa [ei]using hD
        have sp:∀ {L:List Nat}{x:Nat},MX.Path s.up x L none->s.re x->s.root x=x->z2∈L->∃ D1,MX.Path s.up x D1 (some z2)/\∀ y∈D1,y∈L:=fun{L}=>by
         induction L with
         |nil=>intro x h _ _ hz;simp at hz
         |cons y L ih =>
          intro x h hr hx hz;by_cases FS:x=z2
          ·subst FS;exact⟨[],.nil _,fun y hy=>by simp at hy⟩
          ·have CL:x=y:=by cases h<;>rfl
           subst CL;rcases(show(L=[])\/∃ x',s.up x=some x'/\MX.Path s.up x' L none by
            cases h with
            |top _ hu=>exact .inl rfl
            |step _ x' _ _ hu _ hp=>exact .inr ⟨x',hu,hp⟩)with hL |⟨x',hu,hp⟩
           ·rw [hL]at hz;simp at hz;exact absurd hz.symm FS
           ·
            obtain⟨a1,a2,a3⟩:=MX.up_lt ok hr hu;have vd:z2∈L:=(bw.mp hz).elim (fun h=>absurd h.symm FS) id;obtain⟨D1,d1,d2⟩:=ih hp a1 a2 vd;exact⟨x::D1,.step _ x' _ _ hu (fun q=>FS (Option.some.inj q)) d1,fun y hy=>(bw.mp hy).elim (fun h=>by rw [h];exact cZ ..) fun h=>dk _ (d2 y h)⟩
        obtain⟨D1,d1,d2⟩:=sp pD gw.2.2.1 gw.2.2.2 hD;exact⟨D1,d1,fun x hx=>by simpa [ei]using d2 x hx⟩
       |some y =>
        rw [w9]at hD pD;by_cases q1:z2=y
        ·subst q1;exact⟨D,pD,fun x hx=>jY _ hx⟩
        ·have j8:z2∈D:=by
          rcases dz.mp (show z2∈D++[y]from hD)with h |h
          ·exact h
          ·exact absurd (du.mp h) q1
         obtain⟨D1,D2,_,d1,_,d2,_⟩:=MX.Z4J ok pD gw.2.2.1 gw.2.2.2 j8;exact⟨D1,d1,fun x hx=>jY _ (d2 x hx)⟩
      obtain⟨D1,d1,d2⟩:=yr;have hm:Meet s b0 o0 (z2:Int) (ei C p) D1:=⟨fun z h1 h2=>wF z h1 (d2 z h2),.inr ⟨z2,rfl,Ga,d1⟩⟩;have e3:pI p2=(z2:Int):=by rw [e2];rfl
      refine⟨_,rfl,?_⟩;rw [e3];rcases va with⟨rfl,rfl⟩ |⟨rfl,rfl⟩
      ·exact k H2 _ _ _ (fr.trans f2) R2 hm
      ·exact k H2 _ _ _ (fr.trans f2) R2 hm.symm
     ·have Ci:∀ z,p2=some z->z∉ei D p':=fun z e h=>qI (by rw [e];exact(key z).mpr (.inr h))
      exact⟨_,rfl,_,rfl,pd,_,rfl,DPut.k (k:=.inl (pI p2)) jw C9,_,rfl,_,rfl,BQ Ci⟩
    ·have Ci:∀ z,p2=some z->z∉ei D p':=fun z e h=>kQ (by rw [e];simp [pI])
     exact⟨_,rfl,_,rfl,pd,_,rfl,DPut.k (k:=.inl (pI p2)) jw C9,_,rfl,_,rfl,BQ Ci⟩
  ·rintro σ H1 Q1 Q2 hq ⟨v,e,h1,b',e2,q'⟩;refine⟨v,e,h1,b',e2,?_⟩;cases b' with
   |true=>exact hq _ _ q'
   |false =>
    obtain⟨v,e,h1,b',e2,q'⟩:=q';exact⟨v,e,h1,b',e2,hq _ _ q'⟩
end
end BK
end
section
namespace BK
open PySem PySem.Spec PyProof.Rows L2 EX RD LM
open Classical in
def bg(s:MX.S)(Z:List Nat)(m:Nat):MX.S:={ s with root:=fun v=>if s.root v∈Z then m else s.root v,tn:=fun z u=>s.tn z u\/(z∈Z/\(u=1\/u=-1)) }
theorem Z8x(s:MX.S)(m:Nat):(bg s [] m).root=s.root:=by
 funext v
 unfold bg;dsimp only;rw [ac ik]
theorem NJ(s:MX.S)(m:Nat):(bg s [] m).tn=s.tn:=by
 funext z u
 refine propext ⟨fun h=>h.elim id fun h=>by simp at h,.inl⟩
section
variable{P:Program}{w:World}{K:aq}{mg:Str->Option Value}{base:Heap}{CS:Addr}
def qa(CS:Addr):Sp:=fun vs H Q _=>∃ (A:SA)(n c N M:Nat)(s:MX.S)(q:List (Nat×Int))(G:MX.Gr)(T:Int)(Z L:List Nat)(z m:Nat),vs=[.ref A.sr,.int (z:Int),.int (m:Int)]/\Rep CS n H A c (bg s Z m) q N M/\s.Ok G c T/\G.n=n /\
 MX.Path s.up z L (some m)/\s.re z/\s.root z=z/\(∀ x∈L,x∉Z)/\m∉Z/\∀ H' q' N',Frm A H H'->Rep CS n H' A c (bg s (Z++L) m) q' N' M->Ext (bg s Z m) q (bg s (Z++L) m) q'->N<=N'->Q .non H'
theorem kg:cX ["self","base","meeting","before"] ["self","base","meeting"] (bo HQ):=⟨rfl,rfl,rfl,by decide +kernel,rfl,by decide +kernel,by decide +kernel⟩
theorem xW{f fB fA:Addr}{fd iH gx:FuncData}(F:Fun K "fold" "Search.fold" HQ f fd)(T:jX K mg CS)(GB:am P w K mg base CX0 2 fB iH ["self","base"] (pZ CS))(mB:aS K CS "base_before" fB)(bB:Binds K iH ["self","base"] [])
  (GA:am P w K mg base CX0 2 fA gx ["self","atom"] (Ju CS))(mA:aS K CS "allow_both" fA)(bA:Binds K gx ["self","atom"] []):am P w K mg base CX0 3 f fd ["self","base","meeting"] (qa CS):=by
 refine F.ok kg (fun vs H Q E h=>?_) (fun bq A' outer s' H vs Q E hr h=>?_)
 ·obtain⟨A,n,c,N,M,s,q,G,T',Z,L,z,m,rfl,_⟩:=h;rfl
 ·obtain⟨A,n,c,N,M,s,q,G,T',Z,L,z,m,rfl,R,ok,hn,Ga,rz,zz,dis,mZ,k⟩:=h;have hu:=eF hr;refine⟨_,bh (Fq PassesOwn.never (gr d5 (pv 1) (pv 2) (eT _))
    (aO (dj (i:=3) kg.nd rfl (Or.inl rfl) (ez (pv 0) T.cl mB GB hr bB .nil aC (ao (pv 1) aE)))
    (aO (wd hu (br (pv 0) rfl) (pv 1) (pv 2) rfl)
    (aO (gT (ez (pv 0) T.cl mA GA hr bA .nil aC (ao (pv 1) aE)))
    (bh (dj (i:=1) kg.nd rfl (Or.inl rfl) (pv 3))))))),?_⟩
  obtain⟨pr1,pr2⟩:=MX.Z6K ok Ga rz zz;obtain⟨rm,mm,_,Lm⟩:=pr2 m rfl;refine Ji (fun σ H'=>∃ (x:Nat)(L1 L2:List Nat)(q':List (Nat×Int))(N':Nat)(v:Option V),σ=[some (.ref A.sr),some (.int (x:Int)),some (.int (m:Int)),v]/\L=L1++L2/\MX.Path s.up x L2 (some m)/\s.re x/\s.root x=x/\(∀ y∈L1,y∉L2) /\
    Frm A H H'/\Rep CS n H' A c (bg s (Z++L1) m) q' N' M/\Ext (bg s Z m) q (bg s (Z++L1) m) q'/\N<=N')
   (fun σ _=>match σ with |[_,some (.int x),_,_]=>s.rk x.toNat |_=>0)
   ⟨z,[],L,q,N,none,rfl,rfl,Ga,rz,zz,fun y hy=>by simp at hy,Frm.refl _ _,by rw [jZ];exact R,by rw [jZ];exact Ext.refl _ _,bO _⟩ ?_ ?_
  ·rintro σ H1 ⟨x,L1,L2,q1,N1,v,rfl,hL,px,rx,xx,d12,fr,R1,ex,hN⟩;refine⟨_,rfl,_,rfl,rfl,_,rfl,bu (fun hc=>?_) (fun hc=>?_)⟩
   ·have zZ:x≠m:=fun e=>by simp [e]at hc
    obtain⟨x',L3,ke,zU,JY⟩:∃ x' L3,s.up x=some x'/\MX.Path s.up x' L3 (some m)/\L2=x::L3:=by
     cases px with
     |nil=>exact absurd rfl zZ
     |step _ x' L3 _ ke _ hp=>exact⟨x',L3,ke,hp,rfl⟩
    subst JY;obtain⟨rx',xx',lt'⟩:=MX.up_lt ok rx ke;obtain⟨nL3,_⟩:=MX.Z7Q ok rx xx ke zU;have xL:x∈L:=by rw [hL];simp
    have xZ:x∉Z++L1:=fun h=>by
     rcases dz.mp h with h |h
     ·exact dis x xL h
     ·exact d12 x h (cZ ..)
    have x'Z:x'∉Z++L1:=fun h=>by
     have hx':x'∈L3\/x'=m:=MX.Z3e zU;rcases hx' with h3 |h3
     ·rcases dz.mp h with h |h
      ·exact dis x' (by rw [hL];simp [h3]) h
      ·exact d12 x' h (dk _ h3)
     ·subst h3;rcases dz.mp h with h |h
      ·exact mZ h
      ·exact il _ (Lm x' (by rw [hL];exact jY _ h))
    have mZ1:m∉Z++L1:=fun h=>by
     rcases dz.mp h with h |h
     ·exact mZ h
     ·exact il _ (Lm m (by rw [hL];exact jY _ h))
    have hup:(bg s (Z++L1) m).up x=some x':=by
     unfold MX.S.up at ke ⊢;cases e:s.cf x with
     |none=>rw [e]at ke;cases ke
     |some w' =>
      rw [e]at ke;have e2:s.root w'=x':=Option.some.inj ke;show Option.map (bg s (Z++L1) m).root (s.cf x)=some x';rw [e];show some (if s.root w'∈Z++L1 then m else s.root w')=some x';rw [ac (by rw [e2];exact x'Z),e2]
    refine⟨_,rfl,A.sr,A.dx,_,rfl,R1.obj,jk,_,rfl,A,n,c,N1,M,_,q1,(x:Int),(x':Int),rfl,R1,.inr ⟨x,rfl,rx,fun w' hw=>(ok.tree x w' rx hw).1,by rw [hup]⟩,fun H2 f2 R2=>?_⟩
    obtain⟨ah,hb,B,hl⟩:=R2.bas;refine⟨_,rfl,_,rfl,A.sr,CS,A.dx,_,_,rfl,R2.obj,T.cl,T.nb,rF _ _,_,rfl,A.db,_,rfl,DPut.k (k:=.inl (x:Int)) hb (by rw [ak];have:=R2.mle;omega),?_⟩
    have Ag:∀ v,(bg s (Z++L1++[x]) m).root v=if (bg s (Z++L1) m).root v=x then m else(bg s (Z++L1) m).root v:=fun v=>by
     show(if s.root v∈Z++L1++[x]then m else s.root v)=if (if s.root v∈Z++L1 then m else s.root v)=x then m else(if s.root v∈Z++L1 then m else s.root v);by_cases h1:s.root v∈Z++L1
     ·rw [ae (jY _ h1),ae h1,ac (fun e=>zZ e.symm)]
     ·rw [ac h1];by_cases h2:s.root v=x
      ·rw [ae (by rw [h2];simp),ae h2]
      ·rw [ac (fun h=>(dz.mp h).elim h1 fun h=>h2 (du.mp h)),ac h2]
    have Ry:(bg s (Z++L1) m).root x=x:=by
     show(if s.root x∈Z++L1 then m else s.root x)=x;rw [xx,ac xZ]
    have Rw:(bg s (Z++L1) m).root m=m:=by
     show(if s.root m∈Z++L1 then m else s.root m)=m;rw [mm,ac mZ1]
    have lmx:s.rk m<s.rk x:=Lm x xL;obtain⟨yx,vx,_⟩:=B.at_ x rx;have B2:Bas { bg s (Z++L1) m with root:=(bg s (Z++L1++[x]) m).root } (aG ah (.inl (x:Int)) (.int (m:Int))):=by
     refine⟨?_,fun y hy=>?_,fun y hy=>?_⟩
     ·rw [iF,ac (by rw [jO];omega)];exact B.mid
     ·by_cases e:y=x
      ·subst e;refine⟨m,by rw [iF,ae rfl],rm,?_,?_,fun _=>lmx⟩
       ·show(bg s (Z++L1++[y]) m).root m=(bg s (Z++L1++[y]) m).root y;rw [Ag,Ag,Rw,Ry,ac (fun e=>zZ e.symm),ae rfl]
       ·show m=y↔(bg s (Z++L1++[y]) m).root y=y;rw [Ag,Ry,ae rfl]
      ·obtain⟨y1,v1,r1,e1,i1,l1⟩:=B.at_ y hy;refine⟨y1,by rw [iF,ac (by rw [jO];omega)];exact v1,r1,?_,?_,l1⟩
       ·show(bg s (Z++L1++[x]) m).root y1=(bg s (Z++L1++[x]) m).root y;rw [Ag,Ag,e1]
       ·show y1=y↔(bg s (Z++L1++[x]) m).root y=y;rw [Ag];by_cases e2:(bg s (Z++L1) m).root y=x
        ·rw [ae e2];refine⟨fun h=>?_,fun h=>?_⟩
         ·have:=i1.mp h;rw [e2]at this;exact absurd this.symm e
         ·rw [<-h,Rw]at e2;exact absurd e2.symm zZ
        ·rw [ac e2];exact i1
     ·rw [iF,ac (by rw [jO];intro h;apply hy;have:y=x:=(by omega);rw [this];exact rx)]
      exact B.no y hy
    have R3:=R2.setBas B2 (by rw [Ox (by rw [vx];rfl)];exact hl) rfl rfl rfl rfl
    refine⟨_,rfl,A.sr,A.dx,_,rfl,R3.obj,jk,_,rfl,A,n,c,N1,M,_,q1,x,rfl,R3,by rw [<-hn];exact ok.rn x rx,fun H4 q4 N4 f4 R4 e4 J0=>?_⟩
    have Qo:(bg s (Z++L1++[x]) m).tn=(({ bg s (Z++L1) m with root:=(bg s (Z++L1++[x]) m).root }:MX.S).allow x 1 |>.allow x (-1)).tn:=by
     funext y u
     refine propext ⟨fun h=>?_,fun h=>?_⟩
     ·rcases h with h |⟨h,ee⟩
      ·exact .inl (.inl (.inl h))
      ·rcases dz.mp h with h |h
       ·exact .inl (.inl (.inr ⟨h,ee⟩))
       ·have h:=du.mp h;rcases ee with ee |ee
        ·exact .inl (.inr ⟨h,ee⟩)
        ·exact .inr ⟨h,ee⟩
     ·rcases h with((h |⟨h,ee⟩) |⟨h,ee⟩) |⟨h,ee⟩
      ·exact .inl h
      ·exact .inr ⟨jY _ h,ee⟩
      ·exact .inr ⟨by rw [h];simp,.inl ee⟩
      ·exact .inr ⟨by rw [h];simp,.inr ee⟩
    have R5:Rep CS n H4 A c (bg s (Z++L1++[x]) m) q4 N4 M:=R4.congr rfl rfl rfl rfl rfl Qo;refine⟨_,rfl,⟨x',L1++[x],L3,q4,N4,_,rfl,by rw [hL];simp,zU,rx',xx',fun y hy h3=>?_,((fr.trans f2).upd (by simp)).trans f4,by rw [<-List.append_assoc];exact R5,?_,iE hN J0⟩,?_⟩
    ·rcases dz.mp hy with h |h
     ·exact d12 y h (dk _ h3)
     ·rw [du.mp h]at h3;exact nL3 h3
    ·rw [<-List.append_assoc];refine ex.trans (Ext.tn ?_ Qo);obtain⟨r,a1,a2,a3⟩:=e4;exact⟨r,a1,a2,a3⟩
    ·show s.rk ((x':Int)).toNat<s.rk ((x:Int)).toNat;simpa using lt'
   ·have zZ:x=m:=by
     have:(x:Int)=(m:Int):=by simpa using hc
     omega
    subst zZ;have JY:L2=[]:=by
     cases px with
     |nil=>rfl
     |step _ _ _ _ _ bV _=>exact absurd rfl bV
    subst JY;rw [jZ]at hL;subst hL;exact k H1 q1 N1 fr R1 ex hN
  ·rintro σ H1 Q1 Q2 hq ⟨v,e,v2,e2,h1,b',e3,q'⟩;exact⟨v,e,v2,e2,h1,b',e3,hq _ _ q'⟩
end
end BK
end
section
namespace BK
open PySem PySem.Spec PyProof.Rows L2 EX RD LM
def wf(e y:Int)(d:Addr):List (Str×V):=[("bond",.int e),("other",.int y),("rooms",.ref d)]
theorem Ja(e y:Int)(d:Addr):(wf e y d).lookup ("bond":Str)=some (.int e):=by
 unfold wf;rw [bi,show(("bond":Str)=="bond")=true by decide]
theorem Fo(e y:Int)(d:Addr):(wf e y d).lookup ("other":Str)=some (.int y):=by
 unfold wf;rw [bi,show(("other":Str)=="bond")=false by decide,bi,show(("other":Str)=="other")=true by decide]
theorem Fl(e y:Int)(d:Addr):(wf e y d).lookup ("rooms":Str)=some (.ref d):=by
 unfold wf;rw [bi,show(("rooms":Str)=="bond")=false by decide,bi,show(("rooms":Str)=="other")=false by decide,bi,show(("rooms":Str)=="rooms")=true by decide]
def WayAt(CW:Addr)(H:Hp)(r:Addr)(e y:Nat)(o:Int):Prop:=∃ dx d ah,H r=some (.ins CW dx (wf e y d))/\H d=some (.dK ah)/\aL ah (.inl 1)=some (.int (3-o))/\aL ah (.inl (-1))=some (.int (o-1))
def WayOff(CW:Addr)(A:SA)(H:Hp)(r:Addr):Prop:=r∉A.mut/\∀ dx fs d,H r=some (.ins CW dx fs)->fs.lookup ("rooms":Str)=some (.ref d)->d∉A.mut
theorem WayAt.frm{CW:Addr}{A:SA}{H H':Hp}{r:Addr}{e y:Nat}{o:Int}(h:WayAt CW H r e y o)(f:Frm A H H')(w:WayOff CW A H r):WayAt CW H' r e y o:=by
 obtain⟨dx,d,ah,a,b,c1,c2⟩:=h;exact⟨dx,d,ah,f _ _ a w.1,f _ _ b (w.2 dx _ d a (Fl _ _ _)),c1,c2⟩
theorem WayAt.room{G:MX.Gr}{ah:List (Key×V)}{e:Nat}{t:Int}(h1:aL ah (.inl 1)=some (.int (3-(G.bd e).o)))(h2:aL ah (.inl (-1))=some (.int ((G.bd e).o-1)))(ht:t=1\/t=-1):aL ah (.inl t)=some (.int (G.room t e)):=by
 unfold MX.Gr.room;rcases ht with rfl |rfl
 ·rw [ae rfl];exact h1
 ·rw [ac (by decide)];exact h2
structure TW(K:aq)(CW:Addr):Prop where
 cl:Cls K CW
 nb:NoAttr K CW "bond"
 no:NoAttr K CW "other"
 nr:NoAttr K CW "rooms"
structure qT(G:MX.Gr)(n c:Nat)(T:Int)(s:MX.S)(N M:Nat):Prop where
 ok:s.Ok G c T
 gok:G.Ok
 gn:G.n=n
 cm:c<G.m
 co:(G.bd c).o=2
 hT:T=1\/T=-1
 mn:M<=N+2
 nx:s.nx<=N
section
variable{P:Program}{w:World}{K:aq}{mg:Str->Option Value}{base:Heap}{CS CW:Addr}
def PR(CS CW:Addr):Sp:=fun vs H Q _=>∃ (A:SA)(n c N M:Nat)(s:MX.S)(q:List (Nat×Int))(G:MX.Gr)(T:Int)(x y e:Nat)(t:Int)(wr:Addr),vs=[.ref A.sr,.int (x:Int),.int t,.ref wr]/\Rep CS n H A c s q N M/\qT G n c T s N M /\
 WayAt CW H wr e y (G.bd e).o/\WayOff CW A H wr/\s.tn x t/\e<G.m/\e≠c/\MX.Jn (G.bd e) x y/\0<G.room t e/\¬ s.dn x t e /\
 (∀ H',Frm A H H'->(∃ δ,G.Chg δ/\δ c=T)->Q (.bl true) H') /\
 ∀ H' s' q' N' M',Frm A H H'->Rep CS n H' A c s' q' N' M'->qT G n c T s' N' M'->Ext s q s' q'->(∀ z u f,s'.dn z u f↔s.dn z u f\/(z=x/\u=t/\f=e))->Q (.bl false) H'
theorem fD:cX ["self","atom","turn","way","base","other_base","used_up","meeting"] ["self","atom","turn","way"] (bo HC):=⟨rfl,rfl,rfl,by decide +kernel,rfl,by decide +kernel,by decide +kernel⟩
theorem tD{f fR fB fM fF fA:Addr}{fd BE iH uZ Qy gx:FuncData}(F:Fun K "closes" "Search.closes" HC f fd)(T:jX K mg CS)(W:TW K CW)
  (GR:am P w K mg base CX0 2 fR BE ["self","atom","before","bond","turn"] (IW CS))(mR:aS K CS "reach" fR)(bR:Binds K BE ["self","atom","before","bond","turn"] [])
  (GB:am P w K mg base CX0 1 fB iH ["self","atom"] (Js CS))(mB:aS K CS "base_of" fB)(bB:Binds K iH ["self","atom"] [])
  (GM:am P w K mg base CX0 3 fM uZ ["self","base","other"] (qe CS))(mM:aS K CS "meeting_of" fM)(bM:Binds K uZ ["self","base","other"] [])
  (GF:am P w K mg base CX0 3 fF Qy ["self","base","meeting"] (qa CS))(mF:aS K CS "fold" fF)(bF:Binds K Qy ["self","base","meeting"] [])
  (GA:am P w K mg base CX0 2 fA gx ["self","atom"] (Ju CS))(mA:aS K CS "allow_both" fA)(bA:Binds K gx ["self","atom"] []):
  am P w K mg base CX0 4 f fd ["self","atom","turn","way"] (PR CS CW):=by
 refine F.ok fD (fun vs H Q E h=>?_) (fun bq A' outer s' H vs Q E hr h=>?_)
 ·obtain⟨A,n,c,N,M,s,q,G,T',x,y,e,t,wr,rfl,_⟩:=h;rfl
 ·obtain⟨A,n,c,N,M,s,q,G,T',x,y,e,t,wr,rfl,R,S,hW,hO,tx,he,hec,hj,jx,wY,k1,k2⟩:=h;have hu:=eF hr;have eh:Room 2 _:=hr.mono (by decide)
  have iK:Room 1 _:=hr.mono (by decide)
  refine⟨_,aO (b8 (FE (IG hu (br (pv 3) rfl) (br (pv 0) rfl)))
    (aO (gT (ez (pv 0) T.cl mR GR eh bR .nil aC (ao (br (pv 3) rfl) (ao (pv 1) (ao (br (pv 3) rfl) (ao (lh FL (pv 2)) aE)))))) (bh (dL dG))) io)
   (aO (dj (i:=4) fD.nd rfl (Or.inl rfl) (ez (pv 0) T.cl mB GB iK bB .nil aC (ao (pv 1) aE)))
   (aO (dj (i:=5) fD.nd rfl (Or.inl rfl) (ez (pv 0) T.cl mB GB iK bB .nil aC (ao (br (pv 3) rfl) aE)))
   (aO (dj (i:=6) fD.nd rfl (Or.inl rfl) (Bj (wb iR (uQ hu (br (pv 0) rfl) (pv 4) (fun _ _=>rfl)) (br (pv 3) rfl) (eT _)) (FJ (wb iR (uQ hu (br (pv 3) rfl) (pv 2) (fun _ _=>rfl)) bz (eT _)))))
   (aO (b8 (PW.pt (jA (gr iR (pv 4) (pv 5) (eT _)) (jA (zF (pv 6)) (FI (FE (IG hu (qB (ao (br (pv 3) rfl) (ao (pv 2) aE))) (br (pv 0) rfl))))))) (bh (dL dG)) io)
   (aO (dj (i:=7) fD.nd rfl (Or.inl rfl) (ez (pv 0) T.cl mM GM hr bM .nil aC (ao (pv 4) (ao (pv 5) aE))))
   (aO (b8 (gr iR (pv 7) (ay rfl T.md) (eT _)) (bh (dL dG)) io)
   (aO (gT (ez (pv 0) T.cl mF GF hr bF .nil aC (ao (pv 4) (ao (pv 7) aE))))
   (aO (gT (ez (pv 0) T.cl mF GF hr bF .nil aC (ao (pv 5) (ao (pv 7) aE))))
   (aO (gT (ez (pv 0) T.cl mA GA eh bA .nil aC (ao (pv 7) aE)))
   (bh (dL dG))))))))))),?_⟩
  have rx:=(S.ok.tnr x t tx).1;have ht:=(S.ok.tnr x t tx).2;have small:=R.small;obtain⟨dw,dd,kw,qM,Q4,Q5,Q6⟩:=id hW;obtain⟨ah,hb,B,hl⟩:=R.bas;have yn:y<n:=by
   rw [<-S.gn];rcases hj with⟨_,z⟩ |⟨_,z⟩
   ·rw [<-z];exact S.gok.bn e he
   ·rw [<-z];exact S.gok.an e he
  refine⟨_,rfl,wr,CW,dw,_,_,rfl,qM,W.cl,W.no,Fo _ _ _,_,rfl,A.sr,CS,A.dx,_,_,rfl,R.obj,T.cl,T.nb,rF _ _,A.db,_,rfl,DGet.k (k:=.inl (y:Int)) hb,_,rfl,bu (fun hc=>?_) (fun hc=>?_)⟩
  ·
   have Cp:¬ s.re y:=fun z=>by
    obtain⟨y1,v1,_⟩:=B.at_ y z;rw [v1]at hc;cases hc
   refine⟨_,rfl,A.sr,A.dx,_,rfl,R.obj,jk,_,rfl,wr,CW,dw,_,_,rfl,qM,W.cl,W.no,Fo _ _ _,_,rfl,_,rfl,wr,CW,dw,_,_,rfl,qM,W.cl,W.nb,Ja _ _ _,_,rfl,_,rfl,
    A,n,c,N,M,s,q,y,e,(x:Int),-t,some x,rfl,R,by have:=S.mn;omega,yn,Cp,fun z v h=>(S.ok.tnr z v h).1,fun z h=>(S.ok.root z h).1,by omega,rfl,fun H1 q1 N1 f1 R1 hN1 e1=>?_⟩
   have okr:=MX.reach_ok S.ok S.gok tx he hec hj jx Cp;have R2:Rep CS n H1 A c (s.reach x y e t) q1 N1 (M+1):=R1.congr rfl rfl rfl rfl rfl rfl;exact k2 H1 (s.reach x y e t) q1 N1 (M+1) f1 R2 ⟨okr,S.gok,S.gn,S.cm,S.co,S.hT,by have:=S.mn;omega,by show s.nx+1<=N1;have:=S.nx;omega⟩ (Ext.tn e1 rfl) fun z u f=>Iff.rfl
  ·have ry:s.re y:=by
    by_cases z:s.re y
    ·exact z
    ·rw [B.no y z]at hc;exact absurd rfl hc
   refine⟨_,rfl,A.sr,A.dx,_,rfl,R.obj,jk,_,rfl,A,n,c,N,M,s,q,(x:Int),(s.root x:Int),rfl,R,.inr ⟨x,rfl,rx,rfl⟩,fun H1 f1 R1=>?_⟩;have BV:=hW.frm f1 hO;obtain⟨dw1,dd1,kw1,K5,hw12,hw13,hw14⟩:=id BV;have J4:WayOff CW A H1 wr:=⟨hO.1,fun dx fs d h1 h2=>hO.2 dx fs d (by
    have:=f1 _ _ qM hO.1;rw [this]at h1;cases h1;exact qM) h2⟩
   refine⟨_,rfl,A.sr,A.dx,_,rfl,R1.obj,jk,_,rfl,wr,CW,dw1,_,_,rfl,K5,W.cl,W.no,Fo _ _ _,A,n,c,N,M,s,q,(y:Int),(s.root y:Int),rfl,R1,.inr ⟨y,rfl,ry,rfl⟩,fun H2 f2 R2=>?_⟩;have hW2:=BV.frm f2 J4;obtain⟨JH,zJ,kw2,xp,K6,K7,K8⟩:=id hW2;obtain⟨k2c,c1,c2,c3⟩:=R2.cby;have rrx:=(S.ok.root x rx).1;have gcb:DGet H2 A.cb (.int (s.root x:Int)) (some (.int (s.cb (s.root x):Int))):=by rw [<-c2 _ rrx];exact DGet.k (k:=.inl (s.root x:Int)) c1
   have JU:DGet H2 zJ (.int t) (some (.int (G.room t e))):=by rw [<-WayAt.room K7 K8 ht];exact DGet.k (k:=.inl t) K6
   have Qt:=f1.trans f2;have stay:(s.root x=s.root y\/(s.cb (s.root x)=e/\G.room t e=1)\/¬ s.tn y t)->∀ H3,Frm A H2 H3->Rep CS n H3 A c s q N M->Q (.bl false) H3:=fun hh H3 f3 R3=>by
    have okm:=MX.mark_ok S.ok S.gok tx he hec hj jx ry hh;have R4:Rep CS n H3 A c (s.mark x e t) q N M:=R3.congr rfl rfl rfl rfl rfl rfl;exact k2 H3 (s.mark x e t) q N M (Qt.trans f3) R4 ⟨okm,S.gok,S.gn,S.cm,S.co,S.hT,S.mn,S.nx⟩ (Ext.tn (Ext.refl _ _) rfl) fun z u f=>Iff.rfl
   have KZ:decide (V.int (s.cb (s.root x):Int)=V.int (e:Int))=true->(decide (V.int (G.room t e)=V.int 1)=true↔(s.cb (s.root x)=e/\G.room t e=1)):=fun h=>by
    have h1:s.cb (s.root x)=e:=by have:=V.int.inj (ap h);omega
    rw [ag];exact⟨fun h=>⟨h1,V.int.inj h⟩,fun h=>by rw [h.2]⟩
   have K0:¬ decide (V.int (s.cb (s.root x):Int)=V.int (e:Int))=true->(false=true↔(s.cb (s.root x)=e/\G.room t e=1)):=fun h =>
    ⟨fun z=>absurd z (by decide),fun z=>absurd (ai (by rw [z.1])) h⟩
   refine⟨_,rfl,A.sr,CS,A.dx,_,_,rfl,R2.obj,T.cl,T.ny,Oi _ _,_,rfl,A.cb,_,rfl,gcb,_,rfl,wr,CW,JH,_,_,rfl,xp,W.cl,W.nb,Ja _ _ _,rfl,_,rfl,
    bu (fun fV=>⟨_,rfl,wr,CW,JH,_,_,rfl,xp,W.cl,W.nr,Fl _ _ _,_,rfl,zJ,_,rfl,JU,rfl,?_⟩) (fun fV=>?_)⟩
   all_goals
    first
    |have CG:=KZ fV
    |have CG:=K0 fV
    refine⟨_,rfl,_,rfl,rfl,_,rfl,bu (fun ha=>?_) (fun ha=>⟨_,rfl,_,rfl,bu (fun jS=>?_) (fun jS=>?_)⟩)⟩
    ·exact stay (.inl (by have:=V.int.inj (ap ha);omega)) H2 (Frm.refl _ _) R2
    ·exact stay (.inr (.inl (CG.mp jS))) H2 (Frm.refl _ _) R2
    have CJ:s.root x≠s.root y:=fun z=>ha (ai (by rw [z]))
    have KJ:¬ (s.cb (s.root x)=e/\G.room t e=1):=fun z=>jS (CG.mpr z);obtain⟨k4,d1,d2,d3⟩:=R2.trn;refine⟨_,rfl,wr,CW,JH,_,_,rfl,xp,W.cl,W.no,Fo _ _ _,_,rfl,(by show 2<=sizeLine;decide),fun u3 sR=>?_⟩
    have R3:=R2.new (o:=.tup [.int (y:Int),.int t]) sR;have f3:Frm A H2 (upd H2 u3 (.tup [.int (y:Int),.int t])):=(Frm.refl _ _).new sR;have Kg:upd H2 u3 (.tup [.int (y:Int),.int t]) A.tn=some (.dT k4):=by rw [aj (ba d1 sR)];exact d1
    refine⟨_,rfl,A.sr,CS,A.dx,_,_,rfl,R3.obj,T.cl,T.nt,Jb _ _,A.tn,_,rfl,DGet.t (k:=[.inl (y:Int),.inl t]) Kg Z2j,_,rfl,bu (fun qI=>?_) (fun qI=>?_)⟩
    ·refine stay (.inr (.inr fun z=>?_)) _ f3 R3;have:=(d2 y t).mpr z;rw [this]at qI;cases qI
    have ty:s.tn y t:=by
     refine(d2 y t).mp ?_;cases z:aL k4 [.inl (y:Int),.inl t]with
     |none=>rw [z]at qI;exact absurd rfl qI
     |some v=>rfl
    generalize upd H2 u3 (.tup [.int (y:Int),.int t])=H3 at R3 f3;have JL:=Qt.trans f3;have Gd:=S.ok.root x rx;have Ge:=S.ok.root y ry;refine⟨_,rfl,A.sr,A.dx,_,rfl,R3.obj,jk,_,rfl,_,rfl,A,n,c,N,M,s,q,G,T',s.root x,s.root y,rfl,R3,S.ok,by have:=S.nx;omega,Gd.1,Gd.2.1,Ge.1,Ge.2.1,CJ,fun H4 r C D f4 R4 hm=>?_⟩
    have Qv:=JL.trans f4;refine⟨_,rfl,rfl,_,rfl,bu (fun Kd=>?_) (fun Kd=>?_)⟩
    ·
     have er:r=-1:=V.int.inj (ap Kd);obtain⟨dis,hm⟩:=hm;rcases hm with⟨_,p1,p2⟩ |⟨m,z,_⟩
     ·exact k1 H4 Qv (MX.found S.ok S.gok S.cm S.co S.hT he hec hj jx tx ty p1 p2 dis)
     ·omega
    ·obtain⟨dis,hm⟩:=hm;rcases hm with⟨z,_⟩ |⟨m,rfl,p1,p2⟩
     ·exact absurd (ai (by rw [z])) Kd
     ·have Rg:MX.Ring s G c x y e t C D m:=⟨tx,ty,he,hec,hj,jx,p1,p2,dis⟩;obtain⟨m1,m2,m3,m4,m5,m6⟩:=MX.Z7l S.ok Rg;have R5:Rep CS n H4 A c (bg s [] m) q N M:=R4.congr rfl (Z8x s m) rfl rfl rfl (NJ s m);refine⟨_,rfl,A.sr,A.dx,_,rfl,R4.obj,jk,_,rfl,_,rfl,A,n,c,N,M,s,q,G,T',[],C,s.root x,m,rfl,R5,S.ok,S.gn,p1,Gd.1,Gd.2.1,fun z _ h=>by simp at h,by simp,fun H6 q6 N6 f6 R6 e6 hN6=>?_⟩
      rw [AF]at R6 e6;refine⟨_,rfl,A.sr,A.dx,_,rfl,R6.obj,jk,_,rfl,_,rfl,A,n,c,N6,M,s,q6,G,T',C,D,s.root y,m,rfl,R6,S.ok,S.gn,p2,Ge.1,Ge.2.1,fun z h1 h2=>dis z h2 h1,m3,fun H7 q7 N7 f7 R7 e7 hN7=>?_⟩;refine⟨_,rfl,A.sr,A.dx,_,rfl,R7.obj,jk,_,rfl,A,n,c,N7,M,_,q7,m,rfl,R7,by rw [<-S.gn];exact S.ok.rn m m1,fun H8 q8 N8 f8 R8 e8 hN8=>?_⟩
      have okf:=MX.fold_ok S.ok S.gok Rg CJ KJ wY;have er:(s.fold C D m x e t).root=(((bg s (C++D) m).allow m 1).allow m (-1)).root:=by
       funext v
       show(if s.root v∈C\/s.root v∈D then m else s.root v)=if s.root v∈C++D then m else s.root v;by_cases z:s.root v∈C\/s.root v∈D
       ·rw [ae z,ae (dz.mpr z)]
       ·rw [ac z,ac fun h=>z (dz.mp h)]
      have et:(s.fold C D m x e t).tn=(((bg s (C++D) m).allow m 1).allow m (-1)).tn:=by
       funext z u
       refine propext ⟨fun h=>?_,fun h=>?_⟩
       ·rcases h with h |⟨h |h |h,ee⟩
        ·exact .inl (.inl (.inl h))
        ·exact .inl (.inl (.inr ⟨jY _ h,ee⟩))
        ·exact .inl (.inl (.inr ⟨kq _ h,ee⟩))
        ·rcases ee with ee |ee
         ·exact .inl (.inr ⟨h,ee⟩)
         ·exact .inr ⟨h,ee⟩
       ·rcases h with((h |⟨h,ee⟩) |⟨h,ee⟩) |⟨h,ee⟩
        ·exact .inl h
        ·exact .inr ⟨(dz.mp h).imp_right .inl,ee⟩
        ·exact .inr ⟨.inr (.inr h),.inl ee⟩
        ·exact .inr ⟨.inr (.inr h),.inr ee⟩
      have R9:Rep CS n H8 A c (s.fold C D m x e t) q8 N8 M:=R8.congr rfl er rfl rfl rfl et;have ex:Ext s q (s.fold C D m x e t) q8:=by
       have a:Ext s q (bg s C m) q6:=by
        obtain⟨r,a1,a2,a3,a4⟩:=e6;rw [NJ]at a2 a3;exact⟨r,a1,a2,a3,a4⟩
       exact((a.trans e7).trans e8).tn et
      exact k2 H8 (s.fold C D m x e t) q8 N8 M (((Qv.trans f6).trans f7).trans f8) R9 ⟨okf,S.gok,S.gn,S.cm,S.co,S.hT,by have:=S.mn;omega,by show s.nx<=N8;have:=S.nx;omega⟩ ex fun z u f=>Iff.rfl
end
end BK
end
section
namespace MX
theorem ZbP{n:Nat}:∀ {r:List (Nat×Int)}{s s':S},(∀ x t,s'.tn x t↔s.tn x t\/(x,t)∈r)->(∀ p∈r,¬ s.tn p.1 p.2)->r.Nodup->(∀ p∈r,p.1<n/\(p.2=1\/p.2=-1))->miss s n=miss s' n+r.length
 |[],s,s',h,_,_,_=>by
  unfold miss;rw [Z4C (p:=fun x=>¬ s.tn x 1) (q:=fun x=>¬ s'.tn x 1) fun x _=>by rw [h];simp,Z4C (p:=fun x=>¬ s.tn x (-1)) (q:=fun x=>¬ s'.tn x (-1)) fun x _=>by rw [h];simp]
  rfl
 |(x,t)::r,s,s',h,hn,hd,hv=>by
  have hx:=hv (x,t) (cZ ..);rw [ZaT hx.1 hx.2 (hn (x,t) (cZ ..))];have:=ZbP (n:=n) (r:=r) (s:=s.allow x t) (s':=s') (fun z u=>?_) (fun p hp z=>?_) (lA.mp hd).2 (fun p hp=>hv p (dk _ hp))
  ·rw [this,gC];omega
  ·rw [h];show _↔(s.tn z u\/(z=x/\u=t))\/_;rw [bw,Prod.mk.injEq,or_assoc]
  ·rcases z with z |⟨z1,z2⟩
   ·exact hn p (dk _ hp) z
   ·have:p=(x,t):=by rw [<-z1,<-z2]
    rw [this]at hp;exact(lA.mp hd).1 hp
end MX
namespace L2
theorem uw{c:TT}{tb:TS}{D:dI}{σ:St}{H:Hp}(Pv:Nat->St->Hp->Prop)(m0:Nat)(h0:Pv m0 σ H)
  (hs:∀ m σ H,Pv m σ H->c σ H fun b H1=>if b=true then tb { D with nx:=fun σ' H'=>∃ m',m' < m/\Pv m' σ' H',ct:=fun σ' H'=>∃ m',m' < m/\Pv m' σ' H',bk:=D.nx } σ H1 else D.nx σ H1)
  (mono:∀ σ H Q Q',(∀ b H1,Q b H1->Q' b H1)->c σ H Q->c σ H Q'):Jk c tb D σ H:=by
 refine⟨Pv,⟨m0,h0⟩,fun m σ H p=>?_⟩;refine mono σ H _ _ (fun b H1 q=>?_) (hs m σ H p);cases b with
 |true=>exact⟨_,fun σ' H' z=>z,q⟩
 |false=>exact q
end L2
namespace BK
open PySem PySem.Spec PyProof.Rows L2 EX RD LM
structure Wys(CW:Addr)(A:SA)(G:MX.Gr)(H:Hp)(ls:List Addr)(ws:Nat->List Addr)(E:Nat->List (Nat×Nat)):Prop where
 top:H A.wl=some (.lst (ls.map V.ref))
 tof:A.wl∉A.mut
 len:ls.length=G.n
 row:∀ x l,ls[x]?=some l->H l=some (.lst ((ws x).map V.ref))/\l∉A.mut
 wln:∀ x,x<G.n->(ws x).length=(E x).length
 way:∀ (x j:Nat) r p,x<G.n->(ws x)[j]?=some r->(E x)[j]?=some p->WayAt CW H r p.1 p.2 (G.bd p.1).o/\WayOff CW A H r
 cov:∀ x e y,x<G.n->((e,y)∈E x↔e<G.m/\MX.Jn (G.bd e) x y)
 unq:∀ x,x<G.n->((E x).map (·.1)).Nodup
theorem WayOff.frm{CW:Addr}{A:SA}{H H':Hp}{r:Addr}{e y:Nat}{o:Int}(h:WayAt CW H r e y o)(f:Frm A H H')(w:WayOff CW A H r):WayOff CW A H' r:=by
 obtain⟨dx,d,ah,a,b,_⟩:=h;refine⟨w.1,fun eO u0 d' h1 h2=>?_⟩;rw [f _ _ a w.1]at h1;cases h1;exact w.2 dx _ d' a h2
theorem Wys.frm{CW:Addr}{A:SA}{G:MX.Gr}{H H':Hp}{ls:List Addr}{ws:Nat->List Addr}{E:Nat->List (Nat×Nat)}(h:Wys CW A G H ls ws E)(f:Frm A H H'):Wys CW A G H' ls ws E:=
 ⟨f _ _ h.top h.tof,h.tof,h.len,fun x l e=>⟨f _ _ (h.row x l e).1 (h.row x l e).2,(h.row x l e).2⟩,h.wln,fun x j r p hx e1 e2=>let z:=h.way x j r p hx e1 e2;⟨z.1.frm f z.2,z.2.frm z.1 f⟩,h.cov,h.unq⟩
section
variable{P:Program}{w:World}{K:aq}{mg:Str->Option Value}{base:Heap}{CS CW:Addr}
def qb(CS CW:Addr):Sp:=fun vs H Q _=>∃ (A:SA)(n c N M:Nat)(s:MX.S)(q:List (Nat×Int))(G:MX.Gr)(T:Int)(ls:List Addr)(ws:Nat->List Addr)(E:Nat->List (Nat×Nat))(x:Nat)(t:Int),vs=[.ref A.sr,.int (x:Int),.int t]/\Rep CS n H A c s q N M/\qT G n c T s N M /\
 Wys CW A G H ls ws E/\s.tn x t/\(∀ e,¬ s.dn x t e) /\
 (∀ H',Frm A H H'->(∃ δ,G.Chg δ/\δ c=T)->Q (.bl true) H') /\
 ∀ H' s' q' N' M',Frm A H H'->Rep CS n H' A c s' q' N' M'->qT G n c T s' N' M'->Ext s q s' q'->(∀ z u f,s'.dn z u f↔s.dn z u f\/(z=x/\u=t/\f≠c/\0<G.room t f/\f<G.m/\∃ y,MX.Jn (G.bd f) x y))->Q (.bl false) H'
theorem pQ:cX ["self","atom","turn","way"] ["self","atom","turn"] (bo Hh):=⟨rfl,rfl,rfl,by decide +kernel,rfl,by decide +kernel,by decide +kernel⟩
theorem xX{f fC:Addr}{fd BB:FuncData}(F:Fun K "goes_on" "Search.goes_on" Hh f fd)(T:jX K mg CS)(W:TW K CW)
  (GC:am P w K mg base CX0 4 fC BB ["self","atom","turn","way"] (PR CS CW))(mC:aS K CS "closes" fC)(bC:Binds K BB ["self","atom","turn","way"] []):am P w K mg base CX0 5 f fd ["self","atom","turn"] (qb CS CW):=by
 refine F.ok pQ (fun vs H Q E h=>?_) (fun bq A' outer s' H vs Q E' hr h=>?_)
 ·obtain⟨A,n,c,N,M,s,q,G,T',ls,ws,E,x,t,rfl,_⟩:=h;rfl
 ·obtain⟨A,n,c,N,M,s,q,G,T',ls,ws,E,x,t,rfl,R,S,Y,tx,wY,k1,k2⟩:=h;have hu:=eF hr;refine⟨_,aO (lI PassesOwn.never rfl (qy (dq qz (br (pv 0) rfl) (pv 1) (fun _ _=>rfl))) (eU (i:=3) pQ.nd rfl (Or.inl rfl))
    (bh (b8 (PW.pt (Bp (gr d5 (br (pv 3) rfl) (br (pv 0) rfl) (eT _)) (Bp (gr lf (uQ hu (br (pv 3) rfl) (pv 2) (fun _ _=>rfl)) bz (eT _)) (Fy (zF (ez (pv 0) T.cl mC GC hr bC .nil aC (ao (pv 1) (ao (pv 2) (ao (pv 3) aE)))))))))
      (bh (dL dG)) io)))
   (bh (dL dG)),?_⟩
  have rx:=(S.ok.tnr x t tx).1;have ht:=(S.ok.tnr x t tx).2;have xn:=S.ok.rn x rx;have lx:x<ls.length:=by rw [Y.len];exact xn
  obtain⟨r1,r2⟩:=Y.row x ls[x] (dv lx);have wl:=Y.wln x xn;refine⟨_,rfl,A.sr,CS,A.dx,_,_,rfl,R.obj,T.cl,T.nw,tY _ _,_,rfl,A.wl,_,_,.ref ls[x],rfl,rfl,SqL.of Y.top,qA (by rw [dQ,dv lx];rfl),ls[x],rfl,⟨_,SqL.of r1⟩,
   Fi (K:=K) (a:=ls[x]) (xs:=(ws x).map V.ref) (fun i σ H'=>∃ (v:Option V)(s1:MX.S)(q1:List (Nat×Int))(N1 M1:Nat),σ=[some (.ref A.sr),some (.int (x:Int)),some (.int t),v]/\Frm A H H'/\Rep CS n H' A c s1 q1 N1 M1/\qT G n c T' s1 N1 M1/\Ext s q s1 q1 /\
    ∀ z u f,s1.dn z u f↔s.dn z u f\/(z=x/\u=t/\f≠c/\0<G.room t f/\∃ y,(f,y)∈(E x).take i))
   ⟨none,s,q,N,M,rfl,Frm.refl _ _,R,S,Ext.refl _ _,fun z u f=>by simp⟩ (fun i σ H' _ h=>?_) ?_ ?_⟩
  ·obtain⟨v,s1,q1,N1,M1,_,fr,_⟩:=h;exact SqL.of (fr _ _ r1 r2)
  ·rintro i y σ H1 hi ⟨v,s1,q1,N1,M1,rfl,fr,R1,S1,ex,hd⟩;obtain⟨wr,hwr,rfl⟩:∃ wr,(ws x)[i]?=some wr/\y=V.ref wr:=by
    rw [dQ]at hi;cases e:(ws x)[i]? with
    |none=>rw [e]at hi;cases hi
    |some wr=>rw [e]at hi;exact⟨wr,rfl,(Option.some.inj hi).symm⟩
   have li:i<(E x).length:=by rw [<-wl];exact(eg.mp hwr).1
   have BS:(E x)[i]?=some (E x)[i]:=dv li;generalize (E x)[i]=p at BS;obtain⟨e,y⟩:=p;obtain⟨QG,QE⟩:=Y.way x i wr (e,y) xn hwr BS;have BV:=QG.frm fr QE;have J4:=QE.frm QG fr;obtain⟨dw,dd,kw,qM,Q4,Q5,Q6⟩:=id BV;have cov:=(Y.cov x e y xn).mp (gL BS);have JU:DGet H1 dd (.int t) (some (.int (G.room t e))):=by rw [<-WayAt.room Q5 Q6 ht];exact DGet.k (k:=.inl t) Q4
   have wZ:∀ y',(e,y')∉(E x).take i:=fun y' hm=>by
    have nd:=Y.unq x xn;obtain⟨j,hj⟩:=List.getElem?_of_mem hm;have hj1:=(eg.mp hj).1;rw [lX]at hj1;rw [List.getElem?_take_of_lt (by omega)]at hj
    have a1:((E x).map (·.1))[j]?=some e:=by rw [dQ,hj];rfl
    have a2:((E x).map (·.1))[i]?=some e:=by rw [dQ,BS];rfl
    have:=(List.getElem?_inj (i:=j) (j:=i) (by rw [aW];omega) nd).mp (a1.trans a2.symm)
    omega
   have KD:¬ s1.dn x t e:=fun z=>by
    rcases(hd x t e).mp z with z |⟨_,_,_,_,y',K9⟩
    ·exact wY e z
    ·exact wZ y' K9
   have tk:∀ (pp:Nat×Nat),pp∈(E x).take (i+1)↔pp∈(E x).take i\/pp=(e,y):=fun pp=>by
    rw [mK,BS,dz];simp
   have DZ:(e=c\/¬ 0<G.room t e)->∃ (v:Option V)(s2:MX.S)(q2:List (Nat×Int))(N2 M2:Nat),[some (V.ref A.sr),some (.int (x:Int)),some (.int t),some (.ref wr)]=[some (V.ref A.sr),some (.int (x:Int)),some (.int t),v]/\Frm A H H1/\Rep CS n H1 A c s2 q2 N2 M2/\qT G n c T' s2 N2 M2/\Ext s q s2 q2 /\
     ∀ z u f,s2.dn z u f↔s.dn z u f\/(z=x/\u=t/\f≠c/\0<G.room t f/\∃ y,(f,y)∈(E x).take (i+1)):=fun hh=>by
    refine⟨_,s1,q1,N1,M1,rfl,fr,R1,S1,ex,fun z u f=>?_⟩;rw [hd];refine⟨fun h=>h.imp_right fun⟨a,b,c1,d,y',h⟩=>⟨a,b,c1,d,y',(tk _).mpr (.inl h)⟩,fun h=>h.imp_right fun⟨a,b,c1,d,y',h⟩=>⟨a,b,c1,d,y',?_⟩⟩;rcases(tk _).mp h with h |h
    ·exact h
    ·injection h with h1 h2
     rw [h1]at c1 d;rcases hh with hh |hh
     ·exact absurd hh c1
     ·exact absurd d hh
   refine⟨_,rfl,wr,CW,dw,_,_,rfl,qM,W.cl,W.nb,Ja _ _ _,_,rfl,A.sr,CS,A.dx,_,_,rfl,R1.obj,T.cl,T.nc,yC _ _,rfl,_,rfl,bu (fun fV=>?_) (fun fV=>?_)⟩
   ·have hec:e≠c:=fun z=>by rw [z]at fV;simp at fV
    refine⟨_,rfl,wr,CW,dw,_,_,rfl,qM,W.cl,W.nr,Fl _ _ _,_,rfl,dd,_,rfl,JU,_,_,rfl,rfl,_,rfl,bu (fun gN=>?_) (fun gN=>?_)⟩
    ·have jx:0<G.room t e:=ap gN;have tx1:s1.tn x t:=by obtain⟨r,_,h,_⟩:=ex;exact(h x t).mpr (.inl tx)
     refine⟨_,rfl,A.sr,A.dx,_,rfl,R1.obj,jk,_,rfl,_,rfl,_,rfl,A,n,c,N1,M1,s1,q1,G,T',x,y,e,t,wr,rfl,R1,S1,BV,J4,tx1,cov.1,hec,cov.2,jx,KD,fun H2 f2 hδ=>?_,fun H2 s2 q2 N2 M2 f2 R2 S2 e2 d2=>?_⟩
     ·exact⟨_,rfl,k1 H2 (fr.trans f2) hδ⟩
     ·refine⟨_,rfl,_,s2,q2,N2,M2,rfl,fr.trans f2,R2,S2,ex.trans e2,fun z u f=>?_⟩;rw [d2,hd];constructor
      ·rintro((h |⟨a,b,c1,d,y',h⟩) |⟨rfl,rfl,rfl⟩)
       ·exact .inl h
       ·exact .inr ⟨a,b,c1,d,y',(tk _).mpr (.inl h)⟩
       ·exact .inr ⟨rfl,rfl,hec,jx,y,(tk _).mpr (.inr rfl)⟩
      ·rintro(h |⟨a,b,c1,d,y',h⟩)
       ·exact .inl (.inl h)
       ·rcases(tk _).mp h with h |h
        ·exact .inl (.inr ⟨a,b,c1,d,y',h⟩)
        ·injection h with h1 h2
         exact .inr ⟨a,b,h1⟩
    ·exact DZ (.inr fun z=>gN (ai z))
   ·exact DZ (.inl (by
     by_cases z:e=c
     ·exact z
     ·exact absurd (show _=true by simp;omega) fV))
  ·rintro σ H1 ⟨v,s1,q1,N1,M1,rfl,fr,R1,S1,ex,hd⟩;refine k2 H1 s1 q1 N1 M1 fr R1 S1 ex fun z u f=>?_;rw [hd,aW,wl,qx];refine or_congr Iff.rfl ⟨fun⟨a,b,c1,d,y,h⟩=>?_,fun⟨a,b,c1,d,e1,y,h⟩=>⟨a,b,c1,d,y,(Y.cov x f y xn).mpr ⟨e1,h⟩⟩⟩;have:=(Y.cov x f y xn).mp h;exact⟨a,b,c1,d,this.1,y,this.2⟩
end
section
variable{P:Program}{w:World}{K:aq}{mg:Str->Option Value}{base:Heap}{CS CW:Addr}
structure Wt(G:MX.Gr)(c:Nat)(s:MX.S)(q:List (Nat×Int)):Prop where
 nd:q.Nodup
 un:∀ p∈q,s.tn p.1 p.2/\∀ e,¬ s.dn p.1 p.2 e
 dn:∀ x t,s.tn x t->(x,t)∈q\/∀ e y,e<G.m->e≠c->MX.Jn (G.bd e) x y->0<G.room t e->s.dn x t e
def pY(CS CW:Addr):Sp:=fun vs H Q _=>∃ (A:SA)(n c N M:Nat)(s:MX.S)(q:List (Nat×Int))(G:MX.Gr)(T:Int)(ls:List Addr)(ws:Nat->List Addr)(E:Nat->List (Nat×Nat)),vs=[.ref A.sr]/\Rep CS n H A c s q N M/\qT G n c T s N M /\
 Wys CW A G H ls ws E/\Wt G c s q/\∀ (b:Bool) H',Frm A H H'->(b=true↔∃ δ,G.Chg δ/\δ c=T)->Q (.bl b) H'
theorem pO:cX ["self","state"] ["self"] (bo Hw):=⟨rfl,rfl,rfl,by decide +kernel,rfl,by decide +kernel,by decide +kernel⟩
theorem xT{f fG:Addr}{fd kK:FuncData}(F:Fun K "comes_back" "Search.comes_back" Hw f fd)(T:jX K mg CS)
  (GG:am P w K mg base CX0 5 fG kK ["self","atom","turn"] (qb CS CW))(mG:aS K CS "goes_on" fG)(bG:Binds K kK ["self","atom","turn"] []):am P w K mg base CX0 6 f fd ["self"] (pY CS CW):=by
 refine F.ok pO (fun vs H Q E h=>?_) (fun bq A' outer s' H vs Q E' hr h=>?_)
 ·obtain⟨A,n,c,N,M,s,q,G,T',ls,ws,E,rfl,_⟩:=h;rfl
 ·obtain⟨A,n,c,N,M,s,q,G,T',ls,ws,E,rfl,R,S,Y,G0,k⟩:=h;refine⟨_,aO (Fq PassesOwn.never (pA (br (pv 0) rfl) (fun _=>rfl))
    (aO (dj (i:=1) pO.nd rfl (Or.inl rfl) (yl AH PySem.F.slot_list_pop PySem.F.type_list_pop xP (br (pv 0) rfl)))
    (bh (b8 (zF (ez (pv 0) T.cl mG GG hr bG .nil aC (ao (dq zy (pv 1) bz (fun _ _=>rfl)) (ao (dq zy (pv 1) bz (fun _ _=>rfl)) aE)))) (bh (dL dG)) io))))
   (bh (dL dG)),?_⟩
  refine uw (fun m σ H'=>∃ (v:Option V)(s1:MX.S)(q1:List (Nat×Int))(N1 M1:Nat),σ=[some (.ref A.sr),v]/\m=2*MX.miss s1 n+q1.length/\Frm A H H'/\Rep CS n H' A c s1 q1 N1 M1/\qT G n c T' s1 N1 M1/\Wt G c s1 q1) _ ⟨none,s,q,N,M,rfl,rfl,Frm.refl _ _,R,S,G0⟩ ?_ ?_
  ·rintro m σ H1 ⟨v,s1,q1,N1,M1,rfl,rfl,fr,R1,S1,W1⟩;obtain⟨ts,hq,hT⟩:=R1.wat;have zY:ts.length=q1.length:=by have:=hT.1;rw [aW]at this;exact this
   refine⟨_,rfl,A.sr,CS,A.dx,_,_,rfl,R1.obj,T.cl,T.nq,HU _ _,_,.inl ⟨_,SqL.of hq,rfl⟩,?_⟩;rcases List.eq_nil_or_concat q1 with hq1 |⟨q0,p,hq1⟩
   ·
    subst hq1;have:ts=[]:=E8 zY;subst this;show Q (.bl false) H1;refine k false H1 fr ⟨fun z=>(by cases z),fun⟨δ,hδ,e⟩=>?_⟩
    refine absurd e (MX.ended S1.ok S1.gok S1.cm S1.hT (fun x y t e' lQ he hec hj jx=>?_) hδ);rcases W1.dn x t lQ with h |h
    ·simp at h
    ·exact h e' y he hec hj jx
   ·rw [List.concat_eq_append]at hq1;subst hq1;obtain⟨x,t⟩:=p;have bQ:ts.length=q0.length+1:=by rw [zY];simp
    obtain⟨mv,tl,hts⟩:∃ mv tl,ts=mv++[tl]:=by
     rcases List.eq_nil_or_concat ts with h |⟨a,b,h⟩
     ·rw [h]at bQ;simp at bQ
     ·exact⟨a,b,by rw [h,List.concat_eq_append]⟩
    subst hts;have l0:mv.length=q0.length:=by simp at bQ;exact bQ
    have Cz:H1 tl=some (.tup (([(x:Int),t]:List Int).map V.int)):=by
     refine hT.2 mv.length tl _ (by simp) ?_
     rw [l0];simp
    have un:=W1.un (x,t) (by simp)
    have bV:(!((mv++[tl]).map V.ref).isEmpty)=true:=by simp
    rw [bV];refine⟨_,rfl,A.sr,CS,A.dx,_,_,rfl,R1.obj,T.cl,T.nq,HU _ _,.inl ⟨rfl,_,SqL.of hq⟩,A.wq,_,.ref tl,rfl,rfl,hq,by simp,?_⟩
    have hdl:((mv++[tl]).map V.ref).dropLast=mv.map V.ref:=by rw [fO];simp
    rw [hdl];obtain⟨k1,a1,b1,l1⟩:=R1.bas;obtain⟨k2,a2,b2,l2⟩:=R1.cby;obtain⟨k3,a3,b3,l3⟩:=R1.cfr;obtain⟨k4,a4,b4,l4⟩:=R1.trn;have nd:=R1.nd;simp only [lA,bw,ik,or_false,b9]at nd;obtain⟨⟨n1,n2,n3,n4⟩,⟨n5,n6,n7⟩,⟨n8,n9⟩,Aa,_⟩:=nd;have keep:∀ {a:Addr}{o:HO},H1 a=some o->a≠A.wq->upd H1 A.wq (.lst (mv.map V.ref)) a=some o:=fun e h=>by rw [aj h];exact e
    have R2:Rep CS n (upd H1 A.wq (.lst (mv.map V.ref))) A c s1 q0 N1 M1:=by
     refine⟨keep R1.obj (az R1.obj hq (by intro z;cases z)),⟨k1,keep a1 n4,b1,l1⟩,⟨k2,keep a2 n7,b2,l2⟩,⟨k3,keep a3 n9,b3,l3⟩,⟨k4,keep a4 Aa,b4,l4⟩,⟨mv,Z2j,by rw [aW];exact l0,fun j t' m' e1 e2=>?_⟩,?_,R1.bud,R1.mle,R1.nn,R1.nd⟩
     ·have lj:=(eg.mp e1).1;have lj2:j<q0.length:=by omega
      have z:=hT.2 j t' m' (by rw [mJ lj];exact e1) (by rw [fO,mJ (by rw [aW];exact lj2)];exact e2)
      exact keep z (az z hq (by intro y;cases y))
     ·have:=R1.qle;simp at this;omega
    have JR:=fr.upd (b:=A.wq) (o:=.lst (mv.map V.ref)) (by simp)
    have Y2:=Y.frm JR;have CC:upd H1 A.wq (.lst (mv.map V.ref)) tl=some (.tup (([(x:Int),t]:List Int).map V.int)):=keep Cz (az Cz hq (by intro z;cases z))
    refine⟨_,rfl,A.sr,A.dx,_,rfl,R2.obj,jk,_,rfl,tl,_,_,_,rfl,rfl,SqT.of CC,rfl,_,rfl,tl,_,_,_,rfl,rfl,SqT.of CC,rfl,A,n,c,N1,M1,s1,q0,G,T',ls,ws,E,x,t,rfl,R2,S1,Y2,un.1,un.2,fun H3 f3 hδ=>?_,fun H3 s3 q3 N3 M3 f3 R3 S3 e3 d3=>?_⟩
    ·exact⟨_,rfl,k true H3 (JR.trans f3) ⟨fun _=>hδ,fun _=>rfl⟩⟩
    ·obtain⟨r,ka,Cw,FZ,Ch⟩:=e3;subst ka;have EF:∀ p∈r,p.1<n/\(p.2=1\/p.2=-1):=fun p hp=>by
      have:=S3.ok.tnr p.1 p.2 ((Cw p.1 p.2).mpr (.inr hp));exact⟨by rw [<-S3.gn];exact S3.ok.rn _ this.1,this.2⟩
     have hm:=MX.ZbP (n:=n) Cw FZ Ch EF;have hxq:(x,t)∉q0:=fun h=>by
      have:=W1.nd;rw [rg]at this;exact this.2.2 (x,t) h (x,t) (by simp) rfl
     refine⟨_,rfl,2*MX.miss s3 n+(q0++r).length,?_,_,s3,q0++r,N3,M3,rfl,rfl,JR.trans f3,R3,S3,⟨?_,fun p hp=>?_,fun z u hz=>?_⟩⟩
     ·simp only [gD,gC,lB];omega
     ·have nd0:q0.Nodup:=(rg.mp W1.nd).1;exact rg.mpr ⟨nd0,Ch,fun a ha b hb z=>FZ b hb (by rw [<-z];exact(W1.un a (by simp [ha])).1)⟩
     ·rcases dz.mp hp with hp |hp
      ·obtain⟨u1,u2⟩:=W1.un p (by simp [hp])
       refine⟨(Cw _ _).mpr (.inl u1),fun e h=>?_⟩;rcases(d3 _ _ _).mp h with h |⟨h1,h2,_⟩
       ·exact u2 e h
       ·have:p=(x,t):=by rw [<-h1,<-h2]
        rw [this]at hp;exact hxq hp
      ·refine⟨(Cw _ _).mpr (.inr hp),fun e h=>?_⟩;rcases(d3 _ _ _).mp h with h |⟨h1,h2,_⟩
       ·exact FZ p hp (S1.ok.d1 _ _ _ h).1
       ·have:p=(x,t):=by rw [<-h1,<-h2]
        exact FZ p hp (by rw [this];exact un.1)
     ·rcases(Cw z u).mp hz with h |h
      ·rcases W1.dn z u h with h2 |h2
       ·rcases dz.mp h2 with h2 |h2
        ·exact .inl (jY _ h2)
        ·right;intro e y he hec hj jx;have h2:=du.mp h2;injection h2 with h3 h4
         subst h3 h4;exact(d3 _ _ _).mpr (.inr ⟨rfl,rfl,hec,jx,he,y,hj⟩)
       ·exact .inr fun e y he hec hj jx=>(d3 _ _ _).mpr (.inl (h2 e y he hec hj jx))
      ·exact .inl (kq _ h)
  ·rintro σ H1 Q1 Q2 hq ⟨v,e,a,C,dx,fs,v',h1,h2,h3,h4,h5,k',h6,q'⟩;exact⟨v,e,a,C,dx,fs,v',h1,h2,h3,h4,h5,k',h6,hq _ _ q'⟩
end
def bf(a b o sd:Int):List (Str×V):=[("a",.int a),("b",.int b),("order",.int o),("side",.int sd)]
theorem lL(a b o sd:Int):(bf a b o sd).lookup ("a":Str)=some (.int a):=by
 unfold bf;rw [bi,show(("a":Str)=="a")=true by decide]
theorem lM(a b o sd:Int):(bf a b o sd).lookup ("b":Str)=some (.int b):=by
 unfold bf;rw [bi,show(("b":Str)=="a")=false by decide,bi,show(("b":Str)=="b")=true by decide]
theorem Jj(a b o sd:Int):(bf a b o sd).lookup ("order":Str)=some (.int o):=by
 unfold bf;rw [bi,show(("order":Str)=="a")=false by decide,bi,show(("order":Str)=="b")=false by decide,bi,show(("order":Str)=="order")=true by decide]
theorem rM(a b o sd:Int):(bf a b o sd).lookup ("side":Str)=some (.int sd):=by
 unfold bf;rw [bi,show(("side":Str)=="a")=false by decide,bi,show(("side":Str)=="b")=false by decide,bi,show(("side":Str)=="order")=false by decide,bi,show(("side":Str)=="side")=true by decide]
def mx(CB:Addr)(H:Hp)(r:Addr)(a b:Nat)(o sd:Int):Prop:=∃ dx,H r=some (.ins CB dx (bf a b o sd))
structure uE(K:aq)(CB:Addr):Prop where
 cl:Cls K CB
 na:NoAttr K CB "a"
 nb:NoAttr K CB "b"
 no:NoAttr K CB "order"
 ns:NoAttr K CB "side"
structure Bds(CB:Addr)(G:MX.Gr)(H:Hp)(bl:Addr)(bs:List Addr)(sd:Nat->Int):Prop where
 top:H bl=some (.lst (bs.map V.ref))
 len:bs.length=G.m
 bond:∀ e r,bs[e]?=some r->mx CB H r (G.bd e).a (G.bd e).b (G.bd e).o (sd e)
theorem Bds.same{CB:Addr}{G:MX.Gr}{H H':Hp}{bl:Addr}{bs:List Addr}{sd:Nat->Int}(h:Bds CB G H bl bs sd)(s:L2.Same H H'):Bds CB G H' bl bs sd:=
 ⟨s _ _ h.top,h.len,fun e r z=>by obtain⟨dx,q⟩:=h.bond e r z;exact⟨dx,s _ _ q⟩⟩
structure Wys0(CW:Addr)(G:MX.Gr)(H:Hp)(wl:Addr)(ls:List Addr)(ws:Nat->List Addr)(E:Nat->List (Nat×Nat)):Prop where
 top:H wl=some (.lst (ls.map V.ref))
 len:ls.length=G.n
 row:∀ (x:Nat) l,ls[x]?=some l->H l=some (.lst ((ws x).map V.ref))
 wln:∀ x,x<G.n->(ws x).length=(E x).length
 way:∀ (x j:Nat) r p,x<G.n->(ws x)[j]?=some r->(E x)[j]?=some p->WayAt CW H r p.1 p.2 (G.bd p.1).o
 cov:∀ x e y,x<G.n->((e,y)∈E x↔e<G.m/\MX.Jn (G.bd e) x y)
 unq:∀ x,x<G.n->((E x).map (·.1)).Nodup
theorem Wys0.same{CW:Addr}{G:MX.Gr}{H H':Hp}{wl:Addr}{ls:List Addr}{ws:Nat->List Addr}{E:Nat->List (Nat×Nat)}(h:Wys0 CW G H wl ls ws E)(s:L2.Same H H'):Wys0 CW G H' wl ls ws E:=
 ⟨s _ _ h.top,h.len,fun x l e=>s _ _ (h.row x l e),h.wln,fun x j r p hx e1 e2=>by obtain⟨dx,d,ah,a,b,c⟩:=h.way x j r p hx e1 e2;exact⟨dx,d,ah,s _ _ a,s _ _ b,c⟩,h.cov,h.unq⟩
theorem Wys0.wys{CW:Addr}{A:SA}{G:MX.Gr}{H H':Hp}{ls:List Addr}{ws:Nat->List Addr}{E:Nat->List (Nat×Nat)}(h:Wys0 CW G H A.wl ls ws E)(new:∀ b∈A.mut,H b=none)(s:L2.Same H H'):Wys CW A G H' ls ws E:=by
 have off:∀ {b:Addr}{o:HO},H b=some o->b∉A.mut:=fun e hb=>by rw [new _ hb]at e;cases e
 refine⟨s _ _ h.top,off h.top,h.len,fun x l e=>⟨s _ _ (h.row x l e),off (h.row x l e)⟩,h.wln,fun x j r p hx e1 e2=>?_,h.cov,h.unq⟩;obtain⟨dx,d,ah,a,b,c⟩:=h.way x j r p hx e1 e2;refine⟨⟨dx,d,ah,s _ _ a,s _ _ b,c⟩,off a,fun eO u0 d' h1 h2=>?_⟩;rw [s _ _ a]at h1;cases h1;rw [Fl]at h2;cases h2;exact off b
section
variable{P:Program}{w:World}{K:aq}{mg:Str->Option Value}{base:Heap}{CS CW CB:Addr}
def Ec(CS:Addr):Sp:=fun vs H Q _=>∃ (sr dx wl:Addr)(c:Nat),vs=[.ref sr,.ref wl,.int (c:Int)]/\H sr=some (.ins CS dx []) /\
 ∀ (H':Hp)(A:SA),A.sr=sr->A.dx=dx->A.wl=wl->H' sr=some (.ins CS dx (A.flds c))->H' A.db=some (.dK [(.inl (-1),.int (-1))])->H' A.cb=some (.dK [])->H' A.cf=some (.dK [])->H' A.tn=some (.dT [])->H' A.wq=some (.lst []) ->
  A.mut.Nodup->(∀ b∈A.mut,H b=none)->Only sr H H'->Q .non H'
theorem Me:cX ["self","ways","cut"] ["self","ways","cut"] (bo HP):=⟨rfl,rfl,rfl,by decide +kernel,rfl,by decide +kernel,by decide +kernel⟩
theorem LJ{f:Addr}{fd:FuncData}(F:Fun K "__init__" "Search.__init__" HP f fd)(T:jX K mg CS):am P w K mg base CX0 1 f fd ["self","ways","cut"] (Ec CS):=by
 refine F.ok Me (fun vs H Q E h=>?_) (fun bq A' outer s' H vs Q E hr h=>?_)
 ·obtain⟨sr,dx,wl,c,rfl,_⟩:=h;rfl
 ·obtain⟨sr,dx,wl,c,rfl,ho,k⟩:=h;refine⟨_,aO (gu (pv 0) (pv 1) rfl) (aO (gu (pv 0) (pv 2) rfl)
   (aO (gu (pv 0) (IQ (Ba (ay rfl T.md) (ay rfl T.md) IS) rfl rfl (by decide) (by decide)) rfl)
   (aO (gu (pv 0) Pi rfl) (aO (gu (pv 0) Pi rfl) (aO (gu (pv 0) oW rfl) (bh (gu (pv 0) (mO aE) rfl))))))),?_⟩
  refine⟨_,rfl,_,rfl,sr,CS,dx,[],rfl,ho,T.cl,T.nw,(by show 0<1000;decide),?_⟩
  refine⟨_,rfl,_,rfl,sr,CS,dx,_,rfl,Z2j,T.cl,T.nc,(by show 1<1000;decide),?_⟩
  rw [j4];intro db gz;refine⟨Z2j,[(.inl (-1),.int (-1))],rfl,(by show 1<=15;decide),?_⟩
  rw [j4];have n1:sr≠db:=ba Z2j gz;refine⟨_,rfl,sr,CS,dx,_,rfl,by rw [aj n1,Z2j],T.cl,T.nb,(by show 2<1000;decide),?_⟩
  intro cb B1;have n2:sr≠cb:=ba Z2j B1;have Ab:db≠cb:=fun z=>by rw [<-z,aj (Ne.symm n1),Z2j]at B1;cases B1
  refine⟨_,rfl,sr,CS,dx,_,rfl,by rw [aj n2,Z2j],T.cl,T.ny,(by show 3<1000;decide),?_⟩
  intro cf wR;have n3:sr≠cf:=ba Z2j wR;have Dc:cb≠cf:=fun z=>by rw [<-z,aj (Ne.symm n2),Z2j]at wR;cases wR
  have oI:db≠cf:=fun z=>by rw [<-z,aj (Ne.symm n1),aj Ab,aj (Ne.symm n1),Z2j]at wR;cases wR
  refine⟨_,rfl,sr,CS,dx,_,rfl,by rw [aj n3,Z2j],T.cl,T.nf,(by show 4<1000;decide),?_⟩
  intro tn lQ;have n4:sr≠tn:=ba Z2j lQ;have F3:cf≠tn:=fun z=>by rw [<-z,aj (Ne.symm n3),Z2j]at lQ;cases lQ
  have F4:cb≠tn:=fun z=>by rw [<-z,aj (Ne.symm n2),aj Dc,aj (Ne.symm n2),Z2j]at lQ;cases lQ
  have F5:db≠tn:=fun z=>by rw [<-z,aj (Ne.symm n1),aj oI,aj (Ne.symm n1),aj Ab,aj (Ne.symm n1),Z2j]at lQ;cases lQ
  refine⟨_,rfl,sr,CS,dx,_,rfl,by rw [aj n4,Z2j],T.cl,T.nt,(by show 5<1000;decide),?_⟩
  refine⟨fk _,fun wq oq=>?_⟩;have n5:sr≠wq:=ba Z2j oq;have Ln:tn≠wq:=fun z=>by rw [<-z,aj (Ne.symm n4),Z2j]at oq;cases oq
  have Lo:cf≠wq:=fun z=>by rw [<-z,aj (Ne.symm n3),aj F3,aj (Ne.symm n3),Z2j]at oq;cases oq
  have Lp:cb≠wq:=fun z=>by rw [<-z,aj (Ne.symm n2),aj F4,aj (Ne.symm n2),aj Dc,aj (Ne.symm n2),Z2j]at oq;cases oq
  have Lq:db≠wq:=fun z=>by rw [<-z,aj (Ne.symm n1),aj F5,aj (Ne.symm n1),aj oI,aj (Ne.symm n1),aj Ab,aj (Ne.symm n1),Z2j]at oq;cases oq
  refine⟨_,rfl,sr,CS,dx,_,rfl,by rw [aj n5,Z2j],T.cl,T.nq,(by show 6<1000;decide),?_⟩
  have free:∀ {b:Addr}{o:HO}{H1:Hp},(L2.upd H1 sr o) b=none->b≠sr/\H1 b=none:=fun{b o H1} h=>by
   have e:b≠sr:=fun z=>by rw [z,Z2j]at h;cases h
   exact⟨e,by rw [aj e]at h;exact h⟩
  refine k _ ⟨sr,dx,wl,db,cb,cf,tn,wq⟩ rfl rfl rfl ?_ ?_ ?_ ?_ ?_ ?_ ?_ ?_ ?_
  ·rw [Z2j];rfl
  ·rw [aj (Ne.symm n1),aj Lq,aj (Ne.symm n1),aj F5,aj (Ne.symm n1),aj oI,aj (Ne.symm n1),aj Ab,aj (Ne.symm n1),Z2j];rfl
  ·rw [aj (Ne.symm n2),aj Lp,aj (Ne.symm n2),aj F4,aj (Ne.symm n2),aj Dc,aj (Ne.symm n2),Z2j]
  ·rw [aj (Ne.symm n3),aj Lo,aj (Ne.symm n3),aj F3,aj (Ne.symm n3),Z2j]
  ·rw [aj (Ne.symm n4),aj Ln,aj (Ne.symm n4),Z2j]
  ·rw [aj (Ne.symm n5),Z2j]
  ·simp only [lA,bw,ik,or_false,b9];exact⟨⟨Ab,oI,F5,Lq⟩,⟨Dc,F4,Lp⟩,⟨F3,Lo⟩,Ln,not_false,uJ⟩
  ·intro b hb;simp only [bw,ik,or_false]at hb;rcases hb with rfl |rfl |rfl |rfl |rfl
   ·exact(free gz).2
   ·have:=(free B1).2;rw [aj (Ne.symm Ab)]at this;exact(free this).2
   ·have:=(free wR).2;rw [aj (Ne.symm Dc)]at this;have:=(free this).2;rw [aj (Ne.symm oI)]at this;exact(free this).2
   ·have:=(free lQ).2;rw [aj (Ne.symm F3)]at this;have:=(free this).2;rw [aj (Ne.symm F4)]at this;have:=(free this).2;rw [aj (Ne.symm F5)]at this;exact(free this).2
   ·have:=(free oq).2;rw [aj (Ne.symm Ln)]at this;have:=(free this).2;rw [aj (Ne.symm Lo)]at this;have:=(free this).2;rw [aj (Ne.symm Lp)]at this;have:=(free this).2;rw [aj (Ne.symm Lq)]at this;exact(free this).2
  ·exact(((((((((((Only.refl sr H).trans (Only.upd _)).new gz).trans (Only.upd _)).new B1).trans (Only.upd _)).new wR).trans (Only.upd _)).new lQ).trans (Only.upd _)).new oq).trans (Only.upd _)
end
def DL(c:Nat)(T:Int):MX.S where
 re:=fun _=>False
 root:=fun x=>x
 rk:=fun _=>1
 nx:=0
 cb:=fun _=>c
 cf:=fun _=>none
 ar:=fun _=>T
 tn:=fun _ _=>False
 dn:=fun _ _ _=>False
section
variable{P:Program}{w:World}{K:aq}{mg:Str->Option Value}{base:Heap}{CS CW CB:Addr}
def D8(CW CB:Addr):Sp:=fun vs H Q _=>∃ (wl bl:Addr)(c:Nat)(T:Int)(G:MX.Gr)(ls:List Addr)(ws:Nat->List Addr)(E:Nat->List (Nat×Nat))(bs:List Addr)(sd:Nat->Int),vs=[.ref wl,.ref bl,.int (c:Int),.int T]/\Wys0 CW G H wl ls ws E/\Bds CB G H bl bs sd /\
 G.Ok/\G.n<=128/\c<G.m/\(G.bd c).o=2/\(T=1\/T=-1)/\∀ (b:Bool) H',L2.Same H H'->(b=true↔∃ δ,G.Chg δ/\δ c=T)->Q (.bl b) H'
theorem DV:cX ["ways","bonds","number","turn","search"] ["ways","bonds","number","turn"] (bo II):=⟨rfl,rfl,rfl,by decide +kernel,rfl,by decide +kernel,by decide +kernel⟩
theorem LF{f fI fR fB:Addr}{fd jt BE iH:FuncData}(F:Fun K "can_go" "can_go" II f fd)(T:jX K mg CS)(B:uE K CB)(M:Mk K CS fI)(hC:mg "Search" = some (.ref CS))
  (GI:am P w K mg base CX0 1 fI jt ["self","ways","cut"] (Ec CS))(bI:Binds K jt ["self","ways","cut"] [])
  (GR:am P w K mg base CX0 2 fR BE ["self","atom","before","bond","turn"] (IW CS))(mR:aS K CS "reach" fR)(bR:Binds K BE ["self","atom","before","bond","turn"] [])
  (GB:am P w K mg base CX0 6 fB iH ["self"] (pY CS CW))(mB:aS K CS "comes_back" fB)(bB:Binds K iH ["self"] []):
  am P w K mg base CX0 7 f fd ["ways","bonds","number","turn"] (D8 CW CB):=by
 refine F.ok DV (fun vs H Q E h=>?_) (fun bq A' outer s' H vs Q E' hr h=>?_)
 ·obtain⟨wl,bl,c,T',G,ls,ws,E,bs,sd,rfl,_⟩:=h;rfl
 ·obtain⟨wl,bl,c,T',G,ls,ws,E,bs,sd,rfl,Y,D,hG,hn,hc,ho,hT,k⟩:=h;have eh:Room 2 _:=hr.mono (by decide)
  refine⟨_,aO (dj (i:=4) DV.nd rfl (Or.inl rfl) (rB M GI eh rfl hC bI .nil aC (ao (pv 0) (ao (pv 2) aE))))
   (aO (gT (ez (pv 4) T.cl mR GR eh bR .nil aC (ao (br (dq qz (pv 1) (pv 2) (fun _ _=>rfl)) rfl) (ao (ay rfl T.md) (ao (pv 2) (ao (lh FL (pv 3)) aE))))))
   (aO (gT (ez (pv 4) T.cl mR GR eh bR .nil aC (ao (br (dq qz (pv 1) (pv 2) (fun _ _=>rfl)) rfl) (ao (ay rfl T.md) (ao (pv 2) (ao (lh FL (pv 3)) aE))))))
   (bh (dL (Iy (pv 4) T.cl mB GB hr bB .nil aC))))),?_⟩
  refine⟨_,rfl,_,rfl,fun x dx nx nd ndx=>⟨x,dx,wl,c,rfl,Z2j,fun H1 A e1 e2 e3 g1 g2 g3 g4 g5 g6 nod new o1=>⟨rfl,?_⟩⟩⟩;subst e1 e2 e3;have De:∀ b∈A.mut,H b=none:=fun b hb=>by
   have:=new b hb;cases q:H b with
   |none=>rfl
   |some o =>
    rw [aj (ba q nx),aj (ba q nd),q]at this;cases this
  have s1:L2.Same H H1:=fun b o e=>o1 b o (by rw [aj (ba e nx),aj (ba e nd)];exact e) (ba e nx)
  have R1:Rep CS G.n H1 A c (DL c T') [] 0 1:=by
   refine⟨g1,⟨_,g2,⟨rfl,fun x h=>h.elim,fun x _=>?_⟩,bO _⟩,⟨_,g3,fun x h=>h.elim,fk _⟩,⟨_,g4,fun x h=>h.elim,fk _⟩,⟨_,g5,fun x t=>⟨fun z=>?_,fun z=>z.elim⟩,bO _⟩,⟨[],g6,rfl,fun j t m a b=>?_⟩,bO _,?_,by decide,hn,nod⟩
   ·unfold aL;rw [List.find?_cons_of_neg (by simp only [decide_eq_true_eq];rw [jO];omega)];rfl
   ·cases z
   ·cases a
   ·unfold MX.miss;have a1:=MX.cnt_le G.n (fun x=>¬ (DL c T').tn x 1);have a2:=MX.cnt_le G.n (fun x=>¬ (DL c T').tn x (-1));omega
  have sF:∀ {H'},Frm A H1 H'->L2.Same H H':=fun fr b o e=>fr b o (s1 b o e) fun hb=>by rw [De b hb]at e;cases e
  have lc:c<bs.length:=by rw [D.len];exact hc
  have bc:bs[c]?=some bs[c]:=dv lc;have Qh:(bs.map V.ref)[c]?=some (.ref bs[c]):=by rw [dQ,bc];rfl
  have D1:=D.same s1;obtain⟨db1,BW⟩:=D1.bond c _ bc;refine⟨_,rfl,A.sr,A.dx,_,rfl,R1.obj,jk,_,rfl,_,rfl,bl,_,_,_,rfl,rfl,SqL.of D1.top,qA Qh,bs[c],CB,db1,_,_,rfl,BW,B.cl,B.na,lL _ _ _ _,_,rfl,_,rfl,_,rfl,
   A,G.n,c,0,1,DL c T',[],(G.bd c).a,c,-1,-T',none,rfl,R1,by decide,hG.an c hc,id,fun x v h=>h.elim,fun x h=>h.elim,by omega,rfl,fun H2 q2 N2 f2 R2 hN2 e2=>?_⟩
  subst hN2;have D2:=D.same (sF f2);obtain⟨db2,jS⟩:=D2.bond c _ bc;refine⟨_,rfl,A.sr,A.dx,_,rfl,R2.obj,jk,_,rfl,_,rfl,bl,_,_,_,rfl,rfl,SqL.of D2.top,qA Qh,bs[c],CB,db2,_,_,rfl,jS,B.cl,B.nb,lM _ _ _ _,_,rfl,_,rfl,_,rfl,
   A,G.n,c,_,_,_,q2,(G.bd c).b,c,-1,-T',none,rfl,R2,by decide,hG.bn c hc,?n1,?n2,?n3,by omega,rfl,fun H3 q3 N3 f3 R3 hN3 e3=>?_⟩
  case n1=>exact fun h=>Or.elim h id fun z=>hG.ne c hc z.symm
  case n2=>exact fun x v h=>.inr (Or.elim h False.elim fun z=>z.1)
  case n3 =>
   intro x h;right;show(if x=(G.bd c).a then(G.bd c).a else x)=(G.bd c).a;rcases h with h |h
   ·exact h.elim
   ·rw [ae h]
  subst hN3;have BL:=f2.trans f3;have zN:=hG.ne c hc;have R4:Rep CS G.n H3 A c (MX.S.start G c T') q3 2 3:=by
   refine R3.congr ?_ ?_ ?_ ?_ ?_ ?_
   ·funext z
    exact propext ⟨fun h=>h.elim (fun h=>.inl (.inr h)) .inr,fun h=>h.elim (fun h=>h.elim False.elim .inl) .inr⟩
   ·funext z
    show z=if z=(G.bd c).b then(G.bd c).b else if z=(G.bd c).a then(G.bd c).a else z;split
    ·assumption
    ·split
     ·assumption
     ·rfl
   ·funext z
    show(if z=(G.bd c).a then 0 else 1)=if z=(G.bd c).b then 1 else if z=(G.bd c).a then 0 else 1;by_cases h:z=(G.bd c).b
    ·rw [ae h,ac (by rw [h];exact Ne.symm zN)]
    ·rw [ac h]
   ·funext z
    show c=if z=(G.bd c).b then c else if z=(G.bd c).a then c else c;simp
   ·funext z
    show none=if z=(G.bd c).b then none else if z=(G.bd c).a then none else none;simp
   ·funext z u
    show((z=(G.bd c).a\/z=(G.bd c).b)/\u=-T')=((False\/(z=(G.bd c).a/\u=-T'))\/(z=(G.bd c).b/\u=-T'));refine propext ⟨fun⟨h1,h2⟩=>h1.elim (fun h=>.inl (.inr ⟨h,h2⟩)) fun h=>.inr ⟨h,h2⟩,fun h=>?_⟩;rcases h with(h |⟨h1,h2⟩) |⟨h1,h2⟩
    ·exact h.elim
    ·exact⟨.inl h1,h2⟩
    ·exact⟨.inr h1,h2⟩
  have ex:Ext (DL c T') [] (MX.S.start G c T') q3:=(e2.trans e3).tn (by
    funext z u
    show((z=(G.bd c).a\/z=(G.bd c).b)/\u=-T')=((False\/(z=(G.bd c).a/\u=-T'))\/(z=(G.bd c).b/\u=-T'));refine propext ⟨fun⟨h1,h2⟩=>h1.elim (fun h=>.inl (.inr ⟨h,h2⟩)) fun h=>.inr ⟨h,h2⟩,fun h=>?_⟩;rcases h with(h |⟨h1,h2⟩) |⟨h1,h2⟩
    ·exact h.elim
    ·exact⟨.inl h1,h2⟩
    ·exact⟨.inr h1,h2⟩)
  obtain⟨r,qL,QZ,QU,wT⟩:=ex;have KP:q3=r:=by rw [qL];rfl
  subst KP;have G0:Wt G c (MX.S.start G c T') q3:=⟨wT,fun p hp=>⟨(QZ _ _).mpr (.inr hp),fun e h=>h.elim⟩,fun x t h=>.inl ((QZ x t).mp h |>.elim False.elim id)⟩;have S4:qT G G.n c T' (MX.S.start G c T') 2 3:=⟨MX.start_ok hG hc hT,hG,rfl,hc,ho,hT,by decide,by show 2<=2;decide⟩
  refine⟨_,rfl,A.sr,A.dx,_,rfl,R4.obj,jk,A,G.n,c,2,3,_,q3,G,T',ls,ws,E,rfl,R4,S4,Y.wys De (sF BL),G0,fun b H4 f4 hb=>?_⟩;exact k b H4 (sF (BL.trans f4)) hb
def vF(CW CB:Addr):Sp:=fun vs H Q _=>∃ (wl bl:Addr)(c:Nat)(G:MX.Gr)(ls:List Addr)(ws:Nat->List Addr)(E:Nat->List (Nat×Nat))(bs:List Addr)(sd:Nat->Int),vs=[.ref wl,.ref bl,.int (c:Int)]/\Wys0 CW G H wl ls ws E/\Bds CB G H bl bs sd /\
 G.Ok/\G.n<=128/\c<G.m/\(G.bd c).o=2/\∀ (b:Bool) H',L2.Same H H'->(b=true↔∀ δ,G.Chg δ->δ c=0)->Q (.bl b) H'
theorem DU:cX ["ways","bonds","number"] ["ways","bonds","number"] (bo Hg):=⟨rfl,rfl,rfl,by decide +kernel,rfl,by decide +kernel,by decide +kernel⟩
theorem Dr{f fG:Addr}{fd kK:FuncData}(F:Fun K "is_fixed_double" "is_fixed_double" Hg f fd)(T:jX K mg CS)
  (GG:am P w K mg base CX0 7 fG kK ["ways","bonds","number","turn"] (D8 CW CB))(mG:mg "can_go" = some (.ref fG))(kG:PySem.W.keepIn K (.ref fG)=true)(bG:Binds K kK ["ways","bonds","number","turn"] []):
  am P w K mg base CX0 8 f fd ["ways","bonds","number"] (vF CW CB):=by
 refine F.ok DU (fun vs H Q E h=>?_) (fun bq A' outer s' H vs Q E' hr h=>?_)
 ·obtain⟨wl,bl,c,G,ls,ws,E,bs,sd,rfl,_⟩:=h;rfl
 ·obtain⟨wl,bl,c,G,ls,ws,E,bs,sd,rfl,Y,D,hG,hn,hc,ho,k⟩:=h;refine⟨_,bh (dL (Bj (pb (fQ GG hr rfl mG kG bG .nil aC (ao (pv 0) (ao (pv 1) (ao (pv 2) (ao (ay rfl T.up) aE)))))) (FJ (pb (fQ GG hr rfl mG kG bG .nil aC (ao (pv 0) (ao (pv 1) (ao (pv 2) (ao (ay rfl T.dn) aE))))))))),?_⟩;have key:(∀ δ,G.Chg δ->δ c=0)↔¬ (∃ δ,G.Chg δ/\δ c=1)/\¬ (∃ δ,G.Chg δ/\δ c=-1):=by
   refine⟨fun h=>⟨fun⟨δ,a,b⟩=>?_,fun⟨δ,a,b⟩=>?_⟩,fun⟨h1,h2⟩ δ hδ=>?_⟩
   ·rw [h δ a]at b;cases b
   ·rw [h δ a]at b;cases b
   ·have u:=hδ.up c hc;have d:=hδ.dn c hc;have n1:δ c≠1:=fun z=>h1 ⟨δ,hδ,z⟩;have n2:δ c≠-1:=fun z=>h2 ⟨δ,hδ,z⟩;omega
  refine⟨_,rfl,_,rfl,_,rfl,wl,bl,c,1,G,ls,ws,E,bs,sd,rfl,Y,D,hG,hn,hc,ho,.inl rfl,fun b H1 s1 hb=>⟨_,rfl,_,rfl,bu (fun h=>?_) (fun h=>?_)⟩⟩
  ·refine⟨_,rfl,_,rfl,_,rfl,wl,bl,c,-1,G,ls,ws,E,bs,sd,rfl,Y.same s1,D.same s1,hG,hn,hc,ho,.inr rfl,fun b2 H2 s2 jS=>⟨_,rfl,k _ H2 (fun a o e=>s2 a o (s1 a o e)) ?_⟩⟩;rw [key,<-hb,<-jS];cases b with
   |true=>cases h
   |false=>cases b2<;>simp
  ·refine k false H1 s1 ?_;rw [key,<-hb];cases b with
   |true=>simp
   |false=>exact absurd rfl h
end
end BK
end
section
namespace MX
def Gr.at_(G:Gr):Nat->Nat->List (Nat×Nat)
 |0,_=>[]
 |i+1,x=>(G.at_ i x++if x=(G.bd i).a then[(i,(G.bd i).b)]else[])++if x=(G.bd i).b then[(i,(G.bd i).a)]else[]
theorem Gr.mem_at(G:Gr)(x e y:Nat):∀ i,(e,y)∈G.at_ i x↔e<i/\Jn (G.bd e) x y
 |0=>by unfold Gr.at_;simp
 |i+1=>by
  unfold Gr.at_ Jn;rw [dz,dz,G.mem_at x e y i];have h1:(e,y)∈(if x=(G.bd i).a then[(i,(G.bd i).b)]else[])↔x=(G.bd i).a/\e=i/\y=(G.bd i).b:=by
   split<;>simp_all
  have h2:(e,y)∈(if x=(G.bd i).b then[(i,(G.bd i).a)]else[])↔x=(G.bd i).b/\e=i/\y=(G.bd i).a:=by
   split<;>simp_all
  rw [h1,h2];unfold Jn;constructor
  ·rintro((⟨h,k⟩ |⟨a,rfl,c⟩) |⟨a,rfl,c⟩)
   ·exact⟨by omega,k⟩
   ·exact⟨by omega,.inl ⟨a.symm,c.symm⟩⟩
   ·exact⟨by omega,.inr ⟨a.symm,c.symm⟩⟩
  ·rintro⟨h,k⟩;by_cases z:e<i
   ·exact .inl (.inl ⟨z,k⟩)
   ·have:e=i:=by omega
    subst this;rcases k with⟨a,c⟩ |⟨a,c⟩
    ·exact .inl (.inr ⟨a.symm,rfl,c.symm⟩)
    ·exact .inr ⟨a.symm,rfl,c.symm⟩
theorem Gr.at_nd(G:Gr)(x:Nat):∀ i,(∀ e,e<i->(G.bd e).a≠(G.bd e).b)->((G.at_ i x).map (·.1)).Nodup
 |0,_=>by unfold Gr.at_;simp
 |i+1,h=>by
  have ih:=G.at_nd x i fun e he=>h e (by omega)
  have hi:=h i (by omega)
  have lt:∀ e∈(G.at_ i x).map (·.1),e<i:=fun e he=>by
   obtain⟨⟨e',y'⟩,hp,rfl⟩:=i4.mp he;exact((G.mem_at x e' y' i).mp hp).1
  unfold Gr.at_;have fin:∀ y:Nat,((G.at_ i x++[(i,y)]).map (·.1)).Nodup:=fun y=>by
   rw [fO];refine rg.mpr ⟨ih,by simp,fun a ha b hb z=>?_⟩
   have:=lt a ha;simp at hb;omega
  by_cases q1:x=(G.bd i).a
  ·have q2:x≠(G.bd i).b:=fun z=>hi (by rw [<-q1,<-z])
   rw [ae q1,ac q2,jZ];exact fin _
  ·rw [ac q1,jZ];by_cases q2:x=(G.bd i).b
   ·rw [ae q2];exact fin _
   ·rw [ac q2,jZ];exact ih
theorem Gr.at_len(G:Gr)(x:Nat):∀ i,(G.at_ i x).length<=2*i
 |0=>by unfold Gr.at_;simp
 |i+1=>by
  have:=G.at_len x i;unfold Gr.at_;rw [gD,gD];split<;>split<;>simp<;>omega
end MX
namespace BK
open PySem PySem.Spec PyProof.Rows L2 EX RD LM
structure Rws(CW:Addr)(G:MX.Gr)(H:Hp)(wl:Addr)(ls:List Addr)(ws:Nat->List Addr)(E:Nat->List (Nat×Nat)):Prop where
 top:H wl=some (.lst (ls.map V.ref))
 nd:ls.Nodup
 tn:wl∉ls
 row:∀ (x:Nat) l,ls[x]?=some l->H l=some (.lst ((ws x).map V.ref))
 wln:∀ x,(ws x).length=(E x).length
 way:∀ (x j:Nat) r p,(ws x)[j]?=some r->(E x)[j]?=some p->WayAt CW H r p.1 p.2 (G.bd p.1).o
theorem WayAt.same{CW:Addr}{H H':Hp}{r:Addr}{e y:Nat}{o:Int}(h:WayAt CW H r e y o)(s:L2.Same H H'):WayAt CW H' r e y o:=
 by obtain⟨dx,d,ah,a,b,c⟩:=h;exact⟨dx,d,ah,s _ _ a,s _ _ b,c⟩
theorem WayAt.upd{CW:Addr}{H:Hp}{r l:Addr}{e y:Nat}{o:Int}{xs ys:List V}(h:WayAt CW H r e y o)(hl:H l=some (.lst xs)):WayAt CW (L2.upd H l (.lst ys)) r e y o:=
 by obtain⟨dx,d,ah,a,b,c⟩:=h;exact⟨dx,d,ah,by rw [aj (az a hl (by intro z;cases z))];exact a,by rw [aj (az b hl (by intro z;cases z))];exact b,c⟩
theorem Rws.same{CW:Addr}{G:MX.Gr}{H H':Hp}{wl:Addr}{ls:List Addr}{ws:Nat->List Addr}{E:Nat->List (Nat×Nat)}(h:Rws CW G H wl ls ws E)(s:L2.Same H H'):Rws CW G H' wl ls ws E:=
 ⟨s _ _ h.top,h.nd,h.tn,fun x l e=>s _ _ (h.row x l e),h.wln,fun x j r p e1 e2=>(h.way x j r p e1 e2).same s⟩
theorem Rws.app{CW:Addr}{G:MX.Gr}{H:Hp}{wl l r:Addr}{ls:List Addr}{ws:Nat->List Addr}{E:Nat->List (Nat×Nat)}{x e y:Nat}(h:Rws CW G H wl ls ws E)(hl:ls[x]?=some l)(hw:WayAt CW H r e y (G.bd e).o):
  Rws CW G (upd H l (.lst ((ws x).map V.ref++[.ref r]))) wl ls (fun z=>if z=x then ws x++[r]else ws z) (fun z=>if z=x then E x++[(e,y)]else E z):=by
 have Kw:=h.row x l hl;refine⟨?_,h.nd,h.tn,fun z l' e'=>?_,fun z=>?_,fun z j r' p e1 e2=>?_⟩
 ·rw [aj (fun z=>h.tn (by rw [z];exact gL hl))];exact h.top
 ·by_cases q:z=x
  ·subst q;rw [hl]at e';cases e';rw [Z2j,ae rfl,fO];rfl
  ·rw [ac q,aj]
   ·exact h.row z l' e'
   ·rintro rfl;exact q ((List.getElem?_inj (eg.mp e').1 h.nd).mp (e'.trans hl.symm))
 ·split
  ·rw [gD,gD,h.wln x];rfl
  ·exact h.wln z
 ·by_cases q:z=x
  ·subst q;rw [ae rfl]at e1 e2;have ll:=h.wln z;by_cases lt:j<(ws z).length
   ·rw [mJ lt]at e1;rw [mJ (by omega)]at e2
    exact(h.way z j r' p e1 e2).upd Kw
   ·have l1:=(eg.mp e1).1;rw [gD,E4]at l1;have:j=(ws z).length:=by omega
    subst this;rw [uI (bO _),uL]at e1;rw [ll,uI (bO _),uL]at e2;cases e1;cases e2;exact hw.upd Kw
  ·rw [ac q]at e1 e2;exact(h.way z j r' p e1 e2).upd Kw
noncomputable def IR(b:List Stmt):Scope:=match b.findSome? (fun x=>match x with |.Assign _ (.ListComp _ _ sc _) _=>some sc |_=>none)with
 |some sc=>sc
 |none=>{ kind:=.function,names:=[],isGenerator:=false,isCoroutine:=false }
section
variable{P:Program}{w:World}{K:aq}{mg:Str->Option Value}{base:Heap}{CS CW CB:Addr}
def Ee(CW:Addr):Sp:=fun vs H Q _=>∃ (r dx:Addr)(e y o:Int),vs=[.ref r,.int e,.int y,.int o]/\H r=some (.ins CW dx []) /\
 ∀ (H':Hp)(d:Addr)(ah:List (Key×V)),H' r=some (.ins CW dx (wf e y d))->H' d=some (.dK ah)->aL ah (.inl 1)=some (.int (3-o))->aL ah (.inl (-1))=some (.int (o-1))->Only r H H'->Q .non H'
theorem Mf:cX ["self","bond","other","order"] ["self","bond","other","order"] (bo Io):=⟨rfl,rfl,rfl,by decide +kernel,rfl,by decide +kernel,by decide +kernel⟩
theorem LK{f:Addr}{fd:FuncData}(F:Fun K "__init__" "Way.__init__" Io f fd)(T:jX K mg CS)(W:TW K CW):am P w K mg base CX0 1 f fd ["self","bond","other","order"] (Ee CW):=by
 refine F.ok Mf (fun vs H Q E h=>?_) (fun bq A' outer s' H vs Q E hr h=>?_)
 ·obtain⟨r,dx,e,y,o,rfl,_⟩:=h;rfl
 ·obtain⟨r,dx,e,y,o,rfl,ho,k⟩:=h;refine⟨_,aO (gu (pv 0) (pv 1) rfl) (aO (gu (pv 0) (pv 2) rfl)
   (bh (gu (pv 0) (IQ (Ba (ay rfl T.up) (a0 uO bz (pv 3)) (Ba (ay rfl T.dn) (a0 uO (pv 3) bz) IS)) rfl rfl (by decide) (by decide)) rfl))),?_⟩
  refine⟨_,rfl,_,rfl,r,CW,dx,[],rfl,ho,W.cl,W.nb,(by show 0<1000;decide),?_⟩
  refine⟨_,rfl,_,rfl,r,CW,dx,_,rfl,Z2j,W.cl,W.no,(by show 1<1000;decide),?_⟩
  rw [j4];intro d hd;refine⟨_,rfl,_,_,rfl,rfl,_,rfl,_,_,rfl,rfl,Z2j,[(.inl 1,.int (3-o)),(.inl (-1),.int (o-1))],rfl,(by show 2<=15;decide),?_⟩
  rw [j4];have n1:r≠d:=ba Z2j hd;refine⟨_,rfl,r,CW,dx,_,rfl,by rw [aj n1,Z2j],W.cl,W.nr,(by show 2<1000;decide),?_⟩
  refine k _ d [(.inl 1,.int (3-o)),(.inl (-1),.int (o-1))] (by rw [Z2j];rfl) (by rw [aj (Ne.symm n1),Z2j];rfl) rfl rfl ?_
  exact(((Only.refl r H).trans (Only.upd _)).new hd).trans (Only.upd _)
def qi(CW CB:Addr):Sp:=fun vs H Q _=>∃ (bl:Addr)(G:MX.Gr)(bs:List Addr)(sd:Nat->Int),vs=[.int (G.n:Int),.ref bl]/\Bds CB G H bl bs sd/\G.Ok/\G.n<=128/\G.m<=192 /\
 ∀ H' wl ls ws E,L2.Same H H'->Wys0 CW G H' wl ls ws E->Q (.ref wl) H'
theorem ic:cX ["count","bonds","ways","number","bond","atom"] ["count","bonds"] (bo A8):=⟨rfl,rfl,rfl,by decide +kernel,rfl,by decide +kernel,by decide +kernel⟩
theorem rO:cY ["count","bonds","ways","number","bond","atom"] (bo A8) (IR (eQ A8)) [("atom",5)]:=⟨rfl,by decide +kernel,by decide +kernel,by decide +kernel,by decide +kernel⟩
theorem ye{f fI:Addr}{fd jt:FuncData}(F:Fun K "ways_at" "ways_at" A8 f fd)(B:uE K CB)(M:Mk K CW fI)(hC:mg "Way" = some (.ref CW))(mr:mg "range" = none)(me:mg "enumerate" = none)
  (GI:am P w K mg base CX0 1 fI jt ["self","bond","other","order"] (Ee CW))(bI:Binds K jt ["self","bond","other","order"] []):am P w K mg base CX0 3 f fd ["count","bonds"] (qi CW CB):=by
 refine F.ok ic (fun vs H Q E h=>?_) (fun bq A' outer s' H vs Q E' hr h=>?_)
 ·obtain⟨bl,G,bs,sd,rfl,_⟩:=h;rfl
 ·obtain⟨bl,G,bs,sd,rfl,D,hG,hn,hm,k⟩:=h;refine⟨_,aO (O7 (i:=2) rfl ic.nd rfl rfl (A9 rfl rfl rfl rfl) (AZ rfl mr (ao (pv 0) aE)) rO (fun s H C cl fp=>eU (i:=5) ic.nd rfl (Or.inl rfl)) (fun s H C cl fp=>mQ) (fun s H C cl fp=>mO aE))
   (aO (lI PassesOwn.never rfl (FC rfl me (ao (pv 1) aE)) (zB rfl (kz (eU (i:=3) ic.nd rfl (Or.inl rfl)) (kz (eU (i:=4) ic.nd rfl (Or.inl rfl)) we)))
     (aO (gT (lg AH Fa Fb Fv (dq qz (pv 2) (br (pv 4) rfl) (fun _ _=>rfl)) (ao (rB M GI hr rfl hC bI .nil aC (ao (pv 3) (ao (br (pv 4) rfl) (ao (br (pv 4) rfl) aE)))) aE)))
     (bh (gT (lg AH Fa Fb Fv (dq qz (pv 2) (br (pv 4) rfl) (fun _ _=>rfl)) (ao (rB M GI hr rfl hC bI .nil aC (ao (pv 3) (ao (br (pv 4) rfl) (ao (br (pv 4) rfl) aE)))) aE))))))
   (bh (dL (pv 2)))),?_⟩
  refine⟨_,rfl,(G.n:Int),rfl,by omega,by omega,fun wl vc=>Fp (lo:=0) (n:=(G.n:Int).toNat) (fun i H2=>∃ ls:List Addr,ls.length=i/\ls.Nodup/\wl∉ls/\(∀ l∈ls,H l=none)/\L2.Same H H2/\H2 wl=some (.lst (ls.map V.ref))/\∀ x l,ls[x]?=some l->H2 l=some (.lst []))
   ⟨[],rfl,uJ,by simp,fun l hl=>absurd hl (by simp),RD.Same.new vc,Z2j,fun x l (e:([]:List Addr)[x]?=some l)=>absurd e (by rw [List.getElem?_nil];intro z;cases z)⟩ ?_ ?_⟩
  ·rintro i H2 hi ⟨ls,e1,nd,nw,nh,s2,h2,eh⟩;refine⟨rfl,fk _,fun l hl=>?_⟩;have nl:∀ {b:Addr}{o:HO},H2 b=some o->b≠l:=fun e=>ba e hl;refine⟨_,by rw [aj (nl h2)];exact h2,by rw [aW,ak];omega,ls++[l],by simp [e1],?_,?_,?_,?_,?_,?_⟩
   ·refine rg.mpr ⟨nd,by simp,fun a ha b hb z=>?_⟩
    obtain⟨x,hx⟩:=List.getElem?_of_mem ha;have:=nl (eh x a hx);simp at hb;exact this (z.trans hb)
   ·rw [dz,b9];exact⟨nw,by simpa using nl h2⟩
   ·intro b hb;rcases dz.mp hb with hb |hb
    ·exact nh b hb
    ·rw [du.mp hb];exact s2.free hl
   ·intro b o e;rw [aj (fun z=>by rw [z,vc]at e;cases e),aj (nl (s2 _ _ e))]
    exact s2 _ _ e
   ·rw [Z2j,fO];rfl
   ·intro x l' e;have hlw:l'≠wl:=by
     rintro rfl;have:=gL e;rw [dz]at this;rcases this with h |h
     ·exact nw h
     ·exact nl h2 (du.mp h)
    rw [aj hlw];by_cases lt:x<ls.length
    ·rw [mJ lt]at e;rw [aj (nl (eh x l' e))];exact eh x l' e
    ·have l1:=(eg.mp e).1;rw [gD,E4]at l1;have:x=ls.length:=by omega
     subst this;rw [uI (bO _),uL]at e;cases e;exact Z2j
  ·rintro H2 ⟨ls,e1,nd,nw,nh,s2,h2,eh⟩;have R0:Rws CW G H2 wl ls (fun _=>[]) (G.at_ 0):=⟨h2,nd,nw,fun x l e=>eh x l e,fun x=>rfl,fun x j r p e _=>by simp at e⟩
   have e1:ls.length=G.n:=by omega
   refine⟨_,rfl,bl,_,rfl,SqL.of (s2 _ _ D.top),Fj (K:=K) (a:=bl) (xs:=bs.map V.ref) (fun i σ H'=>∃ (v3 v4 v5:Option V)(ws:Nat->List Addr),σ=[some (.int (G.n:Int)),some (.ref bl),some (.ref wl),v3,v4,v5]/\L2.Same H H'/\Rws CW G H' wl ls ws (G.at_ i))
    ⟨none,none,none,_,rfl,s2,R0⟩ (fun i σ H' _ ⟨_,_,_,_,_,s',_⟩=>SqL.of (s' _ _ D.top)) ?_ ?_⟩
   ·rintro i y σ H3 T hi ⟨v3,v4,v5,ws,rfl,s3,R3⟩ hT;obtain⟨r,xk,rfl⟩:∃ r,bs[i]?=some r/\y=V.ref r:=by
     rw [dQ]at hi;cases e:bs[i]? with
     |none=>rw [e]at hi;cases hi
     |some r=>rw [e]at hi;exact⟨r,rfl,(Option.some.inj hi).symm⟩
    have im:i<G.m:=by rw [<-D.len];exact(eg.mp xk).1
    have an:=hG.an i im;have bn:=hG.bn i im;have zN:=hG.ne i im;have s4:L2.Same H (upd H3 T (.tup [.int (i:Int),.ref r])):=s3.trans (RD.Same.new hT);have R4:=R3.same (RD.Same.new (o:=.tup [.int (i:Int),.ref r]) hT);obtain⟨dx,J9⟩:=(D.same s4).bond i r xk;have la:ls[(G.bd i).a]?=some ls[(G.bd i).a]:=dv (by omega)
    have lb:ls[(G.bd i).b]?=some ls[(G.bd i).b]:=dv (by omega)
    have LX:=R4.row _ _ la;refine⟨T,_,rfl,SqT.of Z2j,rfl,_,_,rfl,_,_,rfl,rfl,?_⟩;refine⟨_,rfl,_,rfl,r,CB,dx,_,_,rfl,J9,B.cl,B.na,lL _ _ _ _,wl,_,_,.ref ls[(G.bd i).a],rfl,rfl,SqL.of R4.top,qA (by rw [dQ,la];rfl),.inl ⟨rfl,_,SqL.of LX⟩,
     _,rfl,_,rfl,r,CB,dx,_,_,rfl,J9,B.cl,B.nb,lM _ _ _ _,_,rfl,r,CB,dx,_,_,rfl,J9,B.cl,B.no,Jj _ _ _ _,fun x xd nx nd' ndx=>⟨x,xd,_,_,_,rfl,Z2j,fun H5 d ah g1 g2 g3 g4 o5=>⟨rfl,?_⟩⟩⟩
    have RE:L2.Same (upd H3 T (.tup [.int (i:Int),.ref r])) H5:=fun b o e=>o5 b o (by rw [aj (ba e nx),aj (ba e nd')];exact e) (ba e nx)
    have R5:=R4.same RE;have s5:=s4.trans RE;have DJ:=R5.row _ _ la;have len5:=R5.wln (G.bd i).a;have al:=G.at_len (G.bd i).a i;refine⟨_,_,_,rfl,rfl,DJ,by rw [aW,ak];omega,?_⟩
    have R6:=R5.app (x:=(G.bd i).a) (e:=i) (y:=(G.bd i).b) la ⟨xd,d,ah,g1,g2,g3,g4⟩;have Rh:∀ {x:Nat},(h:x<ls.length)->H ls[x]=none:=fun h=>nh _ (AI h);have s6:L2.Same H (upd H5 ls[(G.bd i).a] (.lst ((ws (G.bd i).a).map V.ref++[.ref x]))):=fun b o e=>by
     rw [aj (fun z=>by rw [z,Rh (by omega)]at e;cases e)];exact s5 _ _ e
    obtain⟨qE,Ka⟩:=(D.same s6).bond i r xk;have LY:=R6.row _ _ lb;refine⟨_,rfl,_,rfl,r,CB,qE,_,_,rfl,Ka,B.cl,B.nb,lM _ _ _ _,wl,_,_,.ref ls[(G.bd i).b],rfl,rfl,SqL.of R6.top,qA (by rw [dQ,lb];rfl),.inl ⟨rfl,_,SqL.of LY⟩,
     _,rfl,_,rfl,r,CB,qE,_,_,rfl,Ka,B.cl,B.na,lL _ _ _ _,_,rfl,r,CB,qE,_,_,rfl,Ka,B.cl,B.no,Jj _ _ _ _,fun x2 RM Rm nd2 ndx2=>⟨x2,RM,_,_,_,rfl,Z2j,fun H7 d2 Li g1' g2' g3' g4' o7=>⟨rfl,?_⟩⟩⟩
    have RF:L2.Same (upd H5 ls[(G.bd i).a] (.lst ((ws (G.bd i).a).map V.ref++[.ref x]))) H7:=fun b o e=>o7 b o (by rw [aj (ba e Rm),aj (ba e nd2)];exact e) (ba e Rm)
    have R7:=R6.same RF;have s7:=s6.trans RF;have DK:=R7.row _ _ lb;have len7:=R5.wln (G.bd i).b;have bl':=G.at_len (G.bd i).b i;refine⟨_,_,_,rfl,rfl,DK,by rw [aW,ak,ac (Ne.symm zN)];omega,?_⟩
    have R8:=R7.app (x:=(G.bd i).b) (e:=i) (y:=(G.bd i).a) lb ⟨RM,d2,Li,g1',g2',g3',g4'⟩;refine⟨_,_,_,_,rfl,fun b o e=>?_,R8.top,R8.nd,R8.tn,R8.row,fun z=>?_,fun z j r' p h1 h2=>?_⟩
    ·rw [aj (fun z=>by rw [z,Rh (by omega)]at e;cases e)];exact s7 _ _ e
    all_goals
     have key:∀ z,G.at_ (i+1) z=(fun z=>if z=(G.bd i).b then(fun z=>if z=(G.bd i).a then G.at_ i (G.bd i).a++[(i,(G.bd i).b)]else G.at_ i z) (G.bd i).b++[(i,(G.bd i).a)]else(fun z=>if z=(G.bd i).a then G.at_ i (G.bd i).a++[(i,(G.bd i).b)]else G.at_ i z) z) z:=fun z=>by
      show(G.at_ i z++if z=(G.bd i).a then[(i,(G.bd i).b)]else[])++(if z=(G.bd i).b then[(i,(G.bd i).a)]else[])=_;by_cases q2:z=(G.bd i).b
      ·subst q2;rw [ac (Ne.symm zN)];simp [Ne.symm zN]
      ·by_cases q1:z=(G.bd i).a
       ·subst q1;simp [zN]
       ·simp [q1,q2]
    ·rw [key z];exact R8.wln z
    ·rw [key z]at h2;exact R8.way z j r' p h1 h2
   ·rintro σ H3 ⟨v3,v4,v5,ws,rfl,s3,R3⟩;have lm:(bs.map V.ref).length=G.m:=by rw [aW,D.len]
    rw [lm]at R3;refine⟨_,rfl,k H3 wl ls ws (G.at_ G.m) s3 ⟨R3.top,e1,R3.row,fun x _=>R3.wln x,fun x j r p _=>R3.way x j r p,fun x e y _=>G.mem_at x e y G.m,fun x _=>G.at_nd x G.m hG.ne⟩⟩
end
end BK
end
section
namespace BK
open PySem PySem.Spec PyProof.Rows L2 EX RD
theorem A2{bs:List Int}:∀ {ms:List Int}{p q:Nat},p<=bs.length->bY bs p ms=.ok q->q<=bs.length
 |[],p,q,h,e=>by
  unfold bY at e;cases e;exact h
 |m::ms,p,q,h,e=>by
  unfold bY at e;split at e
  ·cases e
  ·split at e
   ·cases e
   ·exact A2 (by omega) e
theorem dB{bs:List Int}{p n:Nat}{lo hi v:Int}(e:aX bs p n lo hi=.ok v):p+n<=bs.length/\lo<=v/\v<=hi/\v=fu ((bs.drop p).take n):=by
 unfold aX at e;split at e
 ·cases e
 ·split at e
  ·cases e
  ·rename_i h1 h2;cases e;refine⟨by omega,?_,?_,rfl⟩<;>omega
def eR(bs:List Int)(p:Nat):Except (Int×Int) Fk.Atom:=
 match aX bs p 1 1 118 with
 |.error e=>.error e
 |.ok x=>match aX bs (p+1) 2 0 500 with
  |.error e=>.error e
  |.ok y=>match aX bs (p+3) 1 0 8 with
   |.error e=>.error e
   |.ok c=>match aX bs (p+4) 1 0 7 with
    |.error e=>.error e
    |.ok h=>match aX bs (p+5) 1 0 2 with
     |.error e=>.error e
     |.ok s=>.ok ⟨x.toNat,y.toNat,c-4,h.toNat,s.toNat⟩
def jn(bs:List Int):Nat->Nat->Except (Int×Int) (List Fk.Atom)
 |0,_=>.ok []
 |k+1,p=>match eR bs p with
  |.error e=>.error e
  |.ok x=>match jn bs k (p+6)with
   |.error e=>.error e
   |.ok y=>.ok (x::y)
def eS(bs:List Int)(n:Int)(p:Nat)(b:Int×Int):Except (Int×Int) Fk.Bond:=
 match aX bs p 1 0 (n-1)with
 |.error e=>.error e
 |.ok x=>match aX bs (p+1) 1 (x+1) (n-1)with
  |.error e=>.error e
  |.ok y=>if cN [x,y] [b.1,b.2]=true then .error (3,p)else match aX bs (p+2) 1 1 3 with
   |.error e=>.error e
   |.ok o=>match aX bs (p+3) 1 0 2 with
    |.error e=>.error e
    |.ok s=>.ok ⟨x.toNat,y.toNat,o.toNat,s.toNat⟩
def jp(bs:List Int)(n:Int):Nat->Nat->Int×Int->Except (Int×Int) (List Fk.Bond)
 |0,_,_=>.ok []
 |k+1,p,b=>match eS bs n p b with
  |.error e=>.error e
  |.ok x=>match jp bs n k (p+4) (x.a,x.b)with
   |.error e=>.error e
   |.ok y=>.ok (x::y)
def rH(bs:List Int):Except (Int×Int) Fk.Mol:=
 match bY bs 0 [70,75,77,49]with
 |.error e=>.error e
 |.ok p=>match aX bs p 1 0 128 with
  |.error e=>.error e
  |.ok n=>match aX bs (p+1) 1 0 192 with
   |.error e=>.error e
   |.ok m=>match jn bs n.toNat (p+2)with
    |.error e=>.error e
    |.ok as=>match jp bs n m.toNat (p+2+6*n.toNat) (0,0)with
     |.error e=>.error e
     |.ok ds=>if p+2+6*n.toNat+4*m.toNat<bs.length then .error (7,(p+2+6*n.toNat+4*m.toNat:Nat))else .ok ⟨as,ds⟩
def jb(bs:List Int):Except (Int×Int) Fk.Mol:=
 match rH bs with
 |.error e=>.error e
 |.ok M=>match (List.range M.n).find? fun v=>(M.atom v).hand != 0&&!M.handed v with
  |some v=>.error (4,((6+6*v+5:Nat):Int))
  |none=>match (List.range M.bonds.length).find? fun j=>(M.bonds[j]?.map Fk.Bond.side).getD 0 != 0&&!M.sided j with
   |some j=>.error (6,((6+6*M.n+4*j+3:Nat):Int))
   |none=>.ok M
structure GZ(x:Fk.Atom):Prop where
 el:1<=x.element/\x.element<=118
 iso:x.isotope<=500
 ch:-4<=x.charge/\x.charge<=4
 hy:x.hydrogens<=7
 hd:x.hand<=2
structure AB(n:Nat)(x:Fk.Bond):Prop where
 ab:x.a<x.b
 bn:x.b<n
 od:1<=x.order/\x.order<=3
 sd:x.side<=2
def An(x y:Fk.Bond):Prop:=x.a<y.a\/(x.a=y.a/\x.b<y.b)
structure Wf(M:Fk.Mol):Prop where
 n:M.atoms.length<=128
 m:M.bonds.length<=192
 at_:∀ x∈M.atoms,GZ x
 bd:∀ x∈M.bonds,AB M.atoms.length x
 rs:M.bonds.Pairwise An
theorem Ph{bs:List Int}{p:Nat}{x:Fk.Atom}(e:eR bs p=.ok x):p+6<=bs.length/\GZ x:=by
 unfold eR at e;split at e
 ·cases e
 ·rename_i h1;split at e
  ·cases e
  ·rename_i h2;split at e
   ·cases e
   ·rename_i h3;split at e
    ·cases e
    ·rename_i h4;split at e
     ·cases e
     ·rename_i h5;cases e;have a1:=dB h1;have a2:=dB h2;have a3:=dB h3;have a4:=dB h4;have a5:=dB h5;refine⟨by omega,⟨?_,?_,?_,?_,?_⟩⟩<;>dsimp only<;>omega
theorem IF{bs:List Int}:∀ {k p:Nat}{l:List Fk.Atom},jn bs k p=.ok l->p<=bs.length->l.length=k/\p+6*k<=bs.length/\∀ x∈l,GZ x
 |0,p,l,e,hp=>by unfold jn at e;cases e;exact⟨rfl,by omega,fun x hx=>by simp at hx⟩
 |k+1,p,l,e,hp=>by
  unfold jn at e;split at e
  ·cases e
  ·rename_i h1;split at e
   ·cases e
   ·rename_i h2;cases e;have a1:=Ph h1;have a2:=IF h2 (by omega)
    refine⟨by rw [gC,a2.1],by omega,fun x hx=>?_⟩
    rcases bw.mp hx with rfl |hx
    ·exact a1.2
    ·exact a2.2.2 x hx
theorem ZbS(x y a b:Int):cN [x,y] [a,b]=true↔x<a\/(x=a/\y<=b):=by
 rw [HV];split
 ·rename_i h;rw [HV];split
  ·rename_i h2;exact⟨fun _=>.inr ⟨h,by omega⟩,fun _=>rfl⟩
  ·rename_i h2;rw [ag];omega
 ·rename_i h;rw [ag];omega
theorem Op{bs:List Int}{n:Int}{p:Nat}{b:Int×Int}{x:Fk.Bond}(e:eS bs n p b=.ok x):p+4<=bs.length/\AB n.toNat x/\(b.1<x.a\/(b.1=x.a/\b.2<x.b)):=by
 unfold eS at e;split at e
 ·cases e
 ·rename_i h1;split at e
  ·cases e
  ·rename_i h2;split at e
   ·cases e
   ·rename_i h3;split at e
    ·cases e
    ·rename_i h4;split at e
     ·cases e
     ·rename_i h5;cases e;rw [ZbS]at h3;have a1:=dB h1;have a2:=dB h2;have a4:=dB h4;have a5:=dB h5;refine⟨by omega,⟨?_,?_,?_,?_⟩,?_⟩<;>dsimp only<;>omega
theorem ON{bs:List Int}{n:Int}:∀ {k p:Nat}{b:Int×Int}{l:List Fk.Bond},jp bs n k p b=.ok l->p<=bs.length->l.length=k/\p+4*k<=bs.length/\(∀ x∈l,AB n.toNat x)/\(∀ x∈l,b.1<x.a\/(b.1=x.a/\b.2<x.b))/\l.Pairwise An
 |0,p,b,l,e,hp=>by unfold jp at e;cases e;exact⟨rfl,by omega,fun x hx=>by simp at hx,fun x hx=>by simp at hx,List.Pairwise.nil⟩
 |k+1,p,b,l,e,hp=>by
  unfold jp at e;split at e
  ·cases e
  ·rename_i h1;split at e
   ·cases e
   ·rename_i h2;cases e;obtain⟨a1,a2,a3⟩:=Op h1;obtain⟨c1,c2,c3,c4,c5⟩:=ON h2 (by omega)
    refine⟨by rw [gC,c1],by omega,fun x hx=>?_,fun x hx=>?_,List.Pairwise.cons (fun y hy=>?_) c5⟩
    ·rcases bw.mp hx with rfl |hx
     ·exact a2
     ·exact c3 x hx
    ·rcases bw.mp hx with rfl |hx
     ·exact a3
     ·have:=c4 x hx;dsimp only at this;omega
    ·have:=c4 y hy;dsimp only at this;unfold An;omega
theorem ZbJ{bs:List Int}{M:Fk.Mol}(e:rH bs=.ok M):Wf M:=by
 unfold rH at e;split at e
 ·cases e
 ·rename_i h1;split at e
  ·cases e
  ·rename_i h2;split at e
   ·cases e
   ·rename_i h3;split at e
    ·cases e
    ·rename_i h4;split at e
     ·cases e
     ·rename_i h5;split at e
      ·cases e
      ·cases e;have a1:=dB h2;have a2:=dB h3;have a3:=IF h4 (by omega)
       have a4:=ON h5 (by omega)
       refine⟨by dsimp only;omega,by dsimp only;omega,a3.2.2,?_,a4.2.2.2.2⟩
       dsimp only;rw [a3.1];exact a4.2.2.1
structure TR(K:aq)(mg:Str->Option Value)(CF CR fF:Addr):Prop where
 xi:jm K CF fF "rule" "place" "which" 0
 cl:Cls K CR
 nf:NoAttr K CR "form"
 np:NoAttr K CR "place"
 mgF:mg "Fault" = some (.ref CF)
 mgR:mg "Reader" = some (.ref CR)
 len:mg "len" = none
 rev:mg "reversed" = none
 c1:∃ u,mg "WRONG_MARK" = some u/\RelV (.int 1) u
 c2:∃ u,mg "OUT_OF_BOUNDS" = some u/\RelV (.int 2) u
 c5:∃ u,mg "ENDS_EARLY" = some u/\RelV (.int 5) u
 c7:∃ u,mg "LEFT_OVER" = some u/\RelV (.int 7) u
section
variable{P:Program}{w:World}{K:aq}{mg:Str->Option Value}{base:Heap}{CF CR fF:Addr}
def yF(CR:Addr):Sp:=fun vs H Q _=>∃ (r dx a:Addr),vs=[.ref r,.ref a]/\H r=some (.ins CR dx [])/\∀ H':Hp,dX CR H' r a 0->Only r H H'->Q .non H'
theorem Md:cX ["self","form"] ["self","form"] (bo HM):=⟨rfl,rfl,rfl,by decide +kernel,rfl,by decide +kernel,by decide +kernel⟩
theorem Dx{f:Addr}{fd:FuncData}(F:Fun K "__init__" "Reader.__init__" HM f fd)(T:TR K mg CF CR fF):am P w K mg base CX0 1 f fd ["self","form"] (yF CR):=by
 refine F.ok Md (fun vs H Q E h=>?_) (fun bq A outer s H vs Q E hr h=>?_)
 ·obtain⟨r,dx,a,rfl,_⟩:=h;rfl
 ·obtain⟨r,dx,a,rfl,hp,k⟩:=h;refine⟨_,aO (gu (pv 0) (pv 1) rfl) (bh (gu (pv 0) bz rfl)),?_⟩;refine⟨_,rfl,_,rfl,r,CR,dx,[],rfl,hp,T.cl,T.nf,(by show 0<1000;decide),?_⟩
  refine⟨_,rfl,r,CR,dx,_,rfl,Z2j,T.cl,T.np,(by show 1<1000;decide),?_⟩
  refine k _ ⟨dx,?_⟩ ?_
  ·rw [Z2j,DI];rfl
  ·exact(Only.upd _).trans (Only.upd _)
def Jv(K:aq)(CF CR:Addr):Sp:=fun vs H Q E=>∃ (r a m:Addr)(p:Nat)(bs ms:List Int),vs=[.ref r,.ref m]/\dX CR H r a p/\SqL K H a (bs.map V.int)/\SqT K H m (ms.map V.int)/\p<=bs.length /\
 match bY bs p ms with
 |.ok q=>∀ H':Hp,dX CR H' r a q->Only r H H'->Q .non H'
 |.error e=>Flt CF E H r e.1 e.2
theorem pR:cX ["self","mark","byte"] ["self","mark"] (bo Ht):=⟨rfl,rfl,rfl,by decide +kernel,rfl,by decide +kernel,by decide +kernel⟩
theorem oQ{f:Addr}{fd:FuncData}(F:Fun K "expect_mark" "Reader.expect_mark" Ht f fd)(T:TR K mg CF CR fF):am P w K mg base (gP P w) 2 f fd ["self","mark"] (Jv K CF CR):=by
 refine kZ F pR (fun vs H Q E h=>?_) (fun bq A outer s H vs Q E hr h=>?_)
 ·obtain⟨r,a,m,p,bs,ms,rfl,_⟩:=h;rfl
 ·obtain⟨r,a,m,p,bs,ms,rfl,hR,hS,hM,hp,k⟩:=h;have gO:=(show A.depth+1+1<recursionLimit from by have:=hr.dp;simp only [Around.deeper]at this;omega)
  refine⟨_,bh (lI Bo rfl (pw (pv 1)) (eU (i:=2) pR.nd rfl (Or.inl rfl))
   (aO (b8 (gr iR (br (pv 0) rfl) (l7 rj (by rfl) T.len PySem.boot_len (ao (br (pv 0) rfl) aE)) (eT _))
     (bh (uN T.xi rfl rfl gO rfl T.mgF rD (ao (ay rfl T.c5) (ao (br (pv 0) rfl) aE)))) io)
   (aO (b8 (gr d5 (dq qz (br (pv 0) rfl) (br (pv 0) rfl) (fun _ _=>rfl)) (pv 2) (eT _))
     (bh (uN T.xi rfl rfl gO rfl T.mgF rD (ao (ay rfl T.c1) (ao (br (pv 0) rfl) aE)))) io)
   (bh (Zbq (pv 0) bz xA))))),?_⟩
  have hx:∀ {i:Nat}{y:V},(ms.map V.int)[i]?=some y->∃ z,ms[i]?=some z/\y=V.int z:=fun{i y} hi=>by
   rw [dQ]at hi;cases e:ms[i]? with
   |none=>rw [e]at hi;cases hi
   |some z=>rw [e]at hi;exact⟨z,rfl,(Option.some.inj hi).symm⟩
  refine⟨_,rfl,m,rfl,⟨_,hM⟩,Py (K:=K) (a:=m) (xs:=ms.map V.int) (fun i σ H'=>∃ v:Option V,σ=[some (.ref r),some (.ref m),v]/\Only r H H'/\dX CR H' r a (p+i)/\p+i<=bs.length/\bY bs p ms=bY bs (p+i) (ms.drop i))
   ⟨none,rfl,Only.refl _ _,hR,hp,rfl⟩ (fun i σ H' _ ⟨_,_,o,_,_⟩=>by obtain⟨_,xk⟩:=hR;exact o.sqT xk hM) ?_ ?_⟩
  ·rintro i y σ H' hi ⟨v,rfl,o,⟨dx,h1⟩,i9,qK⟩;obtain⟨z,hz,rfl⟩:=hx hi;obtain⟨_,xk⟩:=id hR;have qG:=o.sq xk hS;have hdr:ms.drop i=z::ms.drop (i+1):=by
    have cg:=(eg.mp hz).1;rw [Hd cg,(eg.mp hz).2]
   rw [hdr]at qK;refine⟨_,rfl,r,CR,dx,_,_,rfl,h1,T.cl,T.np,l5 _ _,_,rfl,r,CR,dx,_,_,rfl,h1,T.cl,T.nf,zt _ _,a,_,rfl,.inl qG,rfl,_,rfl,bu (fun hc=>?_) (fun hc=>?_)⟩
   ·have fV:p+i=bs.length:=by
     have:=ap hc;simp only [V.int.injEq,aW]at this;omega
    rw [qK]at k;unfold bY at k;rw [ae fV]at k;refine⟨_,rfl,r,CR,dx,_,_,rfl,h1,T.cl,T.np,l5 _ _,_,_,_,.inr ⟨rfl,rfl⟩,fun eO hn=>?_⟩;exact k _ eO (o.new hn) Z2j
   ·have fV:p+i≠bs.length:=fun e=>hc (ai (by simp only [aW];rw [e]))
    have cg:p+i<bs.length:=by omega
    refine⟨_,rfl,r,CR,dx,_,_,rfl,h1,T.cl,T.nf,zt _ _,_,rfl,r,CR,dx,_,_,rfl,h1,T.cl,T.np,l5 _ _,a,_,_,_,rfl,rfl,qG,qA (by rw [dQ,dv cg];rfl),_,rfl,rfl,_,rfl,bu (fun gN=>?_) (fun gN=>?_)⟩
    ·have bV:bs[p+i]?≠some z:=fun e=>by
      rw [dv cg]at e;rw [Option.some.inj e]at gN;simp at gN
     rw [qK]at k;unfold bY at k;rw [ac fV,ae bV]at k;refine⟨_,rfl,r,CR,dx,_,_,rfl,h1,T.cl,T.np,l5 _ _,_,_,_,.inr ⟨rfl,rfl⟩,fun eO hn=>?_⟩;exact k _ eO (o.new hn) Z2j
    ·have heq:bs[p+i]?=some z:=by
      rw [dv cg];simp at gN;rw [gN]
     refine⟨_,rfl,r,CR,dx,_,_,rfl,h1,T.cl,T.np,l5 _ _,_,_,rfl,rfl,dx,_,h1,(by show 2<1000;decide),?_⟩
     refine⟨_,rfl,o.trans (Only.upd _),⟨dx,?_⟩,by omega,?_⟩
     ·rw [Z2j,pJ];rfl
     ·rw [qK]
      conv=>lhs;unfold bY
      rw [ac fV,ac (by simpa using heq)]
      rfl
  ·rintro σ H' ⟨v,rfl,o,hR',i9,qK⟩;rw [aW]at hR' qK i9;rw [List.drop_length]at qK;rw [qK]at k;exact k H' hR' o
end
section
variable{P:Program}{w:World}{K:aq}{mg:Str->Option Value}{base:Heap}{CF CR fF:Addr}
def iW(K:aq)(CF CR:Addr):Sp:=fun vs H Q E=>∃ (r a:Addr)(p size:Nat)(bs:List Int)(lo hi:Int),vs=[.ref r,.int size,.int lo,.int hi]/\dX CR H r a p/\SqL K H a (bs.map V.int)/\p<=bs.length/\(∀ x∈bs,0<=x/\x<=255) /\
 match aX bs p size lo hi with
 |.ok v=>∀ H':Hp,dX CR H' r a (p+size)->Only r H H'->Q (.int v) H'
 |.error e=>Flt CF E H r e.1 e.2
def Jo(K:aq)(CF CR:Addr):Sp:=fun vs H Q E=>∃ (r a:Addr)(p size:Nat)(bs:List Int),vs=[.ref r,.int size]/\dX CR H r a p/\SqL K H a (bs.map V.int)/\p<=bs.length /\
 (p+size<=bs.length->∀ (H':Hp)(l:Addr),dX CR H' r a (p+size)->Only r H H'->H l=none->H' l=some (.lst (((bs.drop p).take size).map V.int))->Q (.ref l) H')/\(bs.length<p+size->Flt CF E H r 5 bs.length)
theorem kj:cX ["self","size","end","taken"] ["self","size"] (bo HN):=⟨rfl,rfl,rfl,by decide +kernel,rfl,by decide +kernel,by decide +kernel⟩
theorem oS{f:Addr}{fd:FuncData}(F:Fun K "take" "Reader.take" HN f fd)(T:TR K mg CF CR fF):am P w K mg base (gP P w) 2 f fd ["self","size"] (Jo K CF CR):=by
 refine kZ F kj (fun vs H Q E h=>?_) (fun bq A outer s H vs Q E hr h=>?_)
 ·obtain⟨r,a,p,size,bs,rfl,_⟩:=h;rfl
 ·obtain⟨r,a,p,size,bs,rfl,hR,hS,hp,k1,k2⟩:=h;have gO:=(show A.depth+1+1<recursionLimit from by have:=hr.dp;simp only [Around.deeper]at this;omega)
  refine⟨_,aO (dj (i:=2) kj.nd rfl (Or.inl rfl) (a0 kJ (br (pv 0) rfl) (pv 1)))
   (aO (b8 (gr lf (pv 2) (l7 rj (by rfl) T.len PySem.boot_len (ao (br (pv 0) rfl) aE)) (eT _))
     (bh (uN T.xi rfl rfl gO rfl T.mgF rD (ao (ay rfl T.c5) (ao (l7 rj (by rfl) T.len PySem.boot_len (ao (br (pv 0) rfl) aE)) aE)))) io)
   (aO (dj (i:=3) kj.nd rfl (Or.inl rfl) (pc t9 (br (pv 0) rfl) (PL (br (pv 0) rfl)) (PL (pv 2))))
   (aO (gu (pv 0) (pv 2) rfl)
   (bh (dL (pv 3)))))),?_⟩
  obtain⟨dx,h1⟩:=hR;refine⟨_,rfl,r,CR,dx,_,_,rfl,h1,T.cl,T.np,l5 _ _,_,rfl,_,_,rfl,rfl,?_⟩;refine⟨_,rfl,_,rfl,r,CR,dx,_,_,rfl,h1,T.cl,T.nf,zt _ _,a,_,rfl,.inl hS,_,_,rfl,rfl,_,rfl,bu (fun hc=>?_) (fun hc=>?_)⟩
  ·have fV:bs.length<p+size:=by
    have:=ap hc;simp only [aW]at this;omega
   refine⟨_,rfl,r,CR,dx,_,_,rfl,h1,T.cl,T.nf,zt _ _,a,_,rfl,.inl hS,_,_,_,.inr ⟨rfl,rfl⟩,fun eO hn=>?_⟩;refine k2 fV _ eO ((Only.refl _ _).new hn) ?_;rw [Z2j,aW];rfl
  ·have fV:¬ bs.length<p+size:=fun e=>hc (ai (by simp only [aW];omega))
   have i9:p+size<=bs.length:=by omega
   refine⟨_,rfl,r,CR,dx,_,_,rfl,h1,T.cl,T.nf,zt _ _,_,rfl,r,CR,dx,_,_,rfl,h1,T.cl,T.np,l5 _ _,_,rfl,_,rfl,_,rfl,a,_,rfl,hS,fun l hl=>?_⟩;have Ke:j5 (bs.map V.int) (some (p:Int)) (some ((p:Int)+(size:Int)))=((bs.drop p).take size).map V.int:=by
    have e:=rW (bs.map V.int) p (p+size) (by rw [aW];exact i9) (zg _ _)
    rw [Nat.add_sub_cancel_left,<-List.map_drop,<-List.map_take]at e;exact e
   rw [Ke];have h2:upd H l (.lst (((bs.drop p).take size).map V.int)) r=some (.ins CR dx (rf a p)):=by rw [aj (ba h1 hl)];exact h1
   refine⟨_,rfl,_,rfl,r,CR,dx,_,rfl,h2,T.cl,T.np,(by show 2<1000;decide),_,rfl,?_⟩
   refine k1 i9 _ l ⟨dx,?_⟩ (((Only.refl _ _).new hl).trans (Only.upd _)) hl ?_
   ·rw [Z2j,pJ];rfl
   ·rw [aj (ba h1 hl).symm,Z2j]
theorem jE:cX ["self","size","least","most","start","value","byte"] ["self","size","least","most"] (bo HF):=⟨rfl,rfl,rfl,by decide +kernel,rfl,by decide +kernel,by decide +kernel⟩
theorem Dv{f fT:Addr}{fd BG:FuncData}(F:Fun K "number" "Reader.number" HF f fd)(T:TR K mg CF CR fF)(GT:am P w K mg base (gP P w) 2 fT BG ["self","size"] (Jo K CF CR))(mT:aS K CR "take" fT)(bT:Binds K BG ["self","size"] []):
  am P w K mg base (gP P w) 3 f fd ["self","size","least","most"] (iW K CF CR):=by
 refine kZ F jE (fun vs H Q E h=>?_) (fun bq A outer s H vs Q E hr h=>?_)
 ·obtain⟨r,a,p,size,bs,lo,hi,rfl,_⟩:=h;rfl
 ·obtain⟨r,a,p,size,bs,lo,hi,rfl,hR,hS,hp,hb,k⟩:=h;have gO:=(show A.depth+1+1<recursionLimit from by have:=hr.dp;simp only [Around.deeper]at this;omega)
  refine⟨_,aO (dj (i:=4) jE.nd rfl (Or.inl rfl) (br (pv 0) rfl))
   (aO (dj (i:=5) jE.nd rfl (Or.inl rfl) bz)
   (aO (lI Bo rfl (Z9M rfl T.rev (ao (ez (pv 0) T.cl mT GT hr bT .nil gv (ao (pv 1) aE)) aE)) (eU (i:=6) jE.nd rfl (Or.inl rfl))
     (bh (dj (i:=5) jE.nd rfl (Or.inl rfl) (a0 kJ (a0 zE (pv 5) bz) (pv 6)))))
   (aO (b8 (PW.pt (jA (gr vp (pv 5) (pv 2) (eT _)) (FI (gr lf (pv 5) (pv 3) (eT _)))))
     (bh (uN T.xi rfl rfl gO rfl T.mgF rD (ao (ay rfl T.c2) (ao (pv 4) aE)))) io)
   (bh (dL (pv 5)))))),?_⟩
  obtain⟨dx,h1⟩:=id hR;refine⟨_,rfl,r,CR,dx,_,_,rfl,h1,T.cl,T.np,l5 _ _,?_⟩;refine⟨_,rfl,r,dx,_,rfl,h1,cy _ _ (by decide) (by decide),_,rfl,r,a,p,size,bs,rfl,hR,hS,hp,fun i9 H1 l jR o1 nl hl=>?_,fun cg=>?_⟩
  ·unfold aX at k;rw [ac (by omega)]at k
   have bQ:((bs.drop p).take size).length=size:=by rw [lX,AR];omega
   generalize hbl:(bs.drop p).take size=bl at *
   refine⟨l,bl.map V.int,rfl,SqL.of hl,ss (K:=K) (a:=l) (xs:=bl.map V.int)
    (fun i σ H'=>∃ v:Option V,σ=[some (.ref r),some (.int size),some (.int lo),some (.int hi),some (.int p),some (.int (fu (bl.drop (bl.length-i)))),v]/\H'=H1)
    ⟨none,?_,rfl⟩ (fun i σ H' _ ⟨_,_,e⟩=>by rw [e];exact SqL.of hl) ?_ ?_⟩
   ·rw [zj,List.drop_length];rfl
   ·rintro i x σ H' hi hx ⟨v,rfl,rfl⟩;rw [aW]at hi hx;obtain⟨z,hz,rfl⟩:∃ z,bl[bl.length-1-i]?=some z/\x=V.int z:=by
     rw [dQ]at hx;cases e:bl[bl.length-1-i]? with
     |none=>rw [e]at hx;cases hx
     |some z=>rw [e]at hx;exact⟨z,rfl,(Option.some.inj hx).symm⟩
    refine⟨_,rfl,_,_,rfl,rfl,.inr ⟨by decide,by decide⟩,_,rfl,_,_,rfl,rfl,?_⟩
    refine⟨some (.int z),?_,rfl⟩;rw [ZbG hi hz];rfl
   ·rintro σ H' ⟨v,rfl,rfl⟩;rw [aW,uL,List.drop_zero];refine⟨_,rfl,_,rfl,_,_,rfl,rfl,_,rfl,?_⟩;refine bu (fun gN=>?_) (fun gN=>?_)
    ·rw [ae (.inl (ap gN))]at k;refine⟨_,rfl,_,_,_,.inr ⟨rfl,rfl⟩,fun eO hn=>?_⟩;exact k _ eO (o1.new hn) Z2j
    ·refine⟨_,rfl,_,rfl,_,_,rfl,rfl,_,rfl,bu (fun kQ=>?_) (fun kQ=>?_)⟩
     ·rw [ae (.inr (ap kQ))]at k;refine⟨_,rfl,_,_,_,.inr ⟨rfl,rfl⟩,fun eO hn=>?_⟩;exact k _ eO (o1.new hn) Z2j
     ·rw [ac (by rintro(z |z);exact gN (ai z);exact kQ (ai z))]at k
      exact⟨_,rfl,k H' jR o1⟩
  ·unfold aX at k;rw [ae cg]at k;exact k
def p0(K:aq)(CF CR:Addr):Sp:=fun vs H Q E=>∃ (r a:Addr)(p:Nat)(bs:List Int),vs=[.ref r]/\dX CR H r a p/\SqL K H a (bs.map V.int)/\p<=bs.length /\
 (p=bs.length->∀ H':Hp,Same H H'->Q .non H')/\(p<bs.length->Flt CF E H r 7 p)
theorem DT:cX ["self"] ["self"] (bo HE):=⟨rfl,rfl,rfl,by decide +kernel,rfl,by decide +kernel,by decide +kernel⟩
theorem vn{f:Addr}{fd:FuncData}(F:Fun K "finish" "Reader.finish" HE f fd)(T:TR K mg CF CR fF):am P w K mg base (gP P w) 2 f fd ["self"] (p0 K CF CR):=by
 refine kZ F DT (fun vs H Q E h=>?_) (fun bq A outer s H vs Q E hr h=>?_)
 ·obtain⟨r,a,p,bs,rfl,_⟩:=h;rfl
 ·obtain⟨r,a,p,bs,rfl,hR,hS,hp,k1,k2⟩:=h;have gO:=(show A.depth+1+1<recursionLimit from by have:=hr.dp;simp only [Around.deeper]at this;omega)
  refine⟨_,bh (b8 (gr vp (br (pv 0) rfl) (l7 rj (by rfl) T.len PySem.boot_len (ao (br (pv 0) rfl) aE)) (eT _))
    (bh (uN T.xi rfl rfl gO rfl T.mgF rD (ao (ay rfl T.c7) (ao (br (pv 0) rfl) aE)))) io),?_⟩
  obtain⟨dx,h1⟩:=hR;refine⟨_,rfl,r,CR,dx,_,_,rfl,h1,T.cl,T.np,l5 _ _,_,rfl,r,CR,dx,_,_,rfl,h1,T.cl,T.nf,zt _ _,a,_,rfl,.inl hS,_,_,rfl,rfl,_,rfl,bu (fun hc=>?_) (fun hc=>?_)⟩
  ·have fV:=ap hc;simp only [aW]at fV;refine⟨_,rfl,r,CR,dx,_,_,rfl,h1,T.cl,T.np,l5 _ _,_,_,_,.inr ⟨rfl,rfl⟩,fun eO hn=>?_⟩;exact k2 (by omega) _ eO ((Only.refl _ _).new hn) Z2j
  ·refine k1 ?_ H (Same.refl H);have:¬ (p:Int)<(bs.length:Int):=fun e=>hc (ai (by simp only [aW];exact e))
   omega
end
end BK
end
section
namespace BK
open PySem PySem.Spec PyProof.Rows L2 EX RD LM
def lK(x:Fk.Atom):List (Str×V):=[("element",.int (x.element:Int)),("isotope",.int (x.isotope:Int)),("charge",.int x.charge),("hydrogens",.int (x.hydrogens:Int)),("hand",.int (x.hand:Int))]
def z7(a b:Addr):List (Str×V):=[("atoms",.ref a),("bonds",.ref b)]
theorem Z9P(x:Fk.Atom):(lK x).lookup ("element":Str)=some (.int (x.element:Int)):=by
 unfold lK;rw [bi,show(("element":Str)=="element")=true by decide]
theorem Z9T(x:Fk.Atom):(lK x).lookup ("isotope":Str)=some (.int (x.isotope:Int)):=by
 unfold lK;rw [bi,show(("isotope":Str)=="element")=false by decide,bi,show(("isotope":Str)=="isotope")=true by decide]
theorem ZaV(x:Fk.Atom):(lK x).lookup ("charge":Str)=some (.int x.charge):=by
 unfold lK;rw [bi,show(("charge":Str)=="element")=false by decide,bi,show(("charge":Str)=="isotope")=false by decide,bi,show(("charge":Str)=="charge")=true by decide]
theorem Fd(x:Fk.Atom):(lK x).lookup ("hydrogens":Str)=some (.int (x.hydrogens:Int)):=by
 unfold lK;rw [bi,show(("hydrogens":Str)=="element")=false by decide,bi,show(("hydrogens":Str)=="isotope")=false by decide,bi,show(("hydrogens":Str)=="charge")=false by decide,bi,show(("hydrogens":Str)=="hydrogens")=true by decide]
theorem nj(x:Fk.Atom):(lK x).lookup ("hand":Str)=some (.int (x.hand:Int)):=by
 unfold lK;rw [bi,show(("hand":Str)=="element")=false by decide,bi,show(("hand":Str)=="isotope")=false by decide,bi,show(("hand":Str)=="charge")=false by decide,bi,show(("hand":Str)=="hydrogens")=false by decide,bi,show(("hand":Str)=="hand")=true by decide]
theorem vY(a b:Addr):(z7 a b).lookup ("atoms":Str)=some (.ref a):=by
 unfold z7;rw [bi,show(("atoms":Str)=="atoms")=true by decide]
theorem A1(a b:Addr):(z7 a b).lookup ("bonds":Str)=some (.ref b):=by
 unfold z7;rw [bi,show(("bonds":Str)=="atoms")=false by decide,bi,show(("bonds":Str)=="bonds")=true by decide]
def AtomAt(CA:Addr)(H:Hp)(r:Addr)(x:Fk.Atom):Prop:=∃ dx,H r=some (.ins CA dx (lK x))
def BndAt(CB:Addr)(H:Hp)(r:Addr)(x:Fk.Bond):Prop:=mx CB H r x.a x.b (x.order:Int) (x.side:Int)
structure uD(K:aq)(CA:Addr):Prop where
 cl:Cls K CA
 ne:NoAttr K CA "element"
 ni:NoAttr K CA "isotope"
 nc:NoAttr K CA "charge"
 nh:NoAttr K CA "hydrogens"
 nd:NoAttr K CA "hand"
structure uG(K:aq)(CM:Addr):Prop where
 cl:Cls K CM
 na:NoAttr K CM "atoms"
 nb:NoAttr K CM "bonds"
structure TM(K:aq)(mg:Str->Option Value):Prop where
 range:mg "range" = none
 enum:mg "enumerate" = none
 mark:∃ a,mg "MARK_molecules" = some (.ref a)/\∀ H,SqT K H a (([70,75,77,49]:List Int).map V.int)
 before:∃ a,mg "BEFORE_ALL" = some (.ref a)/\∀ H,SqT K H a (([0,0]:List Int).map V.int)
 cE:∃ u,mg "MOST_ELEMENT" = some u/\RelV (.int 118) u
 cI:∃ u,mg "MOST_ISOTOPE" = some u/\RelV (.int 500) u
 cA:∃ u,mg "MOST_ATOMS" = some u/\RelV (.int 128) u
 cB:∃ u,mg "MOST_BONDS" = some u/\RelV (.int 192) u
 cC:∃ u,mg "MOST_CHARGE" = some u/\RelV (.int 4) u
 cH:∃ u,mg "MOST_HYDROGENS" = some u/\RelV (.int 7) u
 cD:∃ u,mg "MOST_HAND" = some u/\RelV (.int 2) u
 cO:∃ u,mg "MOST_ORDER" = some u/\RelV (.int 3) u
 cS:∃ u,mg "MOST_SIDE" = some u/\RelV (.int 2) u
 c3:∃ u,mg "NOT_BEHIND" = some u/\RelV (.int 3) u
 c4:∃ u,mg "WRONG_HAND" = some u/\RelV (.int 4) u
 c6:∃ u,mg "WRONG_SIDE" = some u/\RelV (.int 6) u
 z1:∃ u,mg "HEAD_SIZE" = some u/\RelV (.int 6) u
 z2:∃ u,mg "ATOM_SIZE" = some u/\RelV (.int 6) u
 z3:∃ u,mg "BOND_SIZE" = some u/\RelV (.int 4) u
section
variable{P:Program}{w:World}{K:aq}{mg:Str->Option Value}{base:Heap}{CF CR fF CA CB CM:Addr}
def D4(CA:Addr):Sp:=fun vs H Q _=>∃ (r dx:Addr)(x:Fk.Atom),vs=[.ref r,.int (x.element:Int),.int (x.isotope:Int),.int x.charge,.int (x.hydrogens:Int),.int (x.hand:Int)]/\H r=some (.ins CA dx [])/\∀ H':Hp,AtomAt CA H' r x->Only r H H'->Q .non H'
theorem L8:cX ["self","element","isotope","charge","hydrogens","hand"] ["self","element","isotope","charge","hydrogens","hand"] (bo Hz):=⟨rfl,rfl,rfl,by decide +kernel,rfl,by decide +kernel,by decide +kernel⟩
theorem LB{f:Addr}{fd:FuncData}(F:Fun K "__init__" "Atom.__init__" Hz f fd)(T:uD K CA):am P w K mg base CX0 1 f fd ["self","element","isotope","charge","hydrogens","hand"] (D4 CA):=by
 refine F.ok L8 (fun vs H Q E h=>?_) (fun bq A outer s H vs Q E hr h=>?_)
 ·obtain⟨r,dx,x,rfl,_⟩:=h;rfl
 ·obtain⟨r,dx,x,rfl,hp,k⟩:=h;refine⟨_,aO (gu (pv 0) (pv 1) rfl) (aO (gu (pv 0) (pv 2) rfl) (aO (gu (pv 0) (pv 3) rfl) (aO (gu (pv 0) (pv 4) rfl) (bh (gu (pv 0) (pv 5) rfl))))),?_⟩;refine⟨_,rfl,_,rfl,r,CA,dx,[],rfl,hp,T.cl,T.ne,(by show 0<1000;decide),?_⟩
  refine⟨_,rfl,_,rfl,r,CA,dx,_,rfl,Z2j,T.cl,T.ni,(by show 1<1000;decide),?_⟩
  refine⟨_,rfl,_,rfl,r,CA,dx,_,rfl,Z2j,T.cl,T.nc,(by show 2<1000;decide),?_⟩
  refine⟨_,rfl,_,rfl,r,CA,dx,_,rfl,Z2j,T.cl,T.nh,(by show 3<1000;decide),?_⟩
  refine⟨_,rfl,_,rfl,r,CA,dx,_,rfl,Z2j,T.cl,T.nd,(by show 4<1000;decide),?_⟩
  rw [j4,j4,j4,j4];exact k _ ⟨dx,by rw [Z2j];rfl⟩ (Only.upd _)
def D5(CB:Addr):Sp:=fun vs H Q _=>∃ (r dx:Addr)(x:Fk.Bond),vs=[.ref r,.int (x.a:Int),.int (x.b:Int),.int (x.order:Int),.int (x.side:Int)]/\H r=some (.ins CB dx [])/\∀ H':Hp,BndAt CB H' r x->Only r H H'->Q .non H'
theorem L9:cX ["self","a","b","order","side"] ["self","a","b","order","side"] (bo HA):=⟨rfl,rfl,rfl,by decide +kernel,rfl,by decide +kernel,by decide +kernel⟩
theorem LC{f:Addr}{fd:FuncData}(F:Fun K "__init__" "Bond.__init__" HA f fd)(T:uE K CB):am P w K mg base CX0 1 f fd ["self","a","b","order","side"] (D5 CB):=by
 refine F.ok L9 (fun vs H Q E h=>?_) (fun bq A outer s H vs Q E hr h=>?_)
 ·obtain⟨r,dx,x,rfl,_⟩:=h;rfl
 ·obtain⟨r,dx,x,rfl,hp,k⟩:=h;refine⟨_,aO (gu (pv 0) (pv 1) rfl) (aO (gu (pv 0) (pv 2) rfl) (aO (gu (pv 0) (pv 3) rfl) (bh (gu (pv 0) (pv 4) rfl)))),?_⟩;refine⟨_,rfl,_,rfl,r,CB,dx,[],rfl,hp,T.cl,T.na,(by show 0<1000;decide),?_⟩
  refine⟨_,rfl,_,rfl,r,CB,dx,_,rfl,Z2j,T.cl,T.nb,(by show 1<1000;decide),?_⟩
  refine⟨_,rfl,_,rfl,r,CB,dx,_,rfl,Z2j,T.cl,T.no,(by show 2<1000;decide),?_⟩
  refine⟨_,rfl,_,rfl,r,CB,dx,_,rfl,Z2j,T.cl,T.ns,(by show 3<1000;decide),?_⟩
  rw [j4,j4,j4];exact k _ ⟨dx,by rw [Z2j];rfl⟩ (Only.upd _)
def D9(CM:Addr):Sp:=fun vs H Q _=>∃ (r dx a b:Addr),vs=[.ref r,.ref a,.ref b]/\H r=some (.ins CM dx [])/\∀ H':Hp,H' r=some (.ins CM dx (z7 a b))->Only r H H'->Q .non H'
theorem Mb:cX ["self","atoms","bonds"] ["self","atoms","bonds"] (bo Hm):=⟨rfl,rfl,rfl,by decide +kernel,rfl,by decide +kernel,by decide +kernel⟩
theorem LG{f:Addr}{fd:FuncData}(F:Fun K "__init__" "Molecule.__init__" Hm f fd)(T:uG K CM):am P w K mg base CX0 1 f fd ["self","atoms","bonds"] (D9 CM):=by
 refine F.ok Mb (fun vs H Q E h=>?_) (fun bq A outer s H vs Q E hr h=>?_)
 ·obtain⟨r,dx,a,b,rfl,_⟩:=h;rfl
 ·obtain⟨r,dx,a,b,rfl,hp,k⟩:=h;refine⟨_,aO (gu (pv 0) (pv 1) rfl) (bh (gu (pv 0) (pv 2) rfl)),?_⟩;refine⟨_,rfl,_,rfl,r,CM,dx,[],rfl,hp,T.cl,T.na,(by show 0<1000;decide),?_⟩
  refine⟨_,rfl,_,rfl,r,CM,dx,_,rfl,Z2j,T.cl,T.nb,(by show 1<1000;decide),?_⟩
  rw [j4];exact k _ (by rw [Z2j];rfl) (Only.upd _)
theorem Pb{r t:Addr}{H H1:Hp}{C dx:Addr}{fs:List (Str×V)}(o:Only r H H1)(g:H1 r=some (.ins C dx fs))(h:H1 t=none):H t=none:=by
 cases q:H t with
 |none=>rfl
 |some u =>
  by_cases e:t=r
  ·subst e;rw [g]at h;cases h
  ·rw [o _ _ q e]at h;cases h
def pX(K:aq)(CF CR CA:Addr):Sp:=fun vs H Q E=>∃ (r a:Addr)(p:Nat)(bs:List Int),vs=[.ref r]/\dX CR H r a p/\SqL K H a (bs.map V.int)/\p<=bs.length/\(∀ x∈bs,0<=x/\x<=255) /\
 match eR bs p with
 |.ok x=>∀ (H':Hp)(t:Addr),dX CR H' r a (p+6)->Only r H H'->H t=none->AtomAt CA H' t x->Q (.ref t) H'
 |.error e=>Flt CF E H r e.1 e.2
theorem gj:cX ["reader","element","isotope","charge","hydrogens","hand"] ["reader"] (bo HB):=⟨rfl,rfl,rfl,by decide +kernel,rfl,by decide +kernel,by decide +kernel⟩
theorem xS{f fN fI:Addr}{fd kL jt:FuncData}(F:Fun K "read_atom" "read_atom" HB f fd)(T:TR K mg CF CR fF)(B:TM K mg)(GN:am P w K mg base (gP P w) 3 fN kL ["self","size","least","most"] (iW K CF CR))(mN:aS K CR "number" fN)
  (bN:Binds K kL ["self","size","least","most"] [])(M:Mk K CA fI)(hC:mg "Atom" = some (.ref CA))(GI:am P w K mg base CX0 1 fI jt ["self","element","isotope","charge","hydrogens","hand"] (D4 CA))(bI:Binds K jt ["self","element","isotope","charge","hydrogens","hand"] []):
  am P w K mg base (gP P w) 4 f fd ["reader"] (pX K CF CR CA):=by
 refine kZ F gj (fun vs H Q E h=>?_) (fun bq A outer s H vs Q E hr h=>?_)
 ·obtain⟨r,a,p,bs,rfl,_⟩:=h;rfl
 ·obtain⟨r,a,p,bs,rfl,hR,hS,hp,hb,k⟩:=h;have eh:Room 2 _:=hr.mono (by decide)
  refine⟨_,aO (dj (i:=1) gj.nd rfl (Or.inl rfl) (ez (pv 0) T.cl mN GN hr bN .nil gv (ao bz (ao bz (ao (ay rfl B.cE) aE)))))
   (aO (dj (i:=2) gj.nd rfl (Or.inl rfl) (ez (pv 0) T.cl mN GN hr bN .nil gv (ao bz (ao bz (ao (ay rfl B.cI) aE)))))
   (aO (dj (i:=3) gj.nd rfl (Or.inl rfl) (a0 uO (ez (pv 0) T.cl mN GN hr bN .nil gv (ao bz (ao bz (ao (a0 zE bz (ay rfl B.cC)) aE)))) (ay rfl B.cC)))
   (aO (dj (i:=4) gj.nd rfl (Or.inl rfl) (ez (pv 0) T.cl mN GN hr bN .nil gv (ao bz (ao bz (ao (ay rfl B.cH) aE)))))
   (aO (dj (i:=5) gj.nd rfl (Or.inl rfl) (ez (pv 0) T.cl mN GN hr bN .nil gv (ao bz (ao bz (ao (ay rfl B.cD) aE)))))
   (bh (dL (rB M GI eh rfl hC bI .nil aC (ao (pv 1) (ao (pv 2) (ao (pv 3) (ao (pv 4) (ao (pv 5) aE)))))))))))),?_⟩
  obtain⟨dx,h1⟩:=id hR;refine⟨_,rfl,r,dx,_,rfl,h1,cy _ _ (by decide) (by decide),r,a,p,1,bs,_,_,rfl,hR,hS,hp,hb,?_⟩
  unfold eR at k;cases e1:aX bs p 1 1 118 with
  |error e=>rw [e1]at k;exact k
  |ok x =>
   rw [e1]at k;dsimp only at k;intro H1 jR o1;obtain⟨qD,g1⟩:=id jR;have S1:=o1.sq h1 hS;refine⟨_,rfl,r,qD,_,rfl,g1,cy _ _ (by decide) (by decide),r,a,p+1,2,bs,_,_,rfl,jR,S1,by have:=(dB e1).1;omega,hb,?_⟩
   cases e2:aX bs (p+1) 2 0 500 with
   |error e=>rw [e2]at k;exact k.only o1
   |ok y =>
    rw [e2]at k;dsimp only at k;intro H2 mj o2;obtain⟨fb,g2⟩:=id mj;have S2:=o2.sq g1 S1;refine⟨_,rfl,r,fb,_,rfl,g2,cy _ _ (by decide) (by decide),_,_,rfl,rfl,.inl (by constructor<;>decide),r,a,p+3,1,bs,0,8,rfl,mj,S2,by have:=(dB e2).1;omega,hb,?_⟩
    cases e3:aX bs (p+3) 1 0 8 with
    |error e=>rw [e3]at k;exact k.only (o1.trans o2)
    |ok c =>
     rw [e3]at k;dsimp only at k;intro H3 og o3;obtain⟨rZ,g3⟩:=id og;have S3:=o3.sq g2 S2;refine⟨_,_,rfl,rfl,?_⟩;refine⟨_,rfl,r,rZ,_,rfl,g3,cy _ _ (by decide) (by decide),r,a,p+4,1,bs,_,_,rfl,og,S3,by have:=(dB e3).1;omega,hb,?_⟩
     cases e4:aX bs (p+4) 1 0 7 with
     |error e=>rw [e4]at k;exact k.only ((o1.trans o2).trans o3)
     |ok h =>
      rw [e4]at k;dsimp only at k;intro H4 sC o4;obtain⟨se,g4⟩:=id sC;have S4:=o4.sq g3 S3;refine⟨_,rfl,r,se,_,rfl,g4,cy _ _ (by decide) (by decide),r,a,p+5,1,bs,_,_,rfl,sC,S4,by have:=(dB e4).1;omega,hb,?_⟩
      cases e5:aX bs (p+5) 1 0 2 with
      |error e=>rw [e5]at k;exact k.only (((o1.trans o2).trans o3).trans o4)
      |ok t =>
       rw [e5]at k;dsimp only at k;intro H5 kO o5;obtain⟨sf,g5⟩:=id kO;have a1:=dB e1;have a2:=dB e2;have a3:=dB e3;have a4:=dB e4;have a5:=dB e5;have oo:=(((o1.trans o2).trans o3).trans o4).trans o5;refine⟨_,rfl,_,rfl,_,rfl,_,rfl,_,rfl,fun u ud nu nd Rf=>⟨u,ud,⟨x.toNat,y.toNat,c-4,h.toNat,t.toNat⟩,?_,Z2j,fun H6 hA o6=>⟨rfl,?_⟩⟩⟩
       ·rw [lE (by omega:0<=x),lE (by omega:0<=y),lE (by omega:0<=h),lE (by omega:0<=t)];rfl
       ·have ru:r≠u:=ba g5 nu;have rd:r≠ud:=ba g5 nd;refine k H6 u ⟨sf,o6 _ _ (by rw [aj ru,aj rd];exact g5) ru⟩ (fun b o e hb=>o6 _ _ (by rw [aj (ba (oo _ _ e hb) nu),aj (ba (oo _ _ e hb) nd)];exact oo _ _ e hb) (ba (oo _ _ e hb) nu)) (Pb oo g5 nu) hA
end
def Objs{α:Type}(R:Hp->Addr->α->Prop)(H:Hp)(ts:List Addr)(l:List α):Prop:=ts.length=l.length/\∀ (j:Nat)(t:Addr)(x:α),ts[j]?=some t->l[j]?=some x->R H t x
theorem Objs.keep{α:Type}{R:Hp->Addr->α->Prop}{H H':Hp}{ts:List Addr}{l:List α}(h:Objs R H ts l)(k:∀ t x,t∈ts->R H t x->R H' t x):Objs R H' ts l:=⟨h.1,fun j t x a b=>k t x (gL a) (h.2 j t x a b)⟩
theorem Objs.nil{α:Type}{R:Hp->Addr->α->Prop}{H:Hp}:Objs R H [] []:=⟨rfl,fun j t m a b=>by simp at a⟩
theorem Objs.snoc{α:Type}{R:Hp->Addr->α->Prop}{H:Hp}{ts:List Addr}{l:List α}{t:Addr}{e:α}(h:Objs R H ts l)(ht:R H t e):Objs R H (ts++[t]) (l++[e]):=by
 refine⟨by simp [h.1],fun j t' e' a b=>?_⟩
 rw [List.getElem?_append]at a b;rw [h.1]at a;split at a
 ·rename_i hj;rw [ae hj]at b;exact h.2 j t' e' a b
 ·rename_i hj;rw [ac hj]at b;cases z:j-l.length with
  |zero =>
   rw [z]at a b;cases a;cases b;exact ht
  |succ n=>rw [z]at a;simp at a
theorem Objs.at{α:Type}{R:Hp->Addr->α->Prop}{H:Hp}{ts:List Addr}{l:List α}{i:Nat}{y:V}(h:Objs R H ts l)(hi:(ts.map V.ref)[i]?=some y):∃ t x,y=.ref t/\ts[i]?=some t/\l[i]?=some x/\R H t x:=by
 rw [dQ]at hi;cases e:ts[i]? with
 |none=>rw [e]at hi;cases hi
 |some t =>
  rw [e]at hi;have lt:i<l.length:=by rw [<-h.1];exact(eg.mp e).1
  have e2:l[i]?=some l[i]:=dv lt;exact⟨t,l[i],(Option.some.inj hi).symm,rfl,e2,h.2 i t _ e e2⟩
theorem AtomAt.ref{CA:Addr}{H H':Hp}{t:Addr}{x:Fk.Atom}(h:AtomAt CA H t x)(k:∀ o,H t=some o->H' t=some o):AtomAt CA H' t x:=by obtain⟨dx,e⟩:=h;exact⟨dx,k _ e⟩
theorem BndAt.ref{CB:Addr}{H H':Hp}{t:Addr}{x:Fk.Bond}(h:BndAt CB H t x)(k:∀ o,H t=some o->H' t=some o):BndAt CB H' t x:=by obtain⟨dx,e⟩:=h;exact⟨dx,k _ e⟩
structure MolAt(CM CA CB:Addr)(H:Hp)(mr al bl:Addr)(as bs:List Addr)(M:Fk.Mol):Prop where
 top:∃ dx,H mr=some (.ins CM dx (z7 al bl))
 atl:H al=some (.lst (as.map V.ref))
 ats:Objs (AtomAt CA) H as M.atoms
 bdl:H bl=some (.lst (bs.map V.ref))
 bds:Objs (BndAt CB) H bs M.bonds
theorem MolAt.same{CM CA CB:Addr}{H H':Hp}{mr al bl:Addr}{as bs:List Addr}{M:Fk.Mol}(h:MolAt CM CA CB H mr al bl as bs M)(s:L2.Same H H'):MolAt CM CA CB H' mr al bl as bs M:=
 ⟨by obtain⟨dx,e⟩:=h.top;exact⟨dx,s _ _ e⟩,s _ _ h.atl,h.ats.keep fun t x _ a=>a.ref fun o e=>s _ _ e,s _ _ h.bdl,h.bds.keep fun t x _ a=>a.ref fun o e=>s _ _ e⟩
def FltS(CF:Addr)(E:XK)(H:Hp)(rule dH:Int):Prop:=∀ H' dx,Same H H'->H' dx=some (.xd (xf rule dH 0))->E (.ref CF) (some dx) H'
theorem FltS.flt{CF:Addr}{E:XK}{H H1:Hp}{rule dH:Int}{r:Addr}(f:FltS CF E H rule dH)(s:Same H H1)(n:H r=none):Flt CF E H1 r rule dH:=fun H' dx o h =>
 f H' dx (fun b ob e=>o b ob (s b ob e) (ba e n)) h
theorem Same.only{r:Addr}{H H1 H2:Hp}(s:L2.Same H H1)(o:Only r H1 H2)(n:H r=none):L2.Same H H2:=fun b ob e=>o b ob (s b ob e) (ba e n)
section
variable{P:Program}{w:World}{K:aq}{mg:Str->Option Value}{base:Heap}{CF CR fF CA CB CM:Addr}
def vC(K:aq)(CF CR CB:Addr):Sp:=fun vs H Q E=>∃ (r a b:Addr)(p:Nat)(n:Int)(bs:List Int)(be:Int×Int),vs=[.ref r,.int n,.ref b]/\dX CR H r a p/\SqL K H a (bs.map V.int)/\p<=bs.length/\(∀ x∈bs,0<=x/\x<=255) /\
 SqT K H b (([be.1,be.2]:List Int).map V.int) /\
 match eS bs n p be with
 |.ok x=>∀ (H':Hp)(t:Addr),dX CR H' r a (p+4)->Only r H H'->H t=none->BndAt CB H' t x->Q (.ref t) H'
 |.error e=>Flt CF E H r e.1 e.2
theorem iU:cX ["reader","atom_count","before","start","a","b","order","side"] ["reader","atom_count","before"] (bo Ig):=⟨rfl,rfl,rfl,by decide +kernel,rfl,by decide +kernel,by decide +kernel⟩
theorem Do{f fN fI:Addr}{fd kL jt:FuncData}(F:Fun K "read_bond" "read_bond" Ig f fd)(T:TR K mg CF CR fF)(B:TM K mg)(GN:am P w K mg base (gP P w) 3 fN kL ["self","size","least","most"] (iW K CF CR))(mN:aS K CR "number" fN)
  (bN:Binds K kL ["self","size","least","most"] [])(M:Mk K CB fI)(hC:mg "Bond" = some (.ref CB))(GI:am P w K mg base CX0 1 fI jt ["self","a","b","order","side"] (D5 CB))(bI:Binds K jt ["self","a","b","order","side"] []):
  am P w K mg base (gP P w) 4 f fd ["reader","atom_count","before"] (vC K CF CR CB):=by
 refine kZ F iU (fun vs H Q E h=>?_) (fun bq A outer s H vs Q E hr h=>?_)
 ·obtain⟨r,a,b,p,n,bs,be,rfl,_⟩:=h;rfl
 ·obtain⟨r,a,b,p,n,bs,be,rfl,hR,hS,hp,hb,hB,k⟩:=h;have eh:Room 2 _:=hr.mono (by decide)
  have gO:=(show A.depth+1+1<recursionLimit from by have:=hr.dp;simp only [Around.deeper]at this;omega)
  refine⟨_,aO (dj (i:=3) iU.nd rfl (Or.inl rfl) (br (pv 0) rfl))
   (aO (dj (i:=4) iU.nd rfl (Or.inl rfl) (ez (pv 0) T.cl mN GN hr bN .nil gv (ao bz (ao bz (ao (a0 uO (pv 1) bz) aE)))))
   (aO (dj (i:=5) iU.nd rfl (Or.inl rfl) (ez (pv 0) T.cl mN GN hr bN .nil gv (ao bz (ao (a0 kJ (pv 4) bz) (ao (a0 uO (pv 1) bz) aE)))))
   (aO (b8 (gr (yh hr.units0) (qB (ao (pv 4) (ao (pv 5) aE))) (pv 2) (eT _))
     (bh (uN T.xi rfl rfl gO rfl T.mgF rD (ao (ay rfl B.c3) (ao (pv 3) aE)))) io)
   (aO (dj (i:=6) iU.nd rfl (Or.inl rfl) (ez (pv 0) T.cl mN GN hr bN .nil gv (ao bz (ao bz (ao (ay rfl B.cO) aE)))))
   (aO (dj (i:=7) iU.nd rfl (Or.inl rfl) (ez (pv 0) T.cl mN GN hr bN .nil gv (ao bz (ao bz (ao (ay rfl B.cS) aE)))))
   (bh (dL (rB M GI eh rfl hC bI .nil aC (ao (pv 4) (ao (pv 5) (ao (pv 6) (ao (pv 7) aE)))))))))))),?_⟩
  obtain⟨dx,h1⟩:=id hR;refine⟨_,rfl,r,CR,dx,_,_,rfl,h1,T.cl,T.np,l5 _ _,?_⟩;refine⟨_,rfl,r,dx,_,rfl,h1,cy _ _ (by decide) (by decide),_,rfl,_,_,rfl,rfl,r,a,p,1,bs,_,_,rfl,hR,hS,hp,hb,?_⟩
  unfold eS at k;cases e1:aX bs p 1 0 (n-1)with
  |error e=>rw [e1]at k;exact k
  |ok x =>
   rw [e1]at k;dsimp only at k;intro H1 jR o1;obtain⟨qD,g1⟩:=id jR;have S1:=o1.sq h1 hS;refine⟨_,rfl,r,qD,_,rfl,g1,cy _ _ (by decide) (by decide),_,rfl,_,_,rfl,rfl,_,rfl,_,_,rfl,rfl,r,a,p+1,1,bs,_,_,rfl,jR,S1,by have:=(dB e1).1;omega,hb,?_⟩
   cases e2:aX bs (p+1) 1 (x+1) (n-1)with
   |error e=>rw [e2]at k;exact k.only o1
   |ok y =>
    rw [e2]at k;dsimp only at k;intro H2 mj o2;obtain⟨fb,g2⟩:=id mj;have S2:=o2.sq g1 S1;have B2:=(o1.trans o2).sqT h1 hB;refine⟨_,rfl,_,rfl,(by show 2<=sizeLine;decide),fun t ht=>⟨_,rfl,t,b,[x,y],[be.1,be.2],rfl,rfl,SqT.of Z2j,RD.Same.sqT (RD.Same.new ht) B2,_,rfl,bu (fun hc=>?_) (fun hc=>?_)⟩⟩
    ·rw [ae hc]at k;refine⟨_,rfl,_,_,_,.inr ⟨rfl,rfl⟩,fun eO hn=>?_⟩;exact k _ eO (((o1.trans o2).new ht).new hn) Z2j
    ·rw [ac hc]at k;have bV:r≠t:=ba g2 ht;have og:dX CR (upd H2 t (.tup [.int x,.int y])) r a (p+1+1):=⟨fb,by rw [aj bV];exact g2⟩
     have o3:Only r H (upd H2 t (.tup [.int x,.int y])):=(o1.trans o2).new ht;have S3:SqL K (upd H2 t (.tup [.int x,.int y])) a (bs.map V.int):=o3.sq h1 hS;obtain⟨rZ,g3⟩:=id og;refine⟨_,rfl,r,rZ,_,rfl,g3,cy _ _ (by decide) (by decide),r,a,p+2,1,bs,_,_,rfl,og,S3,by have:=(dB e2).1;omega,hb,?_⟩
     cases e3:aX bs (p+2) 1 1 3 with
     |error e=>rw [e3]at k;exact k.only o3
     |ok o =>
      rw [e3]at k;dsimp only at k;intro H4 sC o4;obtain⟨se,g4⟩:=id sC;have S4:=o4.sq g3 S3;refine⟨_,rfl,r,se,_,rfl,g4,cy _ _ (by decide) (by decide),r,a,p+3,1,bs,_,_,rfl,sC,S4,by have:=(dB e3).1;omega,hb,?_⟩
      cases e4:aX bs (p+3) 1 0 2 with
      |error e=>rw [e4]at k;exact k.only (o3.trans o4)
      |ok z =>
       rw [e4]at k;dsimp only at k;intro H5 kO o5;obtain⟨sf,g5⟩:=id kO;have a1:=dB e1;have a2:=dB e2;have a3:=dB e3;have a4:=dB e4;have oo:=(o3.trans o4).trans o5;refine⟨_,rfl,_,rfl,_,rfl,_,rfl,fun u ud nu nd Rf=>⟨u,ud,⟨x.toNat,y.toNat,o.toNat,z.toNat⟩,?_,Z2j,fun H6 hA o6=>⟨rfl,?_⟩⟩⟩
       ·rw [lE (by omega:0<=x),lE (by omega:0<=y),lE (by omega:0<=o),lE (by omega:0<=z)];rfl
       ·have ru:r≠u:=ba g5 nu;have rd:r≠ud:=ba g5 nd;refine k H6 u ⟨sf,o6 _ _ (by rw [aj ru,aj rd];exact g5) ru⟩ (fun b o e hb=>o6 _ _ (by rw [aj (ba (oo _ _ e hb) nu),aj (ba (oo _ _ e hb) nd)];exact oo _ _ e hb) (ba (oo _ _ e hb) nu)) (Pb oo g5 nu) hA
end
theorem Ij(bs:List Int)(k p:Nat):jn bs (k+1) p=match eR bs p with
  |.error e=>.error e
  |.ok x=>match jn bs k (p+6)with
   |.error e=>.error e
   |.ok y=>.ok (x::y):=rfl
theorem Z9K(bs:List Int)(p:Nat):jn bs 0 p=.ok []:=rfl
theorem Z9N(bs:List Int)(n:Int)(p:Nat)(b:Int×Int):jp bs n 0 p b=.ok []:=rfl
theorem Im(bs:List Int)(n:Int)(k p:Nat)(b:Int×Int):jp bs n (k+1) p b=match eS bs n p b with
  |.error e=>.error e
  |.ok x=>match jp bs n k (p+4) (x.a,x.b)with
   |.error e=>.error e
   |.ok y=>.ok (x::y):=rfl
section
variable{P:Program}{w:World}{K:aq}{mg:Str->Option Value}{base:Heap}{CF CR fF CA CB CM:Addr}
def PJ(K:aq)(CF CA CB CM:Addr):Sp:=fun vs H Q E=>∃ (a:Addr)(bs:List Int),vs=[.ref a]/\SqL K H a (bs.map V.int)/\(∀ x∈bs,0<=x/\x<=255) /\
 match rH bs with
 |.ok M=>∀ (H':Hp)(mr al bl:Addr)(as ds:List Addr),Same H H'->H al=none->H bl=none->MolAt CM CA CB H' mr al bl as ds M->Q (.ref mr) H'
 |.error e=>FltS CF E H e.1 e.2
theorem cP:cX ["form","reader","atom_count","bond_count","atoms","bonds","before","k","bond"] ["form"] (bo AU):=⟨rfl,rfl,rfl,by decide +kernel,rfl,by decide +kernel,by decide +kernel⟩
theorem nA:cY ["form","reader","atom_count","bond_count","atoms","bonds","before","k","bond"] (bo AU) (IR (eQ AU)) [("k",7)]:=⟨rfl,by decide +kernel,by decide +kernel,by decide +kernel,by decide +kernel⟩
theorem tF{f fI fM fN fA fB fW fJ:Addr}{fd jt uZ kL gx iH BI BD:FuncData}(F:Fun K "read_parts" "read_parts" AU f fd)(T:TR K mg CF CR fF)(B:TM K mg)(TB:uE K CB)
  (M:Mk K CR fI)(GI:am P w K mg base CX0 1 fI jt ["self","form"] (yF CR))(bI:Binds K jt ["self","form"] [])
  (GM:am P w K mg base (gP P w) 2 fM uZ ["self","mark"] (Jv K CF CR))(mM:aS K CR "expect_mark" fM)(bM:Binds K uZ ["self","mark"] [])
  (GN:am P w K mg base (gP P w) 3 fN kL ["self","size","least","most"] (iW K CF CR))(mN:aS K CR "number" fN)(bN:Binds K kL ["self","size","least","most"] [])
  (GW:am P w K mg base (gP P w) 2 fW BI ["self"] (p0 K CF CR))(mW:aS K CR "finish" fW)(bW:Binds K BI ["self"] [])
  (GA:am P w K mg base (gP P w) 4 fA gx ["reader"] (pX K CF CR CA))(mA:mg "read_atom" = some (.ref fA))(kA:PySem.W.keepIn K (.ref fA)=true)(bA:Binds K gx ["reader"] [])
  (GB:am P w K mg base (gP P w) 4 fB iH ["reader","atom_count","before"] (vC K CF CR CB))(mB:mg "read_bond" = some (.ref fB))(kB:PySem.W.keepIn K (.ref fB)=true)(bB:Binds K iH ["reader","atom_count","before"] [])
  (J:Mk K CM fJ)(hJ:mg "Molecule" = some (.ref CM))(GJ:am P w K mg base CX0 1 fJ BD ["self","atoms","bonds"] (D9 CM))(bJ:Binds K BD ["self","atoms","bonds"] []):
  am P w K mg base (gP P w) 5 f fd ["form"] (PJ K CF CA CB CM):=by
 refine kZ F cP (fun vs H Q E h=>?_) (fun bq A outer s H vs Q E hr h=>?_)
 ·obtain⟨a,bs,rfl,_⟩:=h;rfl
 ·obtain⟨a,bs,rfl,hS,hb,k⟩:=h;obtain⟨aM,eM,hM⟩:=B.mark;obtain⟨aB,eB,hB⟩:=B.before;have eh:Room 2 _:=hr.mono (by decide)
  have ka:Room 3 _:=hr.mono (by decide)
  refine⟨_,aO (dj (i:=1) cP.nd rfl (Or.inr rfl) (rB M GI eh rfl T.mgR bI .nil aC (ao (pv 0) aE)))
   (aO (gT (ez (pv 1) T.cl mM GM eh bM .nil gv (ao (Bb (v:=.ref aM) rfl eM rfl) aE)))
   (aO (dj (i:=2) cP.nd rfl (Or.inl rfl) (ez (pv 1) T.cl mN GN ka bN .nil gv (ao bz (ao bz (ao (ay rfl B.cA) aE)))))
   (aO (dj (i:=3) cP.nd rfl (Or.inl rfl) (ez (pv 1) T.cl mN GN ka bN .nil gv (ao bz (ao bz (ao (ay rfl B.cB) aE)))))
   (aO (IJ (E:=E) (i:=4) rfl rfl rfl (fun _ _ h=>h) rfl cP.nd rfl rfl (A9 rfl rfl rfl rfl) (AZ rfl B.range (ao (pv 2) aE)) nA (fun s H C cl fp xe=>eU (i:=7) cP.nd rfl (Or.inl rfl)) (fun s H C cl fp xe=>mQ)
      (fun s H C cl fp xe hx=>fQ GA hr rfl mA kA bA .nil hx (ao (pv 1) aE)))
   (aO (dj (i:=5) cP.nd rfl (Or.inl rfl) (mO aE))
   (aO (dj (i:=6) cP.nd rfl (Or.inl rfl) (Bb (v:=.ref aB) rfl eB rfl))
   (aO (lI Bo rfl (AZ rfl B.range (ao (pv 3) aE)) (eU (i:=7) cP.nd rfl (Or.inl rfl))
     (aO (dj (i:=8) cP.nd rfl (Or.inl rfl) (fQ GB hr rfl mB kB bB .nil gv (ao (pv 1) (ao (pv 2) (ao (pv 6) aE)))))
     (aO (gT (lg AH Fa Fb Fv (pv 5) (ao (pv 8) aE)))
     (bh (dj (i:=6) cP.nd rfl (Or.inl rfl) (qB (ao (br (pv 8) rfl) (ao (br (pv 8) rfl) aE))))))))
   (aO (gT (Iy (pv 1) T.cl mW GW eh bW .nil gv))
   (bh (dL (rB J GJ eh rfl hJ bJ .nil aC (ao (pv 4) (ao (pv 5) aE))))))))))))),?_⟩
  unfold rH at k;refine⟨_,rfl,fun r dx nr nd ndr=>⟨r,dx,a,rfl,Z2j,fun H1 jR o1=>⟨rfl,?_⟩⟩⟩;have s1:L2.Same H H1:=fun b o e=>o1 b o (by rw [aj (ba e nr),aj (ba e nd)];exact e) (ba e nr)
  have S1:=s1.seq hS;obtain⟨qD,g1⟩:=id jR;refine⟨_,rfl,r,qD,_,rfl,g1,cy _ _ (by decide) (by decide),r,a,aM,0,bs,_,rfl,jR,S1,hM _,fk _,?_⟩
  cases e1:bY bs 0 [70,75,77,49]with
  |error e=>rw [e1]at k;exact FltS.flt k s1 nr
  |ok p =>
   rw [e1]at k;dsimp only at k;have hp:=A2 (fk _) e1;intro H2 mj o2;have s2:=Same.only s1 o2 nr;have S2:=s2.seq hS;obtain⟨fb,g2⟩:=id mj;refine⟨_,rfl,r,fb,_,rfl,g2,cy _ _ (by decide) (by decide),r,a,p,1,bs,_,_,rfl,mj,S2,hp,hb,?_⟩
   cases e2:aX bs p 1 0 128 with
   |error e=>rw [e2]at k;exact FltS.flt k s2 nr
   |ok n =>
    rw [e2]at k;dsimp only at k;obtain⟨q1,q2,q3,_⟩:=dB e2;intro H3 og o3;have s3:=Same.only s2 o3 nr;have S3:=s3.seq hS;obtain⟨rZ,g3⟩:=id og;refine⟨_,rfl,r,rZ,_,rfl,g3,cy _ _ (by decide) (by decide),r,a,p+1,1,bs,_,_,rfl,og,S3,by omega,hb,?_⟩
    cases e3:aX bs (p+1) 1 0 192 with
    |error e=>rw [e3]at k;exact FltS.flt k s3 nr
    |ok m =>
     rw [e3]at k;dsimp only at k;obtain⟨m1,m2,m3,_⟩:=dB e3;intro H4 sC o4;have s4:=Same.only s3 o4 nr;obtain⟨se,g4⟩:=id sC;refine⟨_,rfl,n,rfl,by omega,by omega,fun al sE=>Fp (lo:=0) (n:=n.toNat) (fun i H'=>∃ (as:List Addr)(l1:List Fk.Atom),L2.Same H H'/\dX CR H' r a (p+2+6*i)/\p+2+6*i<=bs.length/\H' al=some (.lst (as.map V.ref))/\l1.length=i/\Objs (AtomAt CA) H' as l1/\r∉as/\al∉as /\
       jn bs n.toNat (p+2)=(match jn bs (n.toNat-i) (p+2+6*i)with |.error e=>.error e |.ok y=>.ok (l1++y)))
      ⟨[],[],s4.trans (RD.Same.new sE),⟨se,by rw [aj (ba g4 sE)];exact g4⟩,by omega,Z2j,rfl,Objs.nil,by simp,by simp,?_⟩ ?_ ?_⟩
     ·rw [zj];show jn bs n.toNat (p+2)=_;cases jn bs n.toNat (p+2)<;>rfl
     ·rintro i H' hi ⟨as,l1,s5,kO,hq,hal5,hl1,hO,nra,naa,hk⟩;obtain⟨sf,g5⟩:=id kO;have Ac:H al=none:=s4.free sE;have S5:=s5.seq hS;have hn:n.toNat-i=(n.toNat-(i+1))+1:=by omega
      rw [hn,Ij]at hk;refine⟨rfl,_,rfl,r,a,p+2+6*i,bs,rfl,kO,S5,hq,hb,?_⟩;cases e4:eR bs (p+2+6*i)with
      |error e =>
       rw [e4]at hk;dsimp only at hk;rw [hk]at k;exact FltS.flt k s5 nr
      |ok x =>
       rw [e4]at hk;dsimp only at hk;intro H6 t sD o6 nt Q0;have s6:=Same.only s5 o6 nr;obtain⟨qE,g6⟩:=id sD;obtain⟨dt,gt⟩:=id Q0;have tQ:r≠al:=az g5 hal5 (by intro z;cases z)
       have gX:H6 al=some (.lst (as.map V.ref)):=o6 _ _ hal5 tQ.symm;have Cy:t≠al:=az gt gX (by intro z;cases z)
       have KU:t≠r:=fun z=>by rw [z,g5]at nt;cases nt
       refine⟨_,gX,by rw [aW,hO.1,hl1,ak];omega,as++[t],l1++[x],fun b o e=>?_,⟨qE,?_⟩,?_,?_,by simp [hl1],?_,?_,?_,?_⟩
       ·rw [aj (ba e Ac)];exact s6 _ _ e
       ·rw [aj tQ,show p+2+6*(i+1)=p+2+6*i+6 by omega];exact g6
       ·have:=(Ph e4).1;omega
       ·rw [Z2j,fO];rfl
       ·refine Objs.snoc (hO.keep fun t' x' hm ha=>ha.ref fun o e=>?_) (Q0.ref fun o e=>?_)
        ·rw [aj (fun z=>naa (by rw [<-z];exact hm))]
         exact o6 _ _ e (fun z=>nra (by rw [<-z];exact hm))
        ·rw [aj Cy];exact e
       ·rw [dz,b9];exact⟨nra,by simpa using KU.symm⟩
       ·rw [dz,b9];exact⟨naa,by simpa using Cy.symm⟩
       ·rw [hk,show p+2+6*(i+1)=p+2+6*i+6 by omega]
        cases jn bs (n.toNat-(i+1)) (p+2+6*i+6)with
        |error e=>rfl
        |ok y=>simp
     ·rintro H5 ⟨as,l1,s5,kO,hq,hal5,hl1,hO,nra,naa,hk⟩;rw [uL,Z9K]at hk;dsimp only at hk;rw [hk]at k;simp only [jZ]at k;obtain⟨sf,g5⟩:=id kO;have Ac:H al=none:=s4.free sE;refine⟨fk _,fun le i9=>?_⟩;have Ri:H le=none:=s5.free i9;have s6:L2.Same H (upd H5 le (.lst [])):=s5.trans (RD.Same.new i9);have LW:r≠le:=ba g5 i9;have Qg:al≠le:=ba hal5 i9;generalize hP:p+2+6*n.toNat=P0 at hq k kO g5;refine⟨_,rfl,m,rfl,by omega,by omega,ZbO (lo:=0) (n:=m.toNat) (fun i σ H'=>∃ (v7 v8:Option V)(b:Addr)(be:Int×Int)(l2:List Fk.Bond)(ts:List Addr),
       σ=[some (.ref a),some (.ref r),some (.int n),some (.int m),some (.ref al),some (.ref le),some (.ref b),v7,v8]/\L2.Same H H'/\dX CR H' r a (P0+4*i)/\P0+4*i<=bs.length/\H' al=some (.lst (as.map V.ref))/\Objs (AtomAt CA) H' as l1/\H' le=some (.lst (ts.map V.ref))/\Objs (BndAt CB) H' ts l2/\r∉ts/\l2.length=i /\
       SqT K H' b (([be.1,be.2]:List Int).map V.int)/\jp bs n m.toNat P0 (0,0)=(match jp bs n (m.toNat-i) (P0+4*i) be with |.error e=>.error e |.ok y=>.ok (l2++y)))
       ⟨none,none,aB,(0,0),[],[],rfl,s6,⟨sf,by rw [aj LW];exact g5⟩,hq,by rw [aj Qg];exact hal5,hO.keep fun t x _ ha=>ha.ref fun o e=>by rw [aj (ba e i9)];exact e,Z2j,Objs.nil,by simp,rfl,hB _,?_⟩ ?_ ?_⟩
      ·rw [zj];show jp bs n m.toNat P0 (0,0)=_;cases jp bs n m.toNat P0 (0,0)<;>rfl
      ·rintro i σ H' hi ⟨v7,v8,b,be,l2,ts,rfl,s7,wN,hq7,hal7,hA7,hle7,hE7,nrt,jj,hB7,hk7⟩;obtain⟨FQ,g7⟩:=id wN;have S7:=s7.seq hS;have hn:m.toNat-i=(m.toNat-(i+1))+1:=by omega
       rw [hn,Im]at hk7;refine⟨_,rfl,_,rfl,_,rfl,r,a,b,P0+4*i,n,bs,be,rfl,wN,S7,hq7,hb,hB7,?_⟩;cases e4:eS bs n (P0+4*i) be with
       |error e =>
        rw [e4]at hk7;dsimp only at hk7;rw [hk7]at k;exact FltS.flt k s7 nr
       |ok x =>
        rw [e4]at hk7;dsimp only at hk7;intro H8 t hR8 o8 nt ht8;have s8:=Same.only s7 o8 nr;obtain⟨Qk,g8⟩:=id hR8;obtain⟨dt,gt⟩:=id ht8;have wW:H8 le=some (.lst (ts.map V.ref)):=o8 _ _ hle7 LW.symm;have tQ:r≠al:=az g7 hal7 (by intro z;cases z)
        have J8:H8 al=some (.lst (as.map V.ref)):=o8 _ _ hal7 tQ.symm;have KU:t≠r:=fun z=>by rw [z,g7]at nt;cases nt
        have zY:t≠le:=az gt wW (by intro y;cases y)
        refine⟨_,rfl,.inl ⟨rfl,_,SqL.of wW⟩,_,rfl,le,_,_,rfl,rfl,wW,(by rw [aW,hE7.1,jj];rw [ak];omega),?_⟩
        have Q3:upd H8 le (.lst (ts.map V.ref++[.ref t])) t=some (.ins CB dt (bf x.a x.b (x.order:Int) (x.side:Int))):=by rw [aj zY];exact gt
        refine⟨_,rfl,t,CB,dt,_,_,rfl,Q3,TB.cl,TB.na,lL _ _ _ _,_,rfl,t,CB,dt,_,_,rfl,Q3,TB.cl,TB.nb,lM _ _ _ _,(by show 2<=sizeLine;decide),fun u hu=>?_⟩
        have s9:L2.Same H (upd H8 le (.lst (ts.map V.ref++[.ref t]))):=fun b' o e=>by rw [aj (ba e Ri)];exact s8 _ _ e
        have r9:upd H8 le (.lst (ts.map V.ref++[.ref t])) r=some (.ins CR Qk (rf a ((P0+4*i+4:Nat):Int))):=by rw [aj LW];exact g8
        have k9:∀ {b':Addr}{o:HO},H8 b'=some o->b'≠le->upd (upd H8 le (.lst (ts.map V.ref++[.ref t]))) u (.tup [.int (x.a:Int),.int (x.b:Int)]) b'=some o:=fun{b' o} e z=>by
         have e9:upd H8 le (.lst (ts.map V.ref++[.ref t])) b'=some o:=by rw [aj z];exact e
         rw [aj (ba e9 hu)];exact e9
        refine⟨_,_,u,((x.a:Int),(x.b:Int)),l2++[x],ts++[t],rfl,s9.trans (RD.Same.new hu),⟨Qk,?_⟩,?_,k9 J8 Qg,?_,?_,?_,?_,by simp [jj],SqT.of Z2j,?_⟩
        ·rw [aj (ba r9 hu),show P0+4*(i+1)=P0+4*i+4 by omega];exact r9
        ·have:=(Op e4).1;omega
        ·exact hA7.keep fun t' x' hm ha=>by
          obtain⟨d',e'⟩:=ha;exact⟨d',k9 (o8 _ _ e' (fun z=>nra (by rw [<-z];exact hm))) (az e' hle7 (by intro y;cases y))⟩
        ·rw [aj (ba Z2j hu),Z2j,fO];rfl
        ·refine Objs.snoc (hE7.keep fun t' x' hm ha=>?_) ⟨dt,k9 gt zY⟩;obtain⟨d',e'⟩:=ha;exact⟨d',k9 (o8 _ _ e' (fun z=>nrt (by rw [<-z];exact hm))) (az e' hle7 (by intro y;cases y))⟩
        ·rw [dz,b9];exact⟨nrt,by simpa using KU.symm⟩
        ·rw [hk7,show P0+4*(i+1)=P0+4*i+4 by omega]
         cases jp bs n (m.toNat-(i+1)) (P0+4*i+4) ((x.a:Int),(x.b:Int))with
         |error e=>rfl
         |ok y=>simp
      ·rintro σ H' ⟨v7,v8,b,be,l2,ts,rfl,s7,wN,hq7,hal7,hA7,hle7,hE7,nrt,jj,hB7,hk7⟩;rw [uL,Z9N]at hk7;dsimp only at hk7;rw [hk7]at k;simp only [jZ]at k;obtain⟨FQ,g7⟩:=id wN;refine⟨_,rfl,r,FQ,_,rfl,g7,cy _ _ (by decide) (by decide),r,a,P0+4*m.toNat,bs,rfl,wN,s7.seq hS,hq7,fun hqe H8 s8=>?_,fun cg=>?_⟩
       ·rw [ac (by omega)]at k
        refine⟨_,rfl,_,rfl,fun u ud nu nd Rf=>⟨u,ud,al,le,rfl,Z2j,fun H9 hM9 o9=>⟨rfl,?_⟩⟩⟩;have s9:L2.Same H8 H9:=fun b' o e=>o9 _ _ (by rw [aj (ba e nu),aj (ba e nd)];exact e) (ba e nu)
        have DN:L2.Same H' H9:=s8.trans s9;exact k H9 u al le as ts (s7.trans DN) Ac Ri ⟨⟨ud,hM9⟩,DN _ _ hal7,hA7.keep fun t x _ ha=>ha.ref fun o e=>DN _ _ e,DN _ _ hle7,hE7.keep fun t x _ ha=>ha.ref fun o e=>DN _ _ e⟩
       ·rw [ae cg]at k;exact FltS.flt k s7 nr
end
end BK
end
section
namespace BK
open Fk
def jP:List Bond->List Nat->Nat->Nat
 |x::L,o::l,v=>(if x.at_ v=true then o else 0)+jP L l v
 |_,_,_=>0
theorem Be(l:List Nat)(v:Nat):jP [] l v=0:=by cases l<;>rfl
theorem zv(x:Bond)(L:List Bond)(o:Nat)(l:List Nat)(v:Nat):jP (x::L) (o::l) v=(if x.at_ v=true then o else 0)+jP L l v:=rfl
theorem OT:∀ (L:List Bond)(l:List Nat)(v:Nat),l.length=L.length->(∀ o∈l,1<=o/\o<=3)->(L.filter fun x=>x.at_ v).length<=jP L l v/\jP L l v<=3*(L.filter fun x=>x.at_ v).length
 |[],l,v,_,_=>by rw [Be];simp
 |x::L,[],v,h,_=>by simp at h
 |x::L,o::l,v,h,hb=>by
  have ih:=OT L l v (by simpa using h) fun o' ho=>hb o' (dk _ ho)
  have ho:=hb o (cZ ..);rw [zv];by_cases q:x.at_ v=true
  ·rw [zh (p:=fun x:Bond=>x.at_ v) q,ae q,gC];omega
  ·rw [zi (p:=fun x:Bond=>x.at_ v) q,ac q];omega
theorem HX(l:List Nat)(v n i:Nat):(addTo l v n).getD i 0=if i<l.length then(if i=v then l.getD i 0+n else l.getD i 0)else 0:=by
 unfold addTo;rw [jN,dQ,List.getElem?_zipIdx];by_cases h:i<l.length
 ·rw [ae h,dv h];simp only [zf,Fc,Nat.zero_add];rw [jN,dv h];rfl
 ·rw [ac h,zk.mpr (by omega)]
  rfl
theorem Ih(l:List Nat)(v n:Nat):(addTo l v n).length=l.length:=by
 unfold addTo;rw [aW,List.length_zipIdx]
theorem ZbL{l:List Nat}{x:Bond}{o:Nat}(ha:x.a<l.length)(hb:x.b<l.length)(hn:x.a≠x.b)(v:Nat):(addTo (addTo l x.a o) x.b o).getD v 0=l.getD v 0+if x.at_ v=true then o else 0:=by
 rw [HX,Ih];have FV:x.at_ v=true↔v=x.a\/v=x.b:=by
  unfold Bond.at_;rw [Bool.or_eq_true,aJ,aJ];exact⟨fun h=>h.imp Eq.symm Eq.symm,fun h=>h.imp Eq.symm Eq.symm⟩
 by_cases hv:v<l.length
 ·rw [ae hv];by_cases q2:v=x.b
  ·rw [ae q2,HX,ae hv,ac (by omega),ae (FV.mpr (.inr q2))]
  ·rw [ac q2,HX,ae hv];by_cases q1:v=x.a
   ·rw [ae q1,ae (FV.mpr (.inl q1))]
   ·rw [ac q1,ac (fun h=>(FV.mp h).elim q1 q2)];rfl
 ·rw [ac hv,ac (fun h=>(FV.mp h).elim (by omega) (by omega)),jN,zk.mpr (by omega)]
  rfl
theorem Zbd{l m:List Nat}(h:l.length=m.length)(k:∀ v,l.getD v 0=m.getD v 0):l=m:=by
 apply List.ext_getElem h;intro i h1 h2;have:=k i;rw [jN,jN,dv h1,dv h2]at this;exact this
theorem HR(gp:List Nat):∀ (L:List Bond)(bg l:List Nat),bg.length=gp.length->(∀ x∈L,x.a<gp.length/\x.b<gp.length/\x.a≠x.b) ->
  (l∈ordersFor gp L bg↔l.length=L.length/\(∀ o∈l,1<=o/\o<=3)/\∀ v,bg.getD v 0+jP L l v=gp.getD v 0)
 |[],bg,l,hl,_=>by
  unfold ordersFor;constructor
  ·intro h;split at h
   ·rename_i q;have q:=aJ.mp q;have h:=du.mp h;subst h q;exact⟨rfl,fun o ho=>by simp at ho,fun v=>by rw [Be];rfl⟩
   ·simp at h
  ·rintro⟨h1,_,h3⟩;have:l=[]:=E8 h1;subst this;have:bg=gp:=Zbd hl fun v=>by have:=h3 v;rw [Be]at this;exact this
   rw [ae (aJ.mpr this)];exact du.mpr rfl
 |x::L,bg,l,hl,hw=>by
  have hx:=hw x (cZ ..);have hL:∀ y∈L,y.a<gp.length/\y.b<gp.length/\y.a≠y.b:=fun y hy=>hw y (dk _ hy);have q2:∀ o,(addTo (addTo bg x.a o) x.b o).length=gp.length:=fun o=>by rw [Ih,Ih,hl]
  have gd:∀ o v,(addTo (addTo bg x.a o) x.b o).getD v 0=bg.getD v 0+if x.at_ v=true then o else 0:=fun o v=>ZbL (by rw [hl];exact hx.1) (by rw [hl];exact hx.2.1) hx.2.2 v
  unfold ordersFor;rw [List.mem_flatMap];constructor
  ·rintro⟨o,ho,h⟩;dsimp only at h;split at h
   ·obtain⟨r,hr,rfl⟩:=i4.mp h;obtain⟨h1,h2,h3⟩:=(HR gp L _ r (q2 o) hL).mp hr;refine⟨by rw [gC,gC,h1],fun o' kT=>?_,fun v=>?_⟩
    ·rcases bw.mp kT with rfl |kT
     ·simp at ho;omega
     ·exact h2 o' kT
    ·rw [zv,<-h3 v,gd o v];omega
   ·simp at h
  ·rintro⟨h1,h2,h3⟩;cases l with
   |nil=>simp at h1
   |cons o r =>
    have ho:=h2 o (cZ ..);have eh:∀ o'∈r,1<=o'/\o'<=3:=fun o' h=>h2 o' (dk _ h);have iK:r.length=L.length:=by simpa using h1
    have QB:∀ v,(addTo (addTo bg x.a o) x.b o).getD v 0+jP L r v=gp.getD v 0:=fun v=>by
     rw [gd o v,<-h3 v,zv];omega
    have Qi:∀ v,canStill (addTo (addTo bg x.a o) x.b o) gp L v=true:=fun v=>by
     unfold canStill;have:=OT L r v iK eh;have:=QB v;rw [i3,ag,ag];omega
    refine⟨o,by simp;omega,?_⟩
    dsimp only;rw [ae (by rw [Qi,Qi];rfl)]
    exact i4.mpr ⟨r,(HR gp L _ r (q2 o) hL).mpr ⟨iK,eh,QB⟩,rfl⟩
theorem Zbs(l:List Nat)(a:Nat):l.foldl (· + ·) a=a+l.foldl (· + ·) 0:=by
 induction l generalizing a with
 |nil=>rfl
 |cons x l ih=>rw [AK,AK,ih (a+x),ih (0+x)];omega
theorem uf(L:List Bond)(v:Nat):((L.filter fun x=>x.at_ v).map Bond.order).foldl (· + ·) 0=jP L (L.map Bond.order) v:=by
 induction L with
 |nil=>rfl
 |cons x L ih =>
  rw [ej,zv];by_cases q:x.at_ v=true
  ·rw [zh (p:=fun x:Bond=>x.at_ v) q,ej,AK,Zbs,ih,ae q];omega
  ·rw [zi (p:=fun x:Bond=>x.at_ v) q,ih,ac q];omega
def i5:Bond:=⟨0,1,1,0⟩
def GM(M:Mol):MX.Gr:=⟨M.atoms.length,M.bonds.length,fun e=>⟨(M.bonds.getD e i5).a,(M.bonds.getD e i5).b,((M.bonds.getD e i5).order:Int)⟩⟩
theorem iB{M:Mol}{e:Nat}{x:Bond}(h:M.bonds[e]?=some x):(GM M).bd e=⟨x.a,x.b,(x.order:Int)⟩:=by
 show(⟨(M.bonds.getD e i5).a,(M.bonds.getD e i5).b,((M.bonds.getD e i5).order:Int)⟩:MX.Bd)=_;rw [jN,h];rfl
theorem uz{M:Mol}(w:Wf M):(GM M).Ok:=by
 have key:∀ e,e<M.bonds.length->∃ x,M.bonds[e]?=some x/\AB M.atoms.length x:=fun e he=>⟨M.bonds[e],dv he,w.bd _ (AI he)⟩;refine⟨fun e he=>?_,fun e he=>?_,fun e he=>?_,fun e he=>?_⟩<;>obtain⟨x,hx,wx⟩:=key e he<;>rw [iB hx]
 ·exact eG wx.ab
 ·exact qv wx.ab wx.bn
 ·exact wx.bn
 ·have:=wx.od;dsimp only;omega
theorem pW(m:Nat)(f:Nat->Int):MX.sm (m+1) f=f 0+MX.sm m fun i=>f (i+1):=by
 induction m with
 |zero=>show 0+f 0=f 0+0;omega
 |succ m ih =>
  show MX.sm (m+1) f+f (m+1)=f 0+(MX.sm m (fun i=>f (i+1))+f (m+1));rw [ih];omega
theorem xD{x:Bond}{v:Nat}{o:Int}(h:x.a≠x.b):MX.inc ⟨x.a,x.b,o⟩ v=if x.at_ v=true then 1 else 0:=by
 unfold MX.inc Bond.at_;dsimp only;by_cases q1:v=x.a
 ·rw [ae q1,ac (by omega),ae (by simp [q1])];rfl
 ·by_cases q2:v=x.b
  ·rw [ac q1,ae q2,ae (by simp [q2])];rfl
  ·rw [ac q1,ac q2,ac (by simp;omega)];rfl
theorem Jw:∀ (L:List Bond)(l:List Nat)(v:Nat),l.length=L.length->(∀ x∈L,x.a≠x.b) ->
  MX.sm L.length (fun e=>MX.inc ⟨(L.getD e i5).a,(L.getD e i5).b,((L.getD e i5).order:Int)⟩ v*(((l.getD e 0:Nat):Int)))=(jP L l v:Int)
 |[],l,v,_,_=>by rw [Be];rfl
 |x::L,[],v,h,_=>by simp at h
 |x::L,o::l,v,h,hn=>by
  rw [gC,pW,zv];have ih:=Jw L l v (by simpa using h) fun y hy=>hn y (dk _ hy)
  have e0:MX.inc ⟨((x::L).getD 0 i5).a,((x::L).getD 0 i5).b,(((x::L).getD 0 i5).order:Int)⟩ v=if x.at_ v=true then 1 else 0:=xD (hn x (cZ ..));have e1:(fun i=>MX.inc ⟨((x::L).getD (i+1) i5).a,((x::L).getD (i+1) i5).b,(((x::L).getD (i+1) i5).order:Int)⟩ v*((((o::l).getD (i+1) 0:Nat):Int)))=fun e=>MX.inc ⟨(L.getD e i5).a,(L.getD e i5).b,((L.getD e i5).order:Int)⟩ v*(((l.getD e 0:Nat):Int)):=rfl;rw [e1,ih,e0];show(if x.at_ v=true then(1:Int)else 0)*(o:Int)+_=_;split<;>push_cast<;>omega
theorem pV(n:Nat)(f g:Nat->Int):MX.sm n (fun i=>f i-g i)=MX.sm n f-MX.sm n g:=by
 induction n with
 |zero=>rfl
 |succ n ih =>
  show MX.sm n (fun i=>f i-g i)+(f n-g n)=(MX.sm n f+f n)-(MX.sm n g+g n);rw [ih];omega
theorem rR{L:List Bond}{v n:Nat}(h:∀ x∈L,x.a<n/\x.b<n)(hv:n<=v):∀ l,jP L l v=0:=by
 induction L with
 |nil=>exact fun l=>Be l v
 |cons x L ih =>
  intro l;cases l with
  |nil=>rfl
  |cons o l =>
   have hx:=h x (cZ ..);rw [zv,ih (fun y hy=>h y (dk _ hy)) l,ac];unfold Bond.at_;simp;omega
theorem A4{M:Mol}(w:Wf M)(l:List Nat):l∈ordersFor M.sums M.bonds (M.sums.map fun _=>0)↔l.length=M.bonds.length/\(∀ o∈l,1<=o/\o<=3)/\∀ v,v<M.atoms.length->jP M.bonds l v=jP M.bonds M.orders v:=by
 have sl:M.sums.length=M.atoms.length:=by unfold Mol.sums Mol.n;rw [aW,rh]
 have hb:∀ x∈M.bonds,x.a<M.atoms.length/\x.b<M.atoms.length:=fun x hx=>let h:=w.bd x hx;⟨qv h.ab h.bn,h.bn⟩;have zl:∀ v,(M.sums.map fun _=>0).getD v 0=0:=fun v=>by
  rw [jN,dQ];cases M.sums[v]?<;>rfl
 have sg:∀ v,M.sums.getD v 0=if v<M.atoms.length then jP M.bonds M.orders v else 0:=fun v=>by
  unfold Mol.sums Mol.n;rw [jN,dQ];by_cases q:v<M.atoms.length
  ·rw [ae q,dv (by rw [rh];exact q),AJ]
   show M.sum v=_;unfold Mol.sum Mol.orders;exact uf M.bonds v
  ·rw [ac q,zk.mpr (by rw [rh];omega)];rfl
 rw [HR M.sums M.bonds _ l (by rw [aW]) fun x hx=>⟨by rw [sl];exact(hb x hx).1,by rw [sl];exact(hb x hx).2,eG (w.bd x hx).ab⟩]
 refine rK fun _=>rK fun _=>⟨fun h v hv=>?_,fun h v=>?_⟩
 ·have:=h v;rw [zl,sg,ae hv]at this;omega
 ·rw [zl,sg];by_cases q:v<M.atoms.length
  ·rw [ae q,h v q];omega
  ·rw [ac q,rR hb (by omega)]
theorem AW{M:Mol}{e:Nat}{x:Bond}(h:M.bonds[e]?=some x):M.orders.getD e 0=x.order:=by
 unfold Mol.orders;rw [jN,dQ,h];rfl
theorem Oo{M:Mol}(w:Wf M){l:List Nat}(hl:l.length=M.bonds.length)(v:Nat):(GM M).bdr (fun e=>((l.getD e 0:Nat):Int)-((M.orders.getD e 0:Nat):Int)) v=(jP M.bonds l v:Int)-(jP M.bonds M.orders v:Int):=by
 have hn:∀ x∈M.bonds,x.a≠x.b:=fun x hx=>eG (w.bd x hx).ab;rw [<-Jw M.bonds l v hl hn,<-Jw M.bonds M.orders v (by unfold Mol.orders;rw [aW]) hn,<-pV]
 show MX.sm M.bonds.length _=_;refine MX.Z5a fun i hi=>?_;show MX.inc _ v*_=MX.inc _ v*_-MX.inc _ v*_;rw [Int.mul_sub];rfl
theorem tR{M:Mol}(w:Wf M){l:List Nat}(h:l∈ordersFor M.sums M.bonds (M.sums.map fun _=>0)):(GM M).Chg fun e=>((l.getD e 0:Nat):Int)-((M.orders.getD e 0:Nat):Int):=by
 obtain⟨h1,h2,h3⟩:=(A4 w l).mp h;have key:∀ e,e<M.bonds.length->∃ x,M.bonds[e]?=some x/\1<=l.getD e 0/\l.getD e 0<=3:=fun e he=>by
  refine⟨M.bonds[e],dv he,?_⟩;have le:e<l.length:=by omega
  rw [jN,dv le];exact h2 _ (AI le)
 refine⟨fun e he=>?_,fun e he=>?_,fun v hv=>?_⟩
 ·obtain⟨x,hx,a,b⟩:=key e he;rw [iB hx,AW hx];dsimp only;omega
 ·obtain⟨x,hx,a,b⟩:=key e he;rw [iB hx,AW hx];dsimp only;omega
 ·rw [Oo w h1,h3 v hv];omega
theorem rS{M:Mol}(w:Wf M){δ:Nat->Int}(h:(GM M).Chg δ):∃ l,l∈ordersFor M.sums M.bonds (M.sums.map fun _=>0)/\∀ e,e<M.bonds.length->((l.getD e 0:Nat):Int)=((M.orders.getD e 0:Nat):Int)+δ e:=by
 have key:∀ e,e<M.bonds.length->1<=((M.orders.getD e 0:Nat):Int)+δ e/\((M.orders.getD e 0:Nat):Int)+δ e<=3:=fun e he=>by
  have hx:M.bonds[e]?=some M.bonds[e]:=dv he;have a:=h.up e he;have b:=h.dn e he;rw [iB hx]at a b;rw [AW hx];dsimp only at a b;omega
 have gl:∀ e,e<M.bonds.length->(((((List.range M.bonds.length).map fun e=>(((M.orders.getD e 0:Nat):Int)+δ e).toNat)).getD e 0:Nat):Int)=((M.orders.getD e 0:Nat):Int)+δ e:=fun e he=>by
  rw [jN,dQ,dv (by rw [rh];exact he),AJ]
  show(((((M.orders.getD e 0:Nat):Int)+δ e).toNat:Nat):Int)=_;have:=key e he;omega
 have ll:((List.range M.bonds.length).map fun e=>(((M.orders.getD e 0:Nat):Int)+δ e).toNat).length=M.bonds.length:=by rw [aW,rh]
 refine⟨_,(A4 w _).mpr ⟨ll,fun o ho=>?_,fun v hv=>?_⟩,gl⟩
 ·obtain⟨e,he,rfl⟩:=i4.mp ho;have:=key e (AM.mp he);omega
 ·have e1:=Oo w ll v;have e2:=h.sum v hv;have e3:(GM M).bdr (fun e=>(((((List.range M.bonds.length).map fun e=>(((M.orders.getD e 0:Nat):Int)+δ e).toNat)).getD e 0:Nat):Int)-((M.orders.getD e 0:Nat):Int)) v=(GM M).bdr δ v:=MX.Z5a fun i hi=>by
   have:=gl i hi;dsimp only;rw [show(((((List.range M.bonds.length).map fun e=>(((M.orders.getD e 0:Nat):Int)+δ e).toNat)).getD i 0:Nat):Int)-((M.orders.getD i 0:Nat):Int)=δ i by omega]
  rw [e3,e2]at e1;omega
theorem NF{M:Mol}{l:List Nat}(h:l.length=M.bonds.length):(M.ordered l).orders=l:=by
 unfold Mol.ordered Mol.orders;dsimp only;rw [jM];have:(Bond.order ∘ fun x:Bond×Nat=>({ x.1 with order:=x.2 }:Bond))=Prod.snd:=rfl
 rw [this,List.map_snd_zip (by omega)]
theorem Zbk{M:Mol}(w:Wf M){k:Nat}{x:Bond}(hk:M.bonds[k]?=some x):(M.fixedAt k==2)=true↔x.order=2/\∀ δ,(GM M).Chg δ->δ k=0:=by
 have km:=(eg.mp hk).1;have e1:M.fixedAt k=if ((M.redrawings.map Mol.orders).all fun(r:List Nat)=>r[k]?==some x.order)=true then x.order else 0:=by
  unfold Mol.fixedAt Mol.fixed;dsimp only;rw [jN,dQ,List.getElem?_zipIdx,hk];simp only [zf,Fc,Nat.zero_add]
 have e2:((M.redrawings.map Mol.orders).all fun(r:List Nat)=>r[k]?==some x.order)=true↔∀ l∈ordersFor M.sums M.bonds (M.sums.map fun _=>0),l[k]?=some x.order:=by
  rw [uK];unfold Mol.redrawings;constructor
  ·intro h l hl;have:=h l (i4.mpr ⟨M.ordered l,i4.mpr ⟨l,hl,rfl⟩,NF ((A4 w l).mp hl).1⟩);exact aJ.mp this
  ·intro h r hr;obtain⟨m,hm,rfl⟩:=i4.mp hr;obtain⟨l,hl,rfl⟩:=i4.mp hm;rw [NF ((A4 w l).mp hl).1];exact aJ.mpr (h l hl)
 have e3:(∀ l∈ordersFor M.sums M.bonds (M.sums.map fun _=>0),l[k]?=some x.order)↔∀ δ,(GM M).Chg δ->δ k=0:=by
  constructor
  ·intro h δ hδ;obtain⟨l,hl,hg⟩:=rS w hδ;have a:=h l hl;have b:=hg k km;rw [jN,a,AW hk]at b;simp only [Fc]at b;omega
  ·intro h l hl;have a:=h _ (tR w hl);rw [AW hk]at a;have le:k<l.length:=by rw [((A4 w l).mp hl).1];exact km
   rw [jN,dv le]at a;simp only [Fc]at a;rw [dv le];congr 1;omega
 have ox:=(w.bd x (gL hk)).od;rw [aJ,e1,<-e3,<-e2];constructor
 ·intro h;split at h
  ·rename_i q;exact⟨h,q⟩
  ·omega
 ·rintro⟨h,q⟩;rw [ae q];exact h
def jQ(M:Mol)(v:Nat):Nat:=(M.bonds.filter fun x=>x.at_ v).length
theorem I0(n:Nat)(p:Nat->Bool):((List.range n).filter p).length=MX.cnt n fun w=>p w=true:=by
 induction n with
 |zero=>rfl
 |succ n ih =>
  have e:MX.cnt (n+1) (fun w=>p w=true)=MX.cnt n (fun w=>p w=true)+(if p n=true then 1 else 0):=by
   rw [MX.cnt];split<;>rfl
  rw [List.range_succ,List.filter_append,gD,ih,e];by_cases q:p n=true
  ·rw [zh q,ae q];rfl
  ·rw [zi q,ac q];rfl
theorem rJ{x:Bond}{v w:Nat}:x.joins v w=true↔(x.a=v/\x.b=w)\/(x.a=w/\x.b=v):=by
 unfold Bond.joins;simp
theorem FO{x:Bond}{v:Nat}:x.at_ v=true↔x.a=v\/x.b=v:=by
 unfold Bond.at_;simp
theorem wk{L:List Bond}{v w:Nat}:(L.find? fun x=>x.joins v w).isSome=true↔∃ x∈L,x.joins v w=true:=by
 rw [List.find?_isSome]
theorem wE(n:Nat):MX.cnt n (fun _=>False)=0:=by
 induction n with
 |zero=>rfl
 |succ n ih=>unfold MX.cnt;rw [ih,ac (fun h=>h)]
theorem PV{n v:Nat}:∀ {L:List Bond},(∀ x∈L,AB n x)->L.Pairwise An->MX.cnt n (fun w=>(L.find? fun x=>x.joins v w).isSome=true)=(L.filter fun x=>x.at_ v).length
 |[],_,_=>by
  rw [MX.Z4C (q:=fun _=>False) fun x _=>by simp]
  exact wE n
 |x::L,h,hp=>by
  have hL:=fun y hy=>h y (dk _ hy);have ih:=PV (v:=v) hL (AG.mp hp).2;have wx:=h x (cZ ..);by_cases q:x.at_ v=true
  ·rw [zh (p:=fun x:Bond=>x.at_ v) q,gC,<-ih];have hv:=FO.mp q;have ab:=wx.ab;have bn:=wx.bn;obtain⟨w0,hw0,hj,uniq⟩:∃ w0,w0<n/\x.joins v w0=true/\∀ w,x.joins v w=true->w=w0:=by
    rcases hv with hv |hv
    ·exact⟨x.b,bn,rJ.mpr (.inl ⟨hv,rfl⟩),fun w hw=>by rcases rJ.mp hw with⟨_,z⟩ |⟨_,z⟩<;>omega⟩
    ·exact⟨x.a,by omega,rJ.mpr (.inr ⟨rfl,hv⟩),fun w hw=>by rcases rJ.mp hw with⟨_,z⟩ |⟨z,_⟩<;>omega⟩
   refine MX.Z9k hw0 (wk.mpr ⟨x,cZ ..,hj⟩) fun w=>?_;rw [wk,wk];constructor
   ·rintro⟨y,hy,hyj⟩;refine⟨⟨y,dk _ hy,hyj⟩,fun z=>?_⟩;subst z;have wy:=hL y hy;have yb:=wy.ab;have bel:=(AG.mp hp).1 y hy;unfold An at bel;rcases rJ.mp hyj with⟨a,b⟩ |⟨a,b⟩<;>rcases rJ.mp hj with⟨c,d⟩ |⟨c,d⟩<;>omega
   ·rintro⟨⟨y,hy,hyj⟩,bV⟩;rcases bw.mp hy with rfl |hy
    ·exact absurd (uniq w hyj) bV
    ·exact⟨y,hy,hyj⟩
  ·rw [zi (p:=fun x:Bond=>x.at_ v) q,<-ih];refine MX.Z4C fun w _=>?_;rw [wk,wk];constructor
   ·rintro⟨y,hy,hyj⟩;rcases bw.mp hy with rfl |hy
    ·refine absurd (FO.mpr ?_) q;rcases rJ.mp hyj with⟨a,b⟩ |⟨a,b⟩
     ·exact .inl a
     ·exact .inr b
    ·exact⟨y,hy,hyj⟩
   ·rintro⟨y,hy,hyj⟩;exact⟨y,dk _ hy,hyj⟩
theorem NU{M:Mol}(w:Wf M)(v:Nat):(M.beside v).length=jQ M v:=by
 unfold Mol.beside Mol.n;rw [I0];exact PV w.bd w.rs
theorem Z9Q{M:Mol}(w:Wf M){v u:Nat}(hu:u<M.atoms.length)(hj:M.joined v u=true):(M.besides v u).length+1=jQ M v:=by
 rw [<-NU w v];unfold Mol.besides Mol.beside Mol.n;rw [List.filter_filter,I0,I0];refine(MX.Z9k hu hj fun x=>?_).symm;rw [i3,gU,and_comm]
def dF(M:Mol)(v:Nat):Prop:=(1:Int)<=(jQ M v:Int)-1/\(jQ M v:Int)-1+((M.atom v).hydrogens:Int)<=2
theorem NV{M:Mol}(w:Wf M){v u:Nat}(hu:u<M.atoms.length)(hj:M.joined v u=true):M.endMay v u=true↔dF M v:=by
 have:=Z9Q w hu hj;unfold Mol.endMay dF;rw [i3,ag,ag];omega
theorem ZbM{M:Mol}(w:Wf M){k:Nat}{x:Bond}(hk:M.bonds[k]?=some x):M.sided k=true↔x.order=2/\dF M x.a/\dF M x.b/\∀ δ,(GM M).Chg δ->δ k=0:=by
 have wx:=w.bd x (gL hk);have hx:=gL hk;have j1:M.joined x.a x.b=true:=wk.mpr ⟨x,hx,rJ.mpr (.inl ⟨rfl,rfl⟩)⟩;have j2:M.joined x.b x.a=true:=wk.mpr ⟨x,hx,rJ.mpr (.inr ⟨rfl,rfl⟩)⟩;unfold Mol.sided;rw [hk];dsimp only;rw [i3,i3,Zbk w hk,NV w wx.bn j1,NV w (qv wx.ab wx.bn) j2];constructor
 ·rintro⟨⟨a,b⟩,c,d⟩;exact⟨a,c,d,b⟩
 ·rintro⟨a,c,d,b⟩;exact⟨⟨a,b⟩,c,d⟩
theorem Zbr{M:Mol}(w:Wf M)(v:Nat):M.handed v=(decide (3<=jQ M v)&&(decide ((M.atom v).hydrogens<=1)&&decide (jQ M v+(M.atom v).hydrogens<=4))):=by
 unfold Mol.handed;rw [NU w v]
end BK
end
section
namespace BK
open PySem PySem.Spec PyProof.Rows L2 EX RD LM
def cV(n:Nat)(c:Nat->Int):List V:=(List.range n).map fun v=>.int (c v)
theorem wj(n:Nat)(c:Nat->Int):(cV n c).length=n:=by unfold cV;rw [aW,rh]
theorem zx{n v:Nat}(c:Nat->Int)(h:v<n):(cV n c)[v]?=some (.int (c v)):=by
 unfold cV;rw [dQ,dv (by rw [rh];exact h),AJ];rfl
theorem nF(n a:Nat)(c:Nat->Int)(y:Int):(cV n c).set a (.int y)=cV n fun v=>if v=a then y else c v:=by
 apply List.ext_getElem?;intro i;rw [List.getElem?_set];by_cases hi:i<n
 ·rw [zx _ hi,zx _ hi,wj];by_cases q:a=i
  ·subst q;rw [ae rfl,ae hi,ae rfl]
  ·rw [ac q,ac (Ne.symm q)]
 ·have e1:(cV n c)[i]?=none:=zk.mpr (by rw [wj];omega)
  have e2:(cV n fun v=>if v=a then y else c v)[i]?=none:=zk.mpr (by rw [wj];omega)
  rw [e1,e2,wj];split
  ·split
   ·omega
   ·rfl
  ·rfl
theorem OX{n:Nat}{c d:Nat->Int}(h:∀ v,v<n->c v=d v):cV n c=cV n d:=by
 unfold cV;exact qZ fun v hv=>by rw [h v (AM.mp hv)]
def dg(M:Fk.Mol)(i v:Nat):Int:=(((M.bonds.take i).filter fun x=>x.at_ v).length:Int)
theorem rY{M:Fk.Mol}{i:Nat}{x:Fk.Bond}(h:M.bonds[i]?=some x)(hn:x.a≠x.b)(v:Nat):dg M (i+1) v=(if v=x.b then(if v=x.a then dg M i v+1 else dg M i v)+1 else(if v=x.a then dg M i v+1 else dg M i v)):=by
 unfold dg;rw [mK,h,List.filter_append,gD];show(((_:Nat)+((([x]:List Fk.Bond).filter fun x=>x.at_ v).length):Nat):Int)=_;by_cases q:x.at_ v=true
 ·rw [zh (p:=fun x:Fk.Bond=>x.at_ v) q];rcases FO.mp q with z |z
  ·rw [ac (by omega),ae z.symm];simp
  ·rw [ae z.symm,ac (by omega)];simp
 ·rw [zi (p:=fun x:Fk.Bond=>x.at_ v) q];have:=fun z=>q (FO.mpr z);rw [ac (fun z=>this (.inr z.symm)),ac (fun z=>this (.inl z.symm))];simp
theorem P3{M:Fk.Mol}{i:Nat}{x:Fk.Atom}(h:M.atoms[i]?=some x):M.atom i=x:=by
 unfold Fk.Mol.atom;rw [jN,h];rfl
section
variable{P:Program}{w:World}{K:aq}{mg:Str->Option Value}{base:Heap}{CF CR fF CA CB CM:Addr}
def Ea(CA CB CM:Addr):Sp:=fun vs H Q _=>∃ (mr al bl:Addr)(as ds:List Addr)(M:Fk.Mol),vs=[.ref mr]/\MolAt CM CA CB H mr al bl as ds M/\Wf M/\∀ H' cl,Same H H'->H' cl=some (.lst (cV M.atoms.length fun v=>(jQ M v:Int)))->Q (.ref cl) H'
theorem tV:cX ["molecule","counts","bond","atom"] ["molecule"] (bo AT):=⟨rfl,rfl,rfl,by decide +kernel,rfl,by decide +kernel,by decide +kernel⟩
theorem Br:cY ["molecule","counts","bond","atom"] (bo AT) (IR (eQ AT)) [("atom",3)]:=⟨rfl,by decide +kernel,by decide +kernel,by decide +kernel,by decide +kernel⟩
theorem LH{f:Addr}{fd:FuncData}(F:Fun K "neighbour_counts" "neighbour_counts" AT f fd)(TM:uG K CM)(TB:uE K CB):am P w K mg base CX0 1 f fd ["molecule"] (Ea CA CB CM):=by
 refine F.ok tV (fun vs H Q E h=>?_) (fun bq A outer s H vs Q E hr h=>?_)
 ·obtain⟨mr,al,bl,as,ds,M,rfl,_⟩:=h;rfl
 ·obtain⟨mr,al,bl,as,ds,M,rfl,mo,wf,k⟩:=h;refine⟨_,aO (O7 (i:=1) rfl tV.nd rfl rfl (A9 rfl rfl rfl rfl) (qy (br (pv 0) rfl)) Br (fun s H C cl fp=>eU (i:=3) tV.nd rfl (Or.inl rfl)) (fun s H C cl fp=>mQ) (fun s H C cl fp=>bz))
   (aO (lI PassesOwn.never rfl (qy (br (pv 0) rfl)) (eU (i:=2) tV.nd rfl (Or.inl rfl))
     (aO (O5 (pv 1) (br (pv 2) rfl) O6 bz ow Je) (bh (O5 (pv 1) (br (pv 2) rfl) O6 bz ow Je))))
   (bh (dL (pv 1)))),?_⟩
  obtain⟨dm,hm⟩:=mo.top;have la:as.length=M.atoms.length:=mo.ats.1;have wn:=wf.n;refine⟨_,rfl,mr,CM,dm,_,_,rfl,hm,TM.cl,TM.na,vY _ _,al,rfl,⟨_,SqL.of mo.atl⟩,fun cl oi=>zr (K:=K) (a:=al) (xs:=as.map V.ref) (fun i H2=>L2.Same H H2/\H2 cl=some (.lst (cV i fun _=>0))) ⟨RD.Same.new oi,Z2j⟩ (fun i H2 _ h=>SqL.of (h.1 _ _ mo.atl)) ?_ ?_⟩
  ·rintro i y H2 hi ⟨s2,h2⟩;have li:i<(as.map V.ref).length:=(eg.mp hi).1;rw [aW]at li;refine⟨rfl,_,h2,by rw [wj,ak];omega,fun b o e=>?_,?_⟩
   ·rw [aj (fun z=>by rw [z,oi]at e;cases e)];exact s2 _ _ e
   ·rw [Z2j];unfold cV;rw [List.range_succ,fO];rfl
  ·rintro H2 ⟨s2,h2⟩;rw [aW,la]at h2;have lS:=mo.same s2;refine⟨_,rfl,mr,CM,dm,_,_,rfl,s2 _ _ hm,TM.cl,TM.nb,A1 _ _,bl,rfl,⟨_,SqL.of lS.bdl⟩,Fi (K:=K) (a:=bl) (xs:=ds.map V.ref) (fun i σ H'=>∃ v2 v3:Option V,σ=[some (.ref mr),some (.ref cl),v2,v3]/\L2.Same H H'/\H' cl=some (.lst (cV M.atoms.length fun v=>dg M i v)))
    ⟨none,none,rfl,s2,h2⟩ (fun i σ H' _ ⟨_,_,_,s',_⟩=>SqL.of (s' _ _ mo.bdl)) ?_ ?_⟩
   ·rintro i y σ H3 hi ⟨v2,v3,rfl,s3,h3⟩;have mo3:=mo.same s3;obtain⟨t,x,rfl,ht,hx,hH⟩:=mo3.bds.at hi;obtain⟨dt,gt⟩:=hH;have wx:=wf.bd x (gL hx);have an:x.a<M.atoms.length:=qv wx.ab wx.bn;refine⟨_,rfl,_,rfl,t,CB,dt,_,_,rfl,gt,TB.cl,TB.na,lL _ _ _ _,cl,_,x.a,_,rfl,rfl,SqL.of h3,zx _ an,_,_,rfl,rfl,cl,_,_,x.a,rfl,rfl,h3,IU (by rw [wj];exact an),?_⟩
    rw [nF];have ncl:H cl=none:=by
     cases q:H cl with
     |none=>rfl
     |some o=>rw [oi]at q;cases q
    have gt4:upd H3 cl (.lst (cV M.atoms.length fun v=>if v=x.a then dg M i x.a+1 else dg M i v)) t=some (.ins CB dt (bf x.a x.b (x.order:Int) (x.side:Int))):=by rw [aj (az gt h3 (by intro z;cases z))];exact gt
    refine⟨_,rfl,_,rfl,t,CB,dt,_,_,rfl,gt4,TB.cl,TB.nb,lM _ _ _ _,cl,_,x.b,_,rfl,rfl,SqL.of Z2j,zx _ wx.bn,_,_,rfl,rfl,cl,_,_,x.b,rfl,rfl,Z2j,IU (by rw [wj];exact wx.bn),?_⟩
    rw [nF,j4];refine⟨_,_,rfl,fun b o e=>?_,?_⟩
    ·rw [aj (fun z=>by rw [z,ncl]at e;cases e)];exact s3 _ _ e
    ·rw [Z2j];congr 2;refine OX fun v hv=>?_;rw [rY hx (eG wx.ab)];by_cases q2:v=x.b
     ·subst q2;rw [ae rfl,ae rfl];split
      ·rename_i z;rw [z]
      ·rfl
     ·rw [ac q2,ac q2];by_cases q1:v=x.a
      ·subst q1;rfl
      ·rw [ac q1,ac q1]
   ·rintro σ H3 ⟨v2,v3,rfl,s3,h3⟩;refine⟨_,rfl,k H3 cl s3 ?_⟩;rw [h3,aW,mo.bds.1];congr 2;refine OX fun v _=>?_;unfold dg jQ;rw [qx]
def qc(CA:Addr):Sp:=fun vs H Q _=>∃ (t:Addr)(x:Fk.Atom)(d:Nat),vs=[.ref t,.int (d:Int)]/\AtomAt CA H t x/\Q (.bl (decide (3<=d)&&(decide (x.hydrogens<=1)&&decide (d+x.hydrogens<=4)))) H
theorem yB:cX ["atom","neighbours"] ["atom","neighbours"] (bo Hl):=⟨rfl,rfl,rfl,by decide +kernel,rfl,by decide +kernel,by decide +kernel⟩
theorem xY{f:Addr}{fd:FuncData}(F:Fun K "may_have_hand" "may_have_hand" Hl f fd)(TA:uD K CA):am P w K mg base CX0 1 f fd ["atom","neighbours"] (qc CA):=by
 refine F.ok yB (fun vs H Q E h=>?_) (fun bq A outer s H vs Q E hr h=>?_)
 ·obtain⟨t,x,d,rfl,_⟩:=h;rfl
 ·obtain⟨t,x,d,rfl,⟨dt,gt⟩,k⟩:=h;refine⟨_,bh (dL (Bj (wb vo (pv 1) bz (eT _)) (Bj (wb oV (br (pv 0) rfl) bz (eT _)) (FJ (wb oV (a0 kJ (pv 1) (br (pv 0) rfl)) bz (eT _)))))),?_⟩;refine⟨_,rfl,_,_,rfl,rfl,_,rfl,bu (fun h1=>?_) (fun h1=>?_)⟩
  ·have g1:=ap h1;rw [show decide (3<=d)=true from ai (by omega),Bool.true_and]at k
   refine⟨_,rfl,t,CA,dt,_,_,rfl,gt,TA.cl,TA.nh,Fd _,_,_,rfl,rfl,_,rfl,bu (fun h2=>?_) (fun h2=>?_)⟩
   ·have g2:=ap h2;rw [show decide (x.hydrogens<=1)=true from ai (by omega),Bool.true_and]at k
    refine⟨_,rfl,_,rfl,t,CA,dt,_,_,rfl,gt,TA.cl,TA.nh,Fd _,_,_,rfl,rfl,_,_,rfl,rfl,?_⟩;rw [show decide (d+x.hydrogens<=4)=decide ((d:Int)+(x.hydrogens:Int)<=4) by
     by_cases z:d+x.hydrogens<=4
     ·rw [ai z,ai (by omega)]
     ·rw [aw z,aw (by omega)]]at k
    exact k
   ·have g2:¬ ((x.hydrogens:Int)<=1):=fun z=>h2 (ai z);rw [show decide (x.hydrogens<=1)=false from aw (by omega)]at k
    exact k
  ·have g1:¬ ((3:Int)<=(d:Int)):=fun z=>h1 (ai z);rw [show decide (3<=d)=false from aw (by omega)]at k
   exact k
def P7(CF CA CB CM:Addr):Sp:=fun vs H Q E=>∃ (mr al bl cl:Addr)(as ds:List Addr)(M:Fk.Mol),vs=[.ref mr,.ref cl]/\MolAt CM CA CB H mr al bl as ds M/\Wf M/\H cl=some (.lst (cV M.atoms.length fun v=>(jQ M v:Int))) /\
 match (List.range M.n).find? fun v=>(M.atom v).hand != 0&&!M.handed v with
 |none=>∀ H',Same H H'->Q .non H'
 |some v=>FltS CF E H 4 ((6+6*v+5:Nat):Int)
theorem jd:cX ["molecule","neighbours","k","atom"] ["molecule","neighbours"] (bo Hq):=⟨rfl,rfl,rfl,by decide +kernel,rfl,by decide +kernel,by decide +kernel⟩
theorem tE{f fG:Addr}{fd kK:FuncData}(F:Fun K "refuse_wrong_hands" "refuse_wrong_hands" Hq f fd)(T:TR K mg CF CR fF)(B:TM K mg)(gK:uG K CM)(TA:uD K CA)
  (GG:am P w K mg base CX0 1 fG kK ["atom","neighbours"] (qc CA))(mG:mg "may_have_hand" = some (.ref fG))(kG:PySem.W.keepIn K (.ref fG)=true)(bG:Binds K kK ["atom","neighbours"] []):
  am P w K mg base (gP P w) 3 f fd ["molecule","neighbours"] (P7 CF CA CB CM):=by
 refine kZ F jd (fun vs H Q E h=>?_) (fun bq A outer s H vs Q E hr h=>?_)
 ·obtain⟨mr,al,bl,cl,as,ds,M,rfl,_⟩:=h;rfl
 ·obtain⟨mr,al,bl,cl,as,ds,M,rfl,mo,wf,hc,k⟩:=h;have gO:=(show A.depth+1+1<recursionLimit from by have:=hr.dp;simp only [Around.deeper]at this;omega)
  have iK:Room 1 _:=hr.mono (by decide)
  refine⟨_,bh (lI Bo rfl (FC rfl B.enum (ao (br (pv 0) rfl) aE)) (zB rfl (kz (eU (i:=2) jd.nd rfl (Or.inl rfl)) (kz (eU (i:=3) jd.nd rfl (Or.inl rfl)) we)))
   (bh (b8 (PW.pt (Bp (gr d5 (br (pv 3) rfl) bz (eT _)) (Fy (Jl (zF (fQ GG iK rfl mG kG bG .nil aC (ao (pv 3) (ao (dq qz (pv 1) (pv 2) (fun _ _=>rfl)) aE))))))))
     (bh (uN T.xi rfl rfl gO rfl T.mgF rD (ao (ay rfl B.c4) (ao (a0 uO (a0 kJ (a0 kJ (ay rfl B.z1) (a0 zE (ay rfl B.z2) (pv 2))) (ay rfl B.z2)) bz) aE)))) io))),?_⟩
  obtain⟨dm,hm⟩:=mo.top;have wn:=wf.n;refine⟨_,rfl,mr,CM,dm,_,_,rfl,hm,gK.cl,gK.na,vY _ _,al,_,rfl,SqL.of mo.atl,Fj (K:=K) (a:=al) (xs:=as.map V.ref) (fun i σ H'=>∃ v2 v3:Option V,σ=[some (.ref mr),some (.ref cl),v2,v3]/\L2.Same H H'/\∀ j,j<i->((M.atom j).hand != 0&&!M.handed j)=false)
   ⟨none,none,rfl,L2.Same.refl _,fun j hj=>absurd hj (Nat.not_lt_zero _)⟩ (fun i σ H' _ ⟨_,_,_,s',_⟩=>SqL.of (s' _ _ mo.atl)) ?_ ?_⟩
  ·rintro i y σ H1 U hi ⟨v2,v3,rfl,s1,hj⟩ hU;have vi:=mo.same s1;obtain⟨t,x,rfl,ht,hx,hH⟩:=vi.ats.at hi;have s2:L2.Same H (upd H1 U (.tup [.int (i:Int),.ref t])):=s1.trans (RD.Same.new hU);obtain⟨dt,gt⟩:=hH;have zL:upd H1 U (.tup [.int (i:Int),.ref t]) t=some (.ins CA dt (lK x)):=RD.Same.new hU _ _ gt;have li:i<M.atoms.length:=(eg.mp hx).1;have ex:=P3 hx;have hp:((M.atom i).hand != 0&&!M.handed i)=(x.hand != 0&&!(decide (3<=jQ M i)&&(decide (x.hydrogens<=1)&&decide (jQ M i+x.hydrogens<=4)))):=by rw [Zbr wf,ex]
   have go:((M.atom i).hand != 0&&!M.handed i)=false->∀ j,j<i+1->((M.atom j).hand != 0&&!M.handed j)=false:=fun h j qJ=>by
    by_cases z:j=i
    ·rw [z];exact h
    ·exact hj j (by omega)
   refine⟨U,_,rfl,SqT.of Z2j,rfl,_,_,rfl,_,_,rfl,rfl,?_⟩;refine⟨_,rfl,t,CA,dt,_,_,rfl,zL,TA.cl,TA.nd,nj _,rfl,_,rfl,bu (fun h1=>?_) (fun h1=>?_)⟩
   ·have bV:(x.hand != 0)=true:=by
     rw [gU];intro z;rw [z]at h1;simp at h1
    refine⟨_,rfl,_,rfl,_,rfl,cl,_,_,_,rfl,rfl,SqL.of (s2 _ _ hc),qA (zx _ li),t,x,jQ M i,rfl,⟨dt,zL⟩,_,rfl,bu (fun h2=>?_) (fun h2=>?_)⟩
    ·have hf:(List.range M.n).find? (fun v=>(M.atom v).hand != 0&&!M.handed v)=some i:=by
      rw [List.find?_range_eq_some];refine⟨by rw [hp,bV,h2];rfl,AM.mpr li,fun j qJ=>by rw [hj j qJ];rfl⟩
     rw [hf]at k;refine⟨_,rfl,_,_,rfl,rfl,.inl (by constructor<;>omega),_,_,rfl,rfl,_,_,rfl,rfl,_,_,rfl,rfl,_,_,_,.inr ⟨rfl,rfl⟩,fun eO hn=>?_⟩
     refine k _ eO (s2.trans (RD.Same.new hn)) ?_;rw [Z2j];show some (HO.xd (xf 4 (6+6*(i:Int)+6-1) 0))=_;rw [show 6+6*(i:Int)+6-1=((6+6*i+5:Nat):Int) by omega]
    ·refine⟨_,_,rfl,s2,go ?_⟩;rw [hp,bV];simpa using h2
   ·refine⟨_,_,rfl,s2,go ?_⟩;have bV:(x.hand != 0)=false:=by
     rw [bne_eq_false_iff_eq];simp at h1;omega
    rw [hp,bV];rfl
  ·rintro σ H1 ⟨v2,v3,rfl,s1,hj⟩;rw [aW,mo.ats.1]at hj;have hf:(List.range M.n).find? (fun v=>(M.atom v).hand != 0&&!M.handed v)=none:=by
    rw [List.find?_range_eq_none];intro j qJ;rw [hj j qJ];rfl
   rw [hf]at k;exact k H1 s1
end
theorem MolAt.bds'{CM CA CB:Addr}{H:Hp}{mr al bl:Addr}{as ds:List Addr}{M:Fk.Mol}(h:MolAt CM CA CB H mr al bl as ds M):Bds CB (GM M) H bl ds fun e=>((M.bonds.getD e i5).side:Int):=by
 refine⟨h.bdl,h.bds.1,fun e r hr=>?_⟩;have le:e<M.bonds.length:=by rw [<-h.bds.1];exact(eg.mp hr).1
 have hx:M.bonds[e]?=some M.bonds[e]:=dv le;have hb:=h.bds.2 e r _ hr hx;rw [iB hx];unfold BndAt at hb;dsimp only;rw [jN,hx];exact hb
section
variable{P:Program}{w:World}{K:aq}{mg:Str->Option Value}{base:Heap}{CF CR fF CA CB CM CW CS:Addr}
def vE(CA:Addr):Sp:=fun vs H Q _=>∃ (t:Addr)(x:Fk.Atom)(o:Int),vs=[.ref t,.int o]/\AtomAt CA H t x/\Q (.bl (decide (1<=o)&&decide (o+(x.hydrogens:Int)<=2))) H
theorem DS:cX ["atom","others"] ["atom","others"] (bo Hk):=⟨rfl,rfl,rfl,by decide +kernel,rfl,by decide +kernel,by decide +kernel⟩
theorem Dq{f:Addr}{fd:FuncData}(F:Fun K "may_end_a_side" "may_end_a_side" Hk f fd)(TA:uD K CA):am P w K mg base CX0 1 f fd ["atom","others"] (vE CA):=by
 refine F.ok DS (fun vs H Q E h=>?_) (fun bq A outer s H vs Q E hr h=>?_)
 ·obtain⟨t,x,d,rfl,_⟩:=h;rfl
 ·obtain⟨t,x,d,rfl,⟨dt,gt⟩,k⟩:=h;refine⟨_,bh (dL (Bj (wb vo (pv 1) bz (eT _)) (FJ (wb oV (a0 kJ (pv 1) (br (pv 0) rfl)) bz (eT _))))),?_⟩;refine⟨_,rfl,_,_,rfl,rfl,_,rfl,bu (fun h1=>?_) (fun h1=>?_)⟩
  ·have g1:=ap h1;rw [show decide (1<=d)=true from ai (by omega),Bool.true_and]at k
   exact⟨_,rfl,_,rfl,t,CA,dt,_,_,rfl,gt,TA.cl,TA.nh,Fd _,_,_,rfl,rfl,_,_,rfl,rfl,k⟩
  ·have g1:¬ ((1:Int)<=d):=fun z=>h1 (ai z);rw [show decide (1<=d)=false from aw (by omega)]at k
   exact k
def qh(CA CB CM CW:Addr):Sp:=fun vs H Q _=>∃ (mr al bl cl wl:Addr)(as ds:List Addr)(M:Fk.Mol)(k:Nat)(x:Fk.Bond)(ls:List Addr)(ws:Nat->List Addr)(E:Nat->List (Nat×Nat)),vs=[.ref mr,.int (k:Int),.ref cl,.ref wl]/\MolAt CM CA CB H mr al bl as ds M/\Wf M /\
 H cl=some (.lst (cV M.atoms.length fun v=>(jQ M v:Int)))/\Wys0 CW (GM M) H wl ls ws E/\M.bonds[k]?=some x/\∀ (b:Bool) H',Same H H'->(b=true↔M.sided k=true)->Q (.bl b) H'
theorem ki:cX ["molecule","k","neighbours","ways","bond","end"] ["molecule","k","neighbours","ways"] (bo HG):=⟨rfl,rfl,rfl,by decide +kernel,rfl,by decide +kernel,by decide +kernel⟩
theorem ya{f fG fH:Addr}{fd kK BC:FuncData}(F:Fun K "may_have_side" "may_have_side" HG f fd)(gK:uG K CM)(TA:uD K CA)(TB:uE K CB)
  (GG:am P w K mg base CX0 1 fG kK ["atom","others"] (vE CA))(mG:mg "may_end_a_side" = some (.ref fG))(kG:PySem.W.keepIn K (.ref fG)=true)(bG:Binds K kK ["atom","others"] [])
  (GH:am P w K mg base CX0 8 fH BC ["ways","bonds","number"] (vF CW CB))(mH:mg "is_fixed_double" = some (.ref fH))(kH:PySem.W.keepIn K (.ref fH)=true)(bH:Binds K BC ["ways","bonds","number"] []):
  am P w K mg base CX0 9 f fd ["molecule","k","neighbours","ways"] (qh CA CB CM CW):=by
 refine F.ok ki (fun vs H Q E h=>?_) (fun bq A outer s H vs Q E' hr h=>?_)
 ·obtain⟨mr,al,bl,cl,wl,as,ds,M,k,x,ls,ws,E,rfl,_⟩:=h;rfl
 ·obtain⟨mr,al,bl,cl,wl,as,ds,M,k,x,ls,ws,E,rfl,mo,wf,hc,hW,hx,kk⟩:=h;have iK:Room 1 _:=hr.mono (by decide)
  refine⟨_,aO (dj (i:=4) ki.nd rfl (Or.inl rfl) (dq qz (br (pv 0) rfl) (pv 1) (fun _ _=>rfl)))
   (aO (b8 (gr d5 (br (pv 4) rfl) bz (eT _)) (bh (dL dG)) io)
   (aO (lI PassesOwn.never rfl (pw (qB (ao (br (pv 4) rfl) (ao (br (pv 4) rfl) aE)))) (eU (i:=5) ki.nd rfl (Or.inl rfl))
     (bh (b8 (Jl (zF (fQ GG iK rfl mG kG bG .nil aC (ao (dq qz (br (pv 0) rfl) (pv 5) (fun _ _=>rfl)) (ao (a0 uO (dq qz (pv 2) (pv 5) (fun _ _=>rfl)) bz) aE))))) (bh (dL dG)) io)))
   (bh (dL (fQ GH hr rfl mH kH bH .nil aC (ao (pv 3) (ao (br (pv 0) rfl) (ao (pv 1) aE)))))))),?_⟩
  obtain⟨dm,hm⟩:=mo.top;have km:k<M.bonds.length:=(eg.mp hx).1;have lk:k<ds.length:=by rw [mo.bds.1];exact km
  have hd:ds[k]?=some ds[k]:=dv lk;obtain⟨dt,gt⟩:=mo.bds.2 k _ x hd hx;have wx:=wf.bd x (gL hx);have an:x.a<M.atoms.length:=qv wx.ab wx.bn;have key:=ZbM wf hx;refine⟨_,rfl,mr,CM,dm,_,_,rfl,hm,gK.cl,gK.nb,A1 _ _,_,rfl,bl,_,_,.ref ds[k],rfl,rfl,SqL.of mo.bdl,qA (by rw [dQ,hd];rfl),?_⟩
  refine⟨_,rfl,ds[k],CB,dt,_,_,rfl,gt,TB.cl,TB.no,Jj _ _ _ _,rfl,_,rfl,bu (fun h1=>?_) (fun h1=>?_)⟩
  ·have ho:x.order≠2:=fun z=>by rw [z]at h1;simp at h1
   exact kk false H (L2.Same.refl _) ⟨fun z=>(by cases z),fun z=>absurd (key.mp z).1 ho⟩
  ·have ho:x.order=2:=by simp at h1;omega
   refine⟨_,rfl,ds[k],CB,dt,_,_,rfl,gt,TB.cl,TB.na,lL _ _ _ _,_,rfl,ds[k],CB,dt,_,_,rfl,gt,TB.cl,TB.nb,lM _ _ _ _,(by show 2<=sizeLine;decide),fun U hU=>?_⟩
   have sU:L2.Same H (upd H U (.tup [.int (x.a:Int),.int (x.b:Int)])):=RD.Same.new hU;refine⟨U,rfl,⟨_,SqT.of Z2j⟩,Py (K:=K) (a:=U) (xs:=[.int (x.a:Int),.int (x.b:Int)]) (fun i σ H'=>∃ v5:Option V,σ=[some (.ref mr),some (.int (k:Int)),some (.ref cl),some (.ref wl),some (.ref ds[k]),v5]/\H'=upd H U (.tup [.int (x.a:Int),.int (x.b:Int)])/\(1<=i->dF M x.a)/\(2<=i->dF M x.b))
    ⟨none,rfl,rfl,fun z=>absurd z (by decide),fun z=>absurd z (by decide)⟩ (fun i σ H' _ ⟨_,_,e,_⟩=>by rw [e];exact SqT.of Z2j) ?_ ?_⟩
   ·rintro i y σ H' hi ⟨v5,rfl,rfl,p1,p2⟩;obtain⟨v,rfl,hv,st⟩:∃ v:Nat,y=.int (v:Int)/\v<M.atoms.length/\(dF M v->(1<=i+1->dF M x.a)/\(2<=i+1->dF M x.b))/\(M.sided k=true->dF M v):=by
     match i,hi with
     |0,hi =>
      cases hi;exact⟨x.a,rfl,an,fun z=>⟨fun _=>z,fun q=>absurd q (by decide)⟩,fun z=>(key.mp z).2.1⟩
     |1,hi =>
      cases hi;exact⟨x.b,rfl,wx.bn,fun z=>⟨fun _=>p1 (by decide),fun _=>z⟩,fun z=>(key.mp z).2.2.1⟩
     |n+2,hi=>cases hi
    obtain⟨st,uc⟩:=st;have lS:=mo.same sU;have la:v<as.length:=by rw [mo.ats.1];exact hv
    have ha:as[v]?=some as[v]:=dv la;have Q8:M.atoms[v]?=some M.atoms[v]:=dv hv;have hA:=lS.ats.2 v _ _ ha Q8;have ex:=P3 Q8;refine⟨_,rfl,mr,CM,dm,_,_,rfl,sU _ _ hm,gK.cl,gK.na,vY _ _,_,rfl,al,_,_,.ref as[v],rfl,rfl,SqL.of lS.atl,qA (by rw [dQ,ha];rfl),_,rfl,_,rfl,cl,_,_,_,rfl,rfl,SqL.of (sU _ _ hc),qA (zx _ hv),_,_,rfl,rfl,
     as[v],_,_,rfl,hA,_,rfl,bu (fun h2=>?_) (fun h2=>?_)⟩
    ·have no:¬ dF M v:=fun z=>by
      unfold dF at z;rw [ex]at z;rw [ai z.1,ai z.2]at h2;cases h2
     exact kk false _ sU ⟨fun z=>(by cases z),fun z=>absurd (uc z) no⟩
    ·have EO:dF M v:=by
      unfold dF;rw [ex];have h3:(decide (1<=(jQ M v:Int)-1)&&decide ((jQ M v:Int)-1+(M.atoms[v].hydrogens:Int)<=2))=true:=by simpa using h2
      rw [i3]at h3;exact⟨ap h3.1,ap h3.2⟩
     exact⟨_,rfl,rfl,(st EO).1,(st EO).2⟩
   ·rintro σ H' ⟨v5,rfl,rfl,p1,p2⟩;have e1:=p1 (by show 1<=2;decide)
    have e2:=p2 (by show 2<=2;decide)
    have lS:=mo.same sU;refine⟨_,rfl,_,rfl,mr,CM,dm,_,_,rfl,sU _ _ hm,gK.cl,gK.nb,A1 _ _,_,rfl,wl,bl,k,GM M,ls,ws,E,ds,_,rfl,hW.same sU,lS.bds',uz wf,wf.n,km,?_,fun b H2 s2 hb=>?_⟩
    ·rw [iB hx,ho];rfl
    ·refine kk b H2 (sU.trans s2) ?_;rw [hb,key];exact⟨fun z=>⟨ho,e1,e2,z⟩,fun z=>z.2.2.2⟩
def PK(CF CA CB CM:Addr):Sp:=fun vs H Q E=>∃ (mr al bl cl:Addr)(as ds:List Addr)(M:Fk.Mol),vs=[.ref mr,.ref cl]/\MolAt CM CA CB H mr al bl as ds M/\Wf M/\H cl=some (.lst (cV M.atoms.length fun v=>(jQ M v:Int))) /\
 match (List.range M.bonds.length).find? fun j=>(M.bonds[j]?.map Fk.Bond.side).getD 0 != 0&&!M.sided j with
 |none=>∀ H',Same H H'->Q .non H'
 |some j=>FltS CF E H 6 ((6+6*M.n+4*j+3:Nat):Int)
theorem fK:cX ["molecule","neighbours","first_bond","ways","k","bond"] ["molecule","neighbours"] (bo Hr):=⟨rfl,rfl,rfl,by decide +kernel,rfl,by decide +kernel,by decide +kernel⟩
theorem tH{f fG fH:Addr}{fd kK BC:FuncData}(F:Fun K "refuse_wrong_sides" "refuse_wrong_sides" Hr f fd)(T:TR K mg CF CR fF)(B:TM K mg)(gK:uG K CM)(TB:uE K CB)
  (GG:am P w K mg base CX0 9 fG kK ["molecule","k","neighbours","ways"] (qh CA CB CM CW))(mG:mg "may_have_side" = some (.ref fG))(kG:PySem.W.keepIn K (.ref fG)=true)(bG:Binds K kK ["molecule","k","neighbours","ways"] [])
  (GH:am P w K mg base CX0 3 fH BC ["count","bonds"] (qi CW CB))(mH:mg "ways_at" = some (.ref fH))(kH:PySem.W.keepIn K (.ref fH)=true)(bH:Binds K BC ["count","bonds"] []):
  am P w K mg base (gP P w) 10 f fd ["molecule","neighbours"] (PK CF CA CB CM):=by
 refine kZ F fK (fun vs H Q E h=>?_) (fun bq A outer s H vs Q E' hr h=>?_)
 ·obtain⟨mr,al,bl,cl,as,ds,M,rfl,_⟩:=h;rfl
 ·obtain⟨mr,al,bl,cl,as,ds,M,rfl,mo,wf,hc,k⟩:=h;have gO:=(show A.depth+1+1<recursionLimit from by have:=hr.dp;simp only [Around.deeper]at this;omega)
  have ka:Room 3 _:=hr.mono (by decide)
  refine⟨_,aO (dj (i:=2) fK.nd rfl (Or.inl rfl) (a0 kJ (ay rfl B.z1) (a0 zE (ay rfl B.z2) (l7 rj (by rfl) T.len PySem.boot_len (ao (br (pv 0) rfl) aE)))))
   (aO (dj (i:=3) fK.nd rfl (Or.inl rfl) (fQ GH ka rfl mH kH bH .nil aC (ao (l7 rj (by rfl) T.len PySem.boot_len (ao (br (pv 0) rfl) aE)) (ao (br (pv 0) rfl) aE))))
   (bh (lI Bo rfl (FC rfl B.enum (ao (br (pv 0) rfl) aE)) (zB rfl (kz (eU (i:=4) fK.nd rfl (Or.inl rfl)) (kz (eU (i:=5) fK.nd rfl (Or.inl rfl)) we)))
     (bh (b8 (PW.pt (Bp (gr d5 (br (pv 5) rfl) bz (eT _)) (Fy (Jl (zF (fQ GG hr rfl mG kG bG .nil aC (ao (pv 0) (ao (pv 4) (ao (pv 1) (ao (pv 3) aE))))))))))
       (bh (uN T.xi rfl rfl gO rfl T.mgF rD (ao (ay rfl B.c6) (ao (a0 uO (a0 kJ (a0 kJ (pv 2) (a0 zE (ay rfl B.z3) (pv 4))) (ay rfl B.z3)) bz) aE)))) io))))),?_⟩
  obtain⟨dm,hm⟩:=mo.top;have wn:=wf.n;have wm:=wf.m;have la:(as.map V.ref).length=M.atoms.length:=by rw [aW,mo.ats.1]
  refine⟨_,rfl,mr,CM,dm,_,_,rfl,hm,gK.cl,gK.na,vY _ _,al,_,rfl,.inl (SqL.of mo.atl),_,_,rfl,rfl,.inl (by constructor<;>omega),_,_,rfl,rfl,?_⟩
  refine⟨_,rfl,mr,CM,dm,_,_,rfl,hm,gK.cl,gK.na,vY _ _,al,_,rfl,.inl (SqL.of mo.atl),_,rfl,mr,CM,dm,_,_,rfl,hm,gK.cl,gK.nb,A1 _ _,bl,GM M,ds,_,by rw [la];rfl,mo.bds',uz wf,wf.n,wf.m,fun H1 wl ls ws E s1 hW=>?_⟩
  have vi:=mo.same s1;refine⟨_,rfl,mr,CM,dm,_,_,rfl,s1 _ _ hm,gK.cl,gK.nb,A1 _ _,bl,_,rfl,SqL.of vi.bdl,Fj (K:=K) (a:=bl) (xs:=ds.map V.ref) (fun i σ H'=>∃ v4 v5:Option V,σ=[some (.ref mr),some (.ref cl),some (.int (6+6*(M.atoms.length:Int))),some (.ref wl),v4,v5]/\L2.Same H1 H' /\
    ∀ j,j<i->((M.bonds[j]?.map Fk.Bond.side).getD 0 != 0&&!M.sided j)=false)
   ⟨none,none,by rw [la];rfl,L2.Same.refl _,fun j hj=>absurd hj (Nat.not_lt_zero _)⟩ (fun i σ H' _ ⟨_,_,_,s',_⟩=>SqL.of (s' _ _ vi.bdl)) ?_ ?_⟩
  ·rintro i y σ H2 U hi ⟨v4,v5,rfl,s2,hj⟩ hU;have lS:=vi.same s2;obtain⟨t,x,rfl,ht,hx,hH⟩:=lS.bds.at hi;have s3:L2.Same H1 (upd H2 U (.tup [.int (i:Int),.ref t])):=s2.trans (RD.Same.new hU);obtain⟨dt,gt⟩:=hH;have zL:upd H2 U (.tup [.int (i:Int),.ref t]) t=some (.ins CB dt (bf x.a x.b (x.order:Int) (x.side:Int))):=RD.Same.new hU _ _ gt;have li:i<M.bonds.length:=(eg.mp hx).1;have hp:((M.bonds[i]?.map Fk.Bond.side).getD 0 != 0&&!M.sided i)=(x.side != 0&&!M.sided i):=by rw [hx];rfl
   have go:((M.bonds[i]?.map Fk.Bond.side).getD 0 != 0&&!M.sided i)=false->∀ j,j<i+1->((M.bonds[j]?.map Fk.Bond.side).getD 0 != 0&&!M.sided j)=false:=fun h j qJ=>by
    by_cases z:j=i
    ·rw [z];exact h
    ·exact hj j (by omega)
   refine⟨U,_,rfl,SqT.of Z2j,rfl,_,_,rfl,_,_,rfl,rfl,?_⟩;refine⟨_,rfl,t,CB,dt,_,_,rfl,zL,TB.cl,TB.ns,rM _ _ _ _,rfl,_,rfl,bu (fun h1=>?_) (fun h1=>?_)⟩
   ·have bV:(x.side != 0)=true:=by
     rw [gU];intro z;rw [z]at h1;simp at h1
    refine⟨_,rfl,_,rfl,_,rfl,_,rfl,mr,al,bl,cl,wl,as,ds,M,i,x,ls,ws,E,rfl,vi.same s3,wf,s3 _ _ (s1 _ _ hc),hW.same s3,hx,fun b H4 s4 hb=>⟨_,rfl,bu (fun h2=>?_) (fun h2=>?_)⟩⟩
    ·have sN:M.sided i=false:=by
      cases q:M.sided i with
      |false=>rfl
      |true=>rw [hb.mpr q]at h2;cases h2
     have hf:(List.range M.bonds.length).find? (fun j=>(M.bonds[j]?.map Fk.Bond.side).getD 0 != 0&&!M.sided j)=some i:=by
      rw [List.find?_range_eq_some];refine⟨by rw [hp,bV,sN];rfl,AM.mpr li,fun j qJ=>by rw [hj j qJ];rfl⟩
     rw [hf]at k;refine⟨_,rfl,_,rfl,_,_,rfl,rfl,.inl (by constructor<;>omega),_,_,rfl,rfl,_,_,rfl,rfl,_,_,rfl,rfl,_,_,_,.inr ⟨rfl,rfl⟩,fun eO hn=>?_⟩
     refine k _ eO (s1.trans (s3.trans (s4.trans (RD.Same.new hn)))) ?_;rw [Z2j];show some (HO.xd (xf 6 (6+6*(M.atoms.length:Int)+4*(i:Int)+4-1) 0))=_;rw [show 6+6*(M.atoms.length:Int)+4*(i:Int)+4-1=((6+6*M.n+4*i+3:Nat):Int) by unfold Fk.Mol.n;omega]
    ·refine⟨_,_,rfl,s3.trans s4,go ?_⟩;have hs:M.sided i=true:=hb.mp (by simpa using h2)
     rw [hp,hs];simp
   ·refine⟨_,_,rfl,s3,go ?_⟩;have bV:(x.side != 0)=false:=by
     rw [bne_eq_false_iff_eq];simp at h1;omega
    rw [hp,bV];rfl
  ·rintro σ H2 ⟨v4,v5,rfl,s2,hj⟩;rw [aW,mo.bds.1]at hj;have hf:(List.range M.bonds.length).find? (fun j=>(M.bonds[j]?.map Fk.Bond.side).getD 0 != 0&&!M.sided j)=none:=by
    rw [List.find?_range_eq_none];intro j qJ;rw [hj j qJ];rfl
   rw [hf]at k;exact k H2 (s1.trans s2)
def vH(K:aq)(CF CA CB CM:Addr):Sp:=fun vs H Q E=>∃ (a:Addr)(bs:List Int),vs=[.ref a]/\SqL K H a (bs.map V.int)/\(∀ x∈bs,0<=x/\x<=255) /\
 match jb bs with
 |.ok M=>∀ (H':Hp)(mr al bl:Addr)(as ds:List Addr),Same H H'->H al=none->H bl=none->MolAt CM CA CB H' mr al bl as ds M->Wf M->Q (.ref mr) H'
 |.error e=>FltS CF E H e.1 e.2
theorem FltS.same{CF:Addr}{E:XK}{H H1:Hp}{rule dH:Int}(f:FltS CF E H rule dH)(s:Same H H1):FltS CF E H1 rule dH:=fun H' dx s' h=>f H' dx (s.trans s') h
theorem pS:cX ["form","molecule","neighbours"] ["form"] (bo Hn):=⟨rfl,rfl,rfl,by decide +kernel,rfl,by decide +kernel,by decide +kernel⟩
theorem Du{f f1 f2 f3 f4:Addr}{fd uY Bz BA Qw:FuncData}(F:Fun K "read_molecule" "read_molecule" Hn f fd)
  (G1:am P w K mg base (gP P w) 5 f1 uY ["form"] (PJ K CF CA CB CM))(m1:mg "read_parts" = some (.ref f1))(k1:PySem.W.keepIn K (.ref f1)=true)(b1:Binds K uY ["form"] [])
  (G2:am P w K mg base CX0 1 f2 Bz ["molecule"] (Ea CA CB CM))(m2:mg "neighbour_counts" = some (.ref f2))(k2:PySem.W.keepIn K (.ref f2)=true)(b2:Binds K Bz ["molecule"] [])
  (G3:am P w K mg base (gP P w) 3 f3 BA ["molecule","neighbours"] (P7 CF CA CB CM))(m3:mg "refuse_wrong_hands" = some (.ref f3))(k3:PySem.W.keepIn K (.ref f3)=true)(b3:Binds K BA ["molecule","neighbours"] [])
  (G4:am P w K mg base (gP P w) 10 f4 Qw ["molecule","neighbours"] (PK CF CA CB CM))(m4:mg "refuse_wrong_sides" = some (.ref f4))(k4:PySem.W.keepIn K (.ref f4)=true)(b4:Binds K Qw ["molecule","neighbours"] []):
  am P w K mg base (gP P w) 11 f fd ["form"] (vH K CF CA CB CM):=by
 refine kZ F pS (fun vs H Q E h=>?_) (fun bq A outer s H vs Q E' hr h=>?_)
 ·obtain⟨a,bs,rfl,_⟩:=h;rfl
 ·obtain⟨a,bs,rfl,hS,hb,k⟩:=h;have hr5:Room 5 _:=hr.mono (by decide)
  have iK:Room 1 _:=hr.mono (by decide)
  have ka:Room 3 _:=hr.mono (by decide)
  refine⟨_,aO (dj (i:=1) pS.nd rfl (Or.inl rfl) (fQ G1 hr5 rfl m1 k1 b1 .nil gv (ao (pv 0) aE)))
   (aO (dj (i:=2) pS.nd rfl (Or.inl rfl) (fQ G2 iK rfl m2 k2 b2 .nil aC (ao (pv 1) aE)))
   (aO (gT (fQ G3 ka rfl m3 k3 b3 .nil gv (ao (pv 1) (ao (pv 2) aE))))
   (aO (gT (fQ G4 hr rfl m4 k4 b4 .nil gv (ao (pv 1) (ao (pv 2) aE))))
   (bh (dL (pv 1)))))),?_⟩
  unfold jb at k;refine⟨_,rfl,a,bs,rfl,hS,hb,?_⟩;cases e1:rH bs with
  |error e=>rw [e1]at k;exact k
  |ok M =>
   rw [e1]at k;dsimp only at k;have wf:=ZbJ e1;intro H1 mr al bl as ds s1 na1 nb1 mo;refine⟨_,rfl,mr,al,bl,as,ds,M,rfl,mo,wf,fun H2 cl s2 hc=>?_⟩;refine⟨_,rfl,_,rfl,mr,al,bl,cl,as,ds,M,rfl,mo.same s2,wf,hc,?_⟩;cases e2:(List.range M.n).find? (fun v=>(M.atom v).hand != 0&&!M.handed v)with
   |some v =>
    rw [e2]at k;exact FltS.same k (s1.trans s2)
   |none =>
    rw [e2]at k;dsimp only at k;intro H3 s3;refine⟨_,rfl,_,rfl,mr,al,bl,cl,as,ds,M,rfl,mo.same (s2.trans s3),wf,s3 _ _ hc,?_⟩;cases e3:(List.range M.bonds.length).find? (fun j=>(M.bonds[j]?.map Fk.Bond.side).getD 0 != 0&&!M.sided j)with
    |some j =>
     rw [e3]at k;exact FltS.same k ((s1.trans s2).trans s3)
    |none =>
     rw [e3]at k;intro H4 s4;exact⟨_,rfl,k H4 mr al bl as ds (((s1.trans s2).trans s3).trans s4) na1 nb1 (mo.same ((s2.trans s3).trans s4)) wf⟩
end
def eW(bs:List Int)(p:Nat):Except (Int×Int) (Fk.Mol×Nat):=
 match aX bs p 2 0 65535 with
 |.error e=>.error e
 |.ok n=>if bs.length<p+2+n.toNat then .error (5,bs.length)else match jb ((bs.drop (p+2)).take n.toNat)with
  |.error e=>.error (16+e.1,((p+2:Nat):Int)+e.2)
  |.ok M=>.ok (M,p+2+n.toNat)
section
variable{P:Program}{w:World}{K:aq}{mg:Str->Option Value}{base:Heap}{CF CR fF CA CB CM:Addr}
theorem fresh{r b:Addr}{H H1 H2:Hp}{o o':HO}(h:H r=some o)(o1:Only r H H1)(o2:Only r H1 H2)(g2:H2 r=some o')(n:H2 b=none):H b=none:=by
 cases e:H b with
 |none=>rfl
 |some x =>
  by_cases z:b=r
  ·rw [z,g2]at n;cases n
  ·rw [o2 _ _ (o1 _ _ e z) z]at n;cases n
def vG(K:aq)(CF CR CA CB CM:Addr):Sp:=fun vs H Q E=>∃ (r a:Addr)(p:Nat)(bs:List Int),vs=[.ref r]/\dX CR H r a p/\SqL K H a (bs.map V.int)/\p<=bs.length/\(∀ x∈bs,0<=x/\x<=255) /\
 match eW bs p with
 |.ok x=>∀ (H':Hp)(mr al bl:Addr)(as ds:List Addr),dX CR H' r a x.2->Only r H H'->H al=none->H bl=none->MolAt CM CA CB H' mr al bl as ds x.1->Wf x.1->Q (.ref mr) H'
 |.error e=>Flt CF E H r e.1 e.2
theorem jD:cX ["reader","size","start","form","fault"] ["reader"] (bo HJ):=⟨rfl,rfl,rfl,by decide +kernel,rfl,by decide +kernel,by decide +kernel⟩
theorem Dt{f fN fT f1:Addr}{fd kL BG uY:FuncData}(F:Fun K "read_member" "read_member" HJ f fd)(T:TR K mg CF CR fF)(xg:XG K CF)(nr:NoAttr K CF "rule")(np:NoAttr K CF "place")
  (cS:∃ u,mg "MOST_SIZE" = some u/\RelV (.int 65535) u)(cW:∃ u,mg "WITHIN_MOLECULE" = some u/\RelV (.int 16) u)
  (GN:am P w K mg base (CXQ false P w) 3 fN kL ["self","size","least","most"] (iW K CF CR))(mN:aS K CR "number" fN)(bN:Binds K kL ["self","size","least","most"] [])
  (GT:am P w K mg base (CXQ false P w) 2 fT BG ["self","size"] (Jo K CF CR))(mT:aS K CR "take" fT)(bT:Binds K BG ["self","size"] [])
  (G1:am P w K mg base (gP P w) 11 f1 uY ["form"] (vH K CF CA CB CM))(m1:mg "read_molecule" = some (.ref f1))(k1:PySem.W.keepIn K (.ref f1)=true)(b1:Binds K uY ["form"] []):
  am P w K mg base (CXQ false P w) 12 f fd ["reader"] (vG K CF CR CA CB CM):=by
 refine kZ F jD (fun vs H Q E h=>?_) (fun bq A outer s H vs Q E hr h=>?_)
 ·obtain⟨r,a,p,bs,rfl,_⟩:=h;rfl
 ·obtain⟨r,a,p,bs,rfl,hR,hS,hp,hb,k⟩:=h;have gO:=(show A.depth+1+1<recursionLimit from by have:=hr.dp;simp only [Around.deeper]at this;omega)
  have ka:Room 3 _:=hr.mono (by decide)
  have eh:Room 2 _:=hr.mono (by decide)
  refine⟨_,aO (dj (i:=1) jD.nd rfl (Or.inl rfl) (ez (pv 0) T.cl mN GN ka bN .nil gv (ao bz (ao bz (ao (ay rfl cS) aE)))))
   (aO (dj (i:=2) jD.nd rfl (Or.inl rfl) (br (pv 0) rfl))
   (aO (dj (i:=3) jD.nd rfl (Or.inl rfl) (ez (pv 0) T.cl mT GT eh bT .nil gv (ao (pv 1) aE)))
   (bh (tN (z:=true) (W:=fun D σ cls d H'=>cls=.ref CF/\∃ dx ru pl st,d=some dx/\σ[2]?=some (some (.int st))/\H' dx=some (.xd (xf ru pl 0))/\∀ H2 fb,Same H' H2->H2 fb=some (.xd (xf (16+ru) (st+pl) 0))->E (.ref CF) (some fb) H2)
     G1 hr rfl m1 k1 b1 rfl rfl rfl (fun pins E1=>ao (pv 3) aE) (fun pins D σ H' s ea T1 C d a hW=>?_))))),?_⟩
  ·obtain⟨e,dx,ru,pl,st,rfl,hσ,hd,hE⟩:=hW;cases e;have hl:σ.length=5:=a.inv.len;refine' wP (i:=4) (E:=E) a T.xi rfl rfl rfl gO rfl T.mgF jD.nd rfl rfl ZaR ?hs0 ?hE0
   case hs0=>exact fun ea=>ao (a0 kJ (ay rfl cW) (Bm K rfl (pv 4) rfl)) (ao (a0 kJ (pv 2) (Bm K rfl (pv 4) rfl)) aE)
   intro ea F7 Lw;have h1:upd H' ea (XE true ea CF dx) dx=some (.xd (xf ru pl 0)):=by rw [aj Lw.symm];exact hd
   have h4:(σ.set 4 (some (V.ref ea)))[4]?=some (some (V.ref ea)):=by rw [AO (by omega)]
   have h2:(σ.set 4 (some (V.ref ea)))[2]?=some (some (V.int st)):=by rw [EY (by decide)];exact hσ
   refine⟨_,h4,true,ea,CF,dx,_,_,rfl,Z2j,h1,xg,nr,Qc _ _ _,_,_,rfl,rfl,_,h2,_,h4,true,ea,CF,dx,_,_,rfl,Z2j,h1,xg,np,Ow _ _ _,_,_,rfl,rfl,Z2j,_,_,_,.inr ⟨rfl,rfl⟩,fun fb JV=>?_⟩;exact hE _ fb ((RD.Same.new F7).trans (RD.Same.new JV)) Z2j
  ·obtain⟨dx,g0⟩:=id hR;unfold eW at k;refine⟨_,rfl,r,dx,_,rfl,g0,cy _ _ (by decide) (by decide),r,a,p,2,bs,_,_,rfl,hR,hS,hp,hb,?_⟩
   cases e1:aX bs p 2 0 65535 with
   |error e=>rw [e1]at k;exact k
   |ok n =>
    rw [e1]at k;dsimp only at k;obtain⟨q1,q2,q3,_⟩:=dB e1;intro H1 jR o1;obtain⟨qD,g1⟩:=id jR;have S1:=o1.sq g0 hS;have hn:((n.toNat:Nat):Int)=n:=lE q2;refine⟨_,rfl,r,CR,qD,_,_,rfl,g1,T.cl,T.np,l5 _ _,?_⟩;refine⟨_,rfl,r,qD,_,rfl,g1,cy _ _ (by decide) (by decide),_,rfl,r,a,p+2,n.toNat,bs,(by rw [hn];rfl),jR,S1,q1,fun i9 H2 l mj o2 nl jj=>?_,fun cg=>?_⟩
    ·rw [ac (by omega)]at k
     have jS:∀ x∈(bs.drop (p+2)).take n.toNat,0<=x/\x<=255:=fun x hx=>hb x (List.mem_of_mem_drop (List.mem_of_mem_take hx));refine⟨_,rfl,l,_,rfl,SqL.of jj,jS,?_⟩;cases e2:jb ((bs.drop (p+2)).take n.toNat)with
     |ok M =>
      rw [e2]at k;dsimp only at k;intro H3 mr al bl as ds s3 na nb mo wf;obtain⟨fb,g2⟩:=id mj;exact k H3 mr al bl as ds ⟨fb,s3 _ _ g2⟩ (fun b o e ne=>s3 _ _ (o2 _ _ (o1 _ _ e ne) ne)) (fresh g0 o1 o2 g2 na) (fresh g0 o1 o2 g2 nb) mo wf
     |error e =>
      rw [e2]at k;dsimp only at k;intro H3 rZ s3 Kg;refine⟨rfl,rZ,e.1,e.2,_,rfl,rfl,Kg,fun H4 se s4 hd4=>?_⟩;exact k H4 se (fun b o e ne=>s4 _ _ (s3 _ _ (o2 _ _ (o1 _ _ e ne) ne))) hd4
    ·rw [ae (by omega)]at k
     exact k.only o1
end
def bZ(bs:List Int):Nat->Nat->Except (Int×Int) (List Fk.Mol×Nat)
 |0,p=>.ok ([],p)
 |k+1,p=>match eW bs p with
  |.error e=>.error e
  |.ok x=>match bZ bs k x.2 with
   |.error e=>.error e
   |.ok y=>.ok (x.1::y.1,y.2)
theorem NY(bs:List Int)(p:Nat):bZ bs 0 p=.ok ([],p):=rfl
theorem A5(bs:List Int)(k p:Nat):bZ bs (k+1) p=match eW bs p with
  |.error e=>.error e
  |.ok x=>match bZ bs k x.2 with
   |.error e=>.error e
   |.ok y=>.ok (x.1::y.1,y.2):=rfl
def sk(bs:List Int):Except (Int×Int) Fk.Equation:=
 match bY bs 0 [70,75,81,49]with
 |.error e=>.error e
 |.ok p=>match aX bs p 1 1 8 with
  |.error e=>.error e
  |.ok l=>match aX bs (p+1) 1 1 8 with
   |.error e=>.error e
   |.ok r=>match bZ bs l.toNat (p+2)with
    |.error e=>.error e
    |.ok x=>match bZ bs r.toNat x.2 with
     |.error e=>.error e
     |.ok y=>if y.2<bs.length then .error (7,y.2)else .ok ⟨x.1,y.1⟩
theorem Fw{bs:List Int}{p:Nat}{x:Fk.Mol×Nat}(h:eW bs p=.ok x):x.2<=bs.length:=by
 unfold eW at h;split at h
 ·cases h
 ·split at h
  ·cases h
  ·split at h
   ·cases h
   ·cases h;show p+2+_<=_;omega
theorem Po{bs:List Int}:∀ {k p:Nat}{y:List Fk.Mol×Nat},p<=bs.length->bZ bs k p=.ok y->y.1.length=k/\y.2<=bs.length
 |0,p,y,hp,h=>by cases h;exact⟨rfl,hp⟩
 |k+1,p,y,hp,h=>by
  rw [A5]at h;cases e:eW bs p with
  |error e'=>rw [e]at h;cases h
  |ok x =>
   rw [e]at h;dsimp only at h;cases e2:bZ bs k x.2 with
   |error e'=>rw [e2]at h;cases h
   |ok z =>
    rw [e2]at h;cases h;obtain⟨a,b⟩:=Po (Fw e) e2;exact⟨by rw [gC,a],b⟩
def zK(a b:Addr):List (Str×V):=[("left",.ref a),("right",.ref b)]
theorem Om(a b:Addr):(zK a b).lookup ("left":Str)=some (.ref a):=by
 unfold zK;rw [bi,show(("left":Str)=="left")=true by decide]
theorem OG(a b:Addr):(zK a b).lookup ("right":Str)=some (.ref b):=by
 unfold zK;rw [bi,show(("right":Str)=="left")=false by decide,bi,show(("right":Str)=="right")=true by decide]
def MolD(CM CA CB D:Addr)(H:Hp)(t:Addr)(M:Fk.Mol):Prop:=∃ (al bl:Addr)(as ds:List Addr),MolAt CM CA CB H t al bl as ds M/\Wf M/\al≠D/\bl≠D
def MolA(CM CA CB:Addr)(H:Hp)(t:Addr)(M:Fk.Mol):Prop:=∃ (al bl:Addr)(as ds:List Addr),MolAt CM CA CB H t al bl as ds M/\Wf M
theorem MolA.same{CM CA CB:Addr}{H H':Hp}{t:Addr}{M:Fk.Mol}(h:MolA CM CA CB H t M)(s:L2.Same H H'):MolA CM CA CB H' t M:=by obtain⟨al,bl,as,ds,a,b⟩:=h;exact⟨al,bl,as,ds,a.same s,b⟩
theorem MolD.toA{CM CA CB D:Addr}{H:Hp}{t:Addr}{M:Fk.Mol}(h:MolD CM CA CB D H t M):MolA CM CA CB H t M:=by obtain⟨al,bl,as,ds,a,b,_⟩:=h;exact⟨al,bl,as,ds,a,b⟩
theorem MolA.toD{CM CA CB D:Addr}{H:Hp}{t:Addr}{M:Fk.Mol}(h:MolA CM CA CB H t M)(n:H D=none):MolD CM CA CB D H t M:=by
 obtain⟨al,bl,as,ds,a,b⟩:=h;exact⟨al,bl,as,ds,a,b,ba a.atl n,ba a.bdl n⟩
section
variable{P:Program}{w:World}{K:aq}{mg:Str->Option Value}{base:Heap}{CF CR fF CA CB CM CQ:Addr}
structure TQ(K:aq)(CQ:Addr):Prop where
 cl:Cls K CQ
 nl:NoAttr K CQ "left"
 nr:NoAttr K CQ "right"
def Eb(CQ:Addr):Sp:=fun vs H Q _=>∃ (r dx a b:Addr),vs=[.ref r,.ref a,.ref b]/\H r=some (.ins CQ dx [])/\∀ H':Hp,H' r=some (.ins CQ dx (zK a b))->Only r H H'->Q .non H'
theorem Mc:cX ["self","left","right"] ["self","left","right"] (bo Ho):=⟨rfl,rfl,rfl,by decide +kernel,rfl,by decide +kernel,by decide +kernel⟩
theorem LI{f:Addr}{fd:FuncData}(F:Fun K "__init__" "Equation.__init__" Ho f fd)(T:TQ K CQ):am P w K mg base CX0 1 f fd ["self","left","right"] (Eb CQ):=by
 refine F.ok Mc (fun vs H Q E h=>?_) (fun bq A outer s H vs Q E hr h=>?_)
 ·obtain⟨r,dx,a,b,rfl,_⟩:=h;rfl
 ·obtain⟨r,dx,a,b,rfl,hp,k⟩:=h;refine⟨_,aO (gu (pv 0) (pv 1) rfl) (bh (gu (pv 0) (pv 2) rfl)),?_⟩;refine⟨_,rfl,_,rfl,r,CQ,dx,[],rfl,hp,T.cl,T.nl,(by show 0<1000;decide),?_⟩
  refine⟨_,rfl,_,rfl,r,CQ,dx,_,rfl,Z2j,T.cl,T.nr,(by show 1<1000;decide),?_⟩
  rw [j4];exact k _ (by rw [Z2j];rfl) (Only.upd _)
end
theorem pH{C C' d d' a:Addr}{p:Int}{fs:List (Str×V)}(h:fs.head?.map (·.1)≠some ("form":Str)):(HO.ins C d fs)≠.ins C' d' (rf a p):=by
 intro z;injection z with _ _ z
 rw [z]at h;exact h rfl
theorem MolAt.onlyR{CM CA CB CR r dx a:Addr}{p:Int}{H H':Hp}{t al bl:Addr}{as ds:List Addr}{M:Fk.Mol}(m:MolAt CM CA CB H t al bl as ds M)(o:Only r H H')(hr:H r=some (.ins CR dx (rf a p))):MolAt CM CA CB H' t al bl as ds M:=by
 have nl:∀ {l:List V}{b:Addr},H b=some (.lst l)->b≠r:=fun e=>az e hr (by intro z;cases z)
 refine⟨?_,o _ _ m.atl (nl m.atl),m.ats.keep fun t x _ h=>?_,o _ _ m.bdl (nl m.bdl),m.bds.keep fun t x _ h=>?_⟩
 ·obtain⟨dm,e⟩:=m.top;exact⟨dm,o _ _ e (az e hr (pH (by show some ("atoms":Str)≠some "form";decide)))⟩
 ·obtain⟨d,e⟩:=h;exact⟨d,o _ _ e (az e hr (pH (by show some ("element":Str)≠some "form";decide)))⟩
 ·obtain⟨d,e⟩:=h;exact⟨d,o _ _ e (az e hr (pH (by show some ("a":Str)≠some "form";decide)))⟩
theorem MolAt.updL{CM CA CB D:Addr}{H:Hp}{t al bl:Addr}{as ds:List Addr}{M:Fk.Mol}{l l':List V}(m:MolAt CM CA CB H t al bl as ds M)(hD:H D=some (.lst l))(na:al≠D)(nb:bl≠D):MolAt CM CA CB (upd H D (.lst l')) t al bl as ds M:=by
 have ni:∀ {C d b:Addr}{fs:List (Str×V)},H b=some (.ins C d fs)->b≠D:=fun e=>az e hD (by intro z;cases z)
 refine⟨?_,by rw [aj na];exact m.atl,m.ats.keep fun t x _ h=>?_,by rw [aj nb];exact m.bdl,m.bds.keep fun t x _ h=>?_⟩
 ·obtain⟨dm,e⟩:=m.top;exact⟨dm,by rw [aj (ni e)];exact e⟩
 ·obtain⟨d,e⟩:=h;exact⟨d,by rw [aj (ni e)];exact e⟩
 ·obtain⟨d,e⟩:=h;exact⟨d,by rw [aj (ni e)];exact e⟩
theorem MolD.onlyR{CM CA CB CR r dx a D:Addr}{p:Int}{H H':Hp}{t:Addr}{M:Fk.Mol}(h:MolD CM CA CB D H t M)(o:Only r H H')(hr:H r=some (.ins CR dx (rf a p))):MolD CM CA CB D H' t M:=
 by obtain⟨al,bl,as,ds,a,b,c⟩:=h;exact⟨al,bl,as,ds,a.onlyR o hr,b,c⟩
theorem MolD.updL{CM CA CB D:Addr}{H:Hp}{t:Addr}{M:Fk.Mol}{l l':List V}(h:MolD CM CA CB D H t M)(hD:H D=some (.lst l)):MolD CM CA CB D (upd H D (.lst l')) t M:=
 by obtain⟨al,bl,as,ds,a,b,c,d⟩:=h;exact⟨al,bl,as,ds,a.updL hD c d,b,c,d⟩
theorem Objs.to{α:Type}{R R':Hp->Addr->α->Prop}{H H':Hp}{ts:List Addr}{l:List α}(h:Objs R H ts l)(k:∀ t x,t∈ts->R H t x->R' H' t x):Objs R' H' ts l:=⟨h.1,fun j t x a b=>k t x (gL a) (h.2 j t x a b)⟩
structure EqAt(CQ CM CA CB:Addr)(H:Hp)(er ll rl:Addr)(ls rs:List Addr)(E:Fk.Equation):Prop where
 top:∃ dx,H er=some (.ins CQ dx (zK ll rl))
 lel:H ll=some (.lst (ls.map V.ref))
 les:Objs (MolA CM CA CB) H ls E.left
 ril:H rl=some (.lst (rs.map V.ref))
 ris:Objs (MolA CM CA CB) H rs E.right
theorem EqAt.same{CQ CM CA CB:Addr}{H H':Hp}{er ll rl:Addr}{ls rs:List Addr}{E:Fk.Equation}(h:EqAt CQ CM CA CB H er ll rl ls rs E)(s:L2.Same H H'):EqAt CQ CM CA CB H' er ll rl ls rs E:=
 ⟨by obtain⟨dx,e⟩:=h.top;exact⟨dx,s _ _ e⟩,s _ _ h.lel,h.les.keep fun _ _ _ a=>a.same s,s _ _ h.ril,h.ris.keep fun _ _ _ a=>a.same s⟩
def CY(j:Nat)(b:List Stmt):Scope:=match b[j]? with
 |some x=>match x with
  |.Assign _ (.ListComp _ _ sc _) _=>sc
  |_=>{ kind:=.function,names:=[],isGenerator:=false,isCoroutine:=false }
 |none=>{ kind:=.function,names:=[],isGenerator:=false,isCoroutine:=false }
section
variable{P:Program}{w:World}{K:aq}{mg:Str->Option Value}{base:Heap}{CF CR fF CA CB CM CQ:Addr}
def D7(K:aq)(CF CA CB CM CQ:Addr):Sp:=fun vs H Q E=>∃ (a:Addr)(bs:List Int),vs=[.ref a]/\SqL K H a (bs.map V.int)/\(∀ x∈bs,0<=x/\x<=255) /\
 match sk bs with
 |.ok E=>∀ (H':Hp)(er ll rl:Addr)(ls rs:List Addr),Same H H'->EqAt CQ CM CA CB H' er ll rl ls rs E->E.left.length<=8->E.right.length<=8->Q (.ref er) H'
 |.error e=>FltS CF E H e.1 e.2
theorem jC:cX ["form","reader","left_count","right_count","left","right","k"] ["form"] (bo vX):=⟨rfl,rfl,rfl,by decide +kernel,rfl,by decide +kernel,by decide +kernel⟩
theorem JB:cY ["form","reader","left_count","right_count","left","right","k"] (bo vX) (CY 4 (eQ vX)) [("k",6)]:=⟨rfl,by decide +kernel,by decide +kernel,by decide +kernel,by decide +kernel⟩
theorem JC:cY ["form","reader","left_count","right_count","left","right","k"] (bo vX) (CY 5 (eQ vX)) [("k",6)]:=⟨rfl,by decide +kernel,by decide +kernel,by decide +kernel,by decide +kernel⟩
theorem LD{f fI fM fN fE fW fJ:Addr}{fd jt uZ kL Qx BI BD:FuncData}(F:Fun K "read_equation" "read_equation" vX f fd)(T:TR K mg CF CR fF)(Co:mg "range" = none)
  (mark:∃ a,mg "MARK_equations" = some (.ref a)/\∀ H,SqT K H a (([70,75,81,49]:List Int).map V.int))(cS:∃ u,mg "MOST_ON_A_SIDE" = some u/\RelV (.int 8) u)
  (M:Mk K CR fI)(GI:am P w K mg base CX0 1 fI jt ["self","form"] (yF CR))(bI:Binds K jt ["self","form"] [])
  (GM:am P w K mg base (CXQ false P w) 2 fM uZ ["self","mark"] (Jv K CF CR))(mM:aS K CR "expect_mark" fM)(bM:Binds K uZ ["self","mark"] [])
  (GN:am P w K mg base (CXQ false P w) 3 fN kL ["self","size","least","most"] (iW K CF CR))(mN:aS K CR "number" fN)(bN:Binds K kL ["self","size","least","most"] [])
  (GW:am P w K mg base (CXQ false P w) 2 fW BI ["self"] (p0 K CF CR))(mW:aS K CR "finish" fW)(bW:Binds K BI ["self"] [])
  (GE:am P w K mg base (CXQ false P w) 12 fE Qx ["reader"] (vG K CF CR CA CB CM))(mE:mg "read_member" = some (.ref fE))(kE:PySem.W.keepIn K (.ref fE)=true)(bE:Binds K Qx ["reader"] [])
  (J:Mk K CQ fJ)(hJ:mg "Equation" = some (.ref CQ))(GJ:am P w K mg base CX0 1 fJ BD ["self","left","right"] (Eb CQ))(bJ:Binds K BD ["self","left","right"] []):
  am P w K mg base (CXQ false P w) 13 f fd ["form"] (D7 K CF CA CB CM CQ):=by
 refine kZ F jC (fun vs H Q E h=>?_) (fun bq A outer s H vs Q E hr h=>?_)
 ·obtain⟨a,bs,rfl,_⟩:=h;rfl
 ·obtain⟨a,bs,rfl,hS,hb,k⟩:=h;obtain⟨aM,eM,hM⟩:=mark;have eh:Room 2 _:=hr.mono (by decide)
  have ka:Room 3 _:=hr.mono (by decide)
  refine⟨_,aO (dj (i:=1) jC.nd rfl (Or.inr rfl) (rB M GI eh rfl T.mgR bI .nil aC (ao (pv 0) aE)))
   (aO (gT (ez (pv 1) T.cl mM GM eh bM .nil gv (ao (Bb (v:=.ref aM) rfl eM rfl) aE)))
   (aO (dj (i:=2) jC.nd rfl (Or.inl rfl) (ez (pv 1) T.cl mN GN ka bN .nil gv (ao bz (ao bz (ao (ay rfl cS) aE)))))
   (aO (dj (i:=3) jC.nd rfl (Or.inl rfl) (ez (pv 1) T.cl mN GN ka bN .nil gv (ao bz (ao bz (ao (ay rfl cS) aE)))))
   (aO (IJ (E:=E) (i:=4) rfl rfl rfl (fun _ _ h=>h) rfl jC.nd rfl rfl (A9 rfl rfl rfl rfl) (AZ rfl Co (ao (pv 2) aE)) JB (fun s H C cl fp xe=>eU (i:=6) jC.nd rfl (Or.inl rfl)) (fun s H C cl fp xe=>mQ)
      (fun s H C cl fp xe hx=>fQ GE hr rfl mE kE bE .nil hx (ao (pv 1) aE)))
   (aO (IJ (E:=E) (i:=5) rfl rfl rfl (fun _ _ h=>h) rfl jC.nd rfl rfl (A9 rfl rfl rfl rfl) (AZ rfl Co (ao (pv 3) aE)) JC (fun s H C cl fp xe=>eU (i:=6) jC.nd rfl (Or.inl rfl)) (fun s H C cl fp xe=>mQ)
      (fun s H C cl fp xe hx=>fQ GE hr rfl mE kE bE .nil hx (ao (pv 1) aE)))
   (aO (gT (Iy (pv 1) T.cl mW GW eh bW .nil gv))
   (bh (dL (rB J GJ eh rfl hJ bJ .nil aC (ao (pv 4) (ao (pv 5) aE))))))))))),?_⟩
  unfold sk at k;refine⟨_,rfl,fun r dx nr nd ndr=>⟨r,dx,a,rfl,Z2j,fun H1 jR o1=>⟨rfl,?_⟩⟩⟩;have s1:L2.Same H H1:=fun b o e=>o1 b o (by rw [aj (ba e nr),aj (ba e nd)];exact e) (ba e nr)
  have S1:=s1.seq hS;obtain⟨qD,g1⟩:=id jR;refine⟨_,rfl,r,qD,_,rfl,g1,cy _ _ (by decide) (by decide),r,a,aM,0,bs,_,rfl,jR,S1,hM _,fk _,?_⟩
  cases e1:bY bs 0 [70,75,81,49]with
  |error e=>rw [e1]at k;exact FltS.flt k s1 nr
  |ok p =>
   rw [e1]at k;dsimp only at k;have hp:=A2 (fk _) e1;intro H2 mj o2;have s2:=Same.only s1 o2 nr;have S2:=s2.seq hS;obtain⟨fb,g2⟩:=id mj;refine⟨_,rfl,r,fb,_,rfl,g2,cy _ _ (by decide) (by decide),r,a,p,1,bs,_,_,rfl,mj,S2,hp,hb,?_⟩
   cases e2:aX bs p 1 1 8 with
   |error e=>rw [e2]at k;exact FltS.flt k s2 nr
   |ok n =>
    rw [e2]at k;dsimp only at k;obtain⟨q1,q2,q3,_⟩:=dB e2;intro H3 og o3;have s3:=Same.only s2 o3 nr;have S3:=s3.seq hS;obtain⟨rZ,g3⟩:=id og;refine⟨_,rfl,r,rZ,_,rfl,g3,cy _ _ (by decide) (by decide),r,a,p+1,1,bs,_,_,rfl,og,S3,by omega,hb,?_⟩
    cases e3:aX bs (p+1) 1 1 8 with
    |error e=>rw [e3]at k;exact FltS.flt k s3 nr
    |ok m =>
     rw [e3]at k;dsimp only at k;obtain⟨m1,m2,m3,_⟩:=dB e3;intro H4 sC o4;have s4:=Same.only s3 o4 nr;obtain⟨se,g4⟩:=id sC;refine⟨_,rfl,n,rfl,by omega,by omega,fun al sE=>Fp (lo:=0) (n:=n.toNat) (fun i H'=>∃ (ts:List Addr)(l1:List Fk.Mol)(q:Nat),L2.Same H H'/\dX CR H' r a q/\q<=bs.length/\H' al=some (.lst (ts.map V.ref))/\l1.length=i/\Objs (MolD CM CA CB al) H' ts l1 /\
       bZ bs n.toNat (p+2)=(match bZ bs (n.toNat-i) q with |.error e=>.error e |.ok y=>.ok (l1++y.1,y.2)))
      ⟨[],[],p+2,s4.trans (RD.Same.new sE),⟨se,by rw [aj (ba g4 sE)];exact g4⟩,by omega,Z2j,rfl,Objs.nil,?_⟩ ?_ ?_⟩
     ·rw [zj];cases bZ bs n.toNat (p+2)<;>rfl
     ·rintro i H' hi ⟨ts,l1,q,s5,kO,hq,hal5,hl1,hO,hk⟩;obtain⟨sf,g5⟩:=id kO;have Ac:H al=none:=s4.free sE;have hn:n.toNat-i=(n.toNat-(i+1))+1:=by omega
      rw [hn,A5]at hk;refine⟨rfl,_,rfl,r,a,q,bs,rfl,kO,s5.seq hS,hq,hb,?_⟩;cases e4:eW bs q with
      |error e =>
       rw [e4]at hk;dsimp only at hk;rw [hk]at k;exact FltS.flt k s5 nr
      |ok x =>
       rw [e4]at hk;dsimp only at hk;intro H6 t ta tb as ds sD o6 na nb mo wf;have s6:=Same.only s5 o6 nr;obtain⟨qE,g6⟩:=id sD;have tQ:r≠al:=az g5 hal5 (by intro z;cases z)
       have gX:H6 al=some (.lst (ts.map V.ref)):=o6 _ _ hal5 tQ.symm;have n1:ta≠al:=fun z=>by rw [z,hal5]at na;cases na
       have n2:tb≠al:=fun z=>by rw [z,hal5]at nb;cases nb
       refine⟨_,gX,by rw [aW,hO.1,hl1,ak];omega,ts++[t],l1++[x.1],x.2,fun b o e=>?_,⟨qE,by rw [aj tQ];exact g6⟩,Fw e4,by rw [Z2j,fO];rfl,by simp [hl1],Objs.snoc (hO.keep fun t' x' _ ha=>(ha.onlyR o6 g5).updL gX) ⟨ta,tb,as,ds,mo.updL gX n1 n2,wf,n1,n2⟩,?_⟩
       ·rw [aj (ba e Ac)];exact s6 _ _ e
       ·rw [hk];cases bZ bs (n.toNat-(i+1)) x.2 with
        |error e=>rfl
        |ok y=>simp
     ·rintro H5 ⟨ls,l1,q,s5,kO,hq,hal5,hl1,hO,hk⟩;rw [uL,NY]at hk;dsimp only at hk;rw [hk]at k;simp only [jZ]at k;obtain⟨sf,g5⟩:=id kO;have Ac:H al=none:=s4.free sE;refine⟨_,rfl,m,rfl,by omega,by omega,fun rl xl=>Fp (lo:=0) (n:=m.toNat) (fun i H'=>∃ (ts:List Addr)(l2:List Fk.Mol)(q':Nat),L2.Same H H'/\dX CR H' r a q'/\q'<=bs.length/\H' rl=some (.lst (ts.map V.ref))/\l2.length=i/\Objs (MolD CM CA CB rl) H' ts l2 /\
       H' al=some (.lst (ls.map V.ref))/\Objs (MolD CM CA CB rl) H' ls l1/\bZ bs m.toNat q=(match bZ bs (m.toNat-i) q' with |.error e=>.error e |.ok y=>.ok (l2++y.1,y.2)))
       ⟨[],[],q,s5.trans (RD.Same.new xl),⟨sf,by rw [aj (ba g5 xl)];exact g5⟩,hq,Z2j,rfl,Objs.nil,by rw [aj (ba hal5 xl)];exact hal5,hO.to fun t x _ ha=>?_,?_⟩ ?_ ?_⟩
      ·obtain⟨u1,u2,u3,u4,u5,u6,u7⟩:=ha.toA.toD (D:=rl) xl;exact⟨u1,u2,u3,u4,u5.same (RD.Same.new xl),u6,u7⟩
      ·rw [zj];cases bZ bs m.toNat q<;>rfl
      ·rintro i H' hi ⟨ts,l2,q',s6,sD,hq6,hrl6,jj,hO2,gX,hO6,jw⟩;obtain⟨qE,g6⟩:=id sD;have nrl:H rl=none:=s5.free xl;have arl:al≠rl:=ba hal5 xl;have hn:m.toNat-i=(m.toNat-(i+1))+1:=by omega
       rw [hn,A5]at jw;refine⟨rfl,_,rfl,r,a,q',bs,rfl,sD,s6.seq hS,hq6,hb,?_⟩;cases e4:eW bs q' with
       |error e =>
        rw [e4]at jw;dsimp only at jw;rw [jw]at k;exact FltS.flt k s6 nr
       |ok x =>
        rw [e4]at jw;dsimp only at jw;intro H7 t ta tb as ds wN o7 na nb mo wf;have s7:=Same.only s6 o7 nr;obtain⟨FQ,g7⟩:=id wN;have Rx:r≠rl:=az g6 hrl6 (by intro z;cases z)
        have tQ:r≠al:=az g6 gX (by intro z;cases z)
        have sQ:H7 rl=some (.lst (ts.map V.ref)):=o7 _ _ hrl6 Rx.symm;have n1:ta≠rl:=fun z=>by rw [z,hrl6]at na;cases na
        have n2:tb≠rl:=fun z=>by rw [z,hrl6]at nb;cases nb
        refine⟨_,sQ,by rw [aW,hO2.1,jj,ak];omega,ts++[t],l2++[x.1],x.2,fun b o e=>?_,⟨FQ,by rw [aj Rx];exact g7⟩,Fw e4,by rw [Z2j,fO];rfl,by simp [jj],
         Objs.snoc (hO2.keep fun t' x' _ ha=>(ha.onlyR o7 g6).updL sQ) ⟨ta,tb,as,ds,mo.updL sQ n1 n2,wf,n1,n2⟩,by rw [aj arl];exact o7 _ _ gX tQ.symm,hO6.keep fun t' x' _ ha=>(ha.onlyR o7 g6).updL sQ,?_⟩
        ·rw [aj (ba e nrl)];exact s7 _ _ e
        ·rw [jw];cases bZ bs (m.toNat-(i+1)) x.2 with
         |error e=>rfl
         |ok y=>simp
      ·rintro H6 ⟨rs,l2,q',s6,sD,hq6,hrl6,jj,hO2,gX,hO6,jw⟩;rw [uL,NY]at jw;dsimp only at jw;rw [jw]at k;simp only [jZ]at k;obtain⟨qE,g6⟩:=id sD;refine⟨_,rfl,r,qE,_,rfl,g6,cy _ _ (by decide) (by decide),r,a,q',bs,rfl,sD,s6.seq hS,hq6,fun hqe H7 s7=>?_,fun cg=>?_⟩
       ·rw [ac (by omega)]at k
        refine⟨_,rfl,_,rfl,fun u ud nu F9 und=>⟨u,ud,al,rl,rfl,Z2j,fun H8 hu8 o8=>⟨rfl,?_⟩⟩⟩;have s8:L2.Same H7 H8:=fun b o e=>o8 b o (by rw [aj (ba e nu),aj (ba e F9)];exact e) (ba e nu)
        have DM:=s7.trans s8;exact k H8 u al rl ls rs (s6.trans DM) ⟨⟨ud,hu8⟩,DM _ _ gX,hO6.to fun _ _ _ ha=>ha.toA.same DM,DM _ _ hrl6,hO2.to fun _ _ _ ha=>ha.toA.same DM⟩ (by show l1.length<=8;omega) (by show l2.length<=8;omega)
       ·rw [ae cg]at k;exact FltS.flt k s6 nr
end
end BK
end
section
namespace BK
open PySem PySem.Spec PyProof.Rows L2 EX RD LM FM
def ip(k:Fk.Key):Int×Int:=((k.1:Int),(k.2:Int))
theorem xE{a b:Fk.Key}(h:ip a=ip b):a=b:=by
 unfold ip at h;injection h with h1 h2
 exact Prod.ext (by omega) (by omega)
theorem jy{a b:Fk.Key}:pk (ip a)=pk (ip b)↔a=b:=⟨fun h=>xE (yq h),fun h=>by rw [h]⟩
def enc(cs:List (Fk.Key×Nat)):List (List Key×V):=cs.map fun x=>(pk (ip x.1),.int (x.2:Int))
theorem IZ(cs:List (Fk.Key×Nat)):(enc cs).length=cs.length:=aW ..
theorem sj(cs:List (Fk.Key×Nat))(k:Fk.Key):aL (enc cs) (pk (ip k))=(cs.find? fun x=>decide (x.1=k)).map fun x=>V.int (x.2:Int):=by
 unfold aL enc;rw [List.find?_map];have:((fun kv:List Key×V=>decide (kv.1=pk (ip k))) ∘ fun x:Fk.Key×Nat=>(pk (ip x.1),V.int (x.2:Int)))=fun x=>decide (x.1=k):=by
  funext x
  show decide (pk (ip x.1)=pk (ip k))=_;by_cases h:x.1=k
  ·rw [ai h,ai (jy.mpr h)]
  ·rw [aw h,aw (fun z=>h (jy.mp z))]
 rw [this,Option.map_map];rfl
theorem nQ(cs:List (Fk.Key×Nat))(k:Fk.Key):(aL (enc cs) (pk (ip k))).getD (.int 0)=.int (d8 cs k:Int):=by
 rw [sj];unfold d8;cases cs.find? fun x=>decide (x.1=k)<;>rfl
theorem si(cs:List (Fk.Key×Nat))(k:Fk.Key)(n:Nat):aG (enc cs) (pk (ip k)) (.int (n:Int))=enc (jz cs k n):=by
 unfold aG jz enc;rw [List.any_map];have:((fun kv:List Key×V=>decide (kv.1=pk (ip k))) ∘ fun x:Fk.Key×Nat=>(pk (ip x.1),V.int (x.2:Int)))=fun x=>decide (x.1=k):=by
  funext x
  show decide (pk (ip x.1)=pk (ip k))=_;by_cases h:x.1=k
  ·rw [ai h,ai (jy.mpr h)]
  ·rw [aw h,aw (fun z=>h (jy.mp z))]
 rw [this];split
 ·rw [jM,jM];refine qZ fun x _=>?_;show(if pk (ip x.1)=pk (ip k)then(pk (ip x.1),V.int (n:Int))else(pk (ip x.1),V.int (x.2:Int)))=_;by_cases h:x.1=k
  ·rw [ae (jy.mpr h)];show _=(pk (ip (if x.1=k then(x.1,n)else x).1),V.int (((if x.1=k then(x.1,n)else x).2:Nat):Int));rw [ae h]
  ·rw [ac (fun z=>h (jy.mp z))];show _=(pk (ip (if x.1=k then(x.1,n)else x).1),V.int (((if x.1=k then(x.1,n)else x).2:Nat):Int));rw [ac h]
 ·rw [fO];rfl
section
variable{P:Program}{w:World}{K:aq}{mg:Str->Option Value}{base:Heap}{CF CR fF CA CB CM:Addr}
def vB(K:aq)(P:Program)(w:World):Sp:=fun vs H Q _=>∃ (a b:Addr)(cs:List (Fk.Key×Nat))(k:Fk.Key)(c:Nat),vs=[.ref a,.ref b,.int (c:Int)]/\DXe K P w H a (enc cs)/\SqT K H b [.int (k.1:Int),.int (k.2:Int)]/\cs.length<1000 /\
 ∀ H',Only a H H'->DXe K P w H' a (enc (eV cs k c))->Q .non H'
theorem DQ:cX ["counts","unit","count"] ["counts","unit","count"] (bo Hy):=⟨rfl,rfl,rfl,by decide +kernel,rfl,by decide +kernel,by decide +kernel⟩
theorem Dl{f:Addr}{fd:FuncData}(F:Fun K "add_units" "add_units" Hy f fd):am P w K mg base CX0 1 f fd ["counts","unit","count"] (vB K P w):=by
 refine F.ok DQ (fun vs H Q E h=>?_) (fun bq A outer s H vs Q E hr h=>?_)
 ·obtain⟨a,b,cs,k,c,rfl,_⟩:=h;rfl
 ·obtain⟨a,b,cs,k,c,rfl,D,hb,hl,kk⟩:=h;have hu:=eF hr;refine⟨_,bh (b8 (gr lf (pv 2) bz (eT _)) (bh (P2 hu (pv 0) (pv 1) (a0 kJ (oX hu (pv 0) (pv 1) bz ⟨rfl,rfl,rfl,rfl⟩) (pv 2)) rfl)) io),?_⟩;unfold eV at kk;refine⟨_,rfl,_,_,rfl,rfl,_,rfl,bu (fun h1=>?_) (fun h1=>?_)⟩
  ·have hc:0<c:=by have:=ap h1;omega
   rw [ae hc]at kk;refine⟨_,rfl,a,enc cs,rfl,D,_,rfl,b,pk (ip k),rfl,D,hb,_,rfl,(d8 cs k:Int),(c:Int),nQ cs k,rfl,_,rfl,_,rfl,a,b,enc cs,pk (ip k),rfl,rfl,D,hb,by rw [IZ,ak];omega,fun H4 k4 d4=>?_⟩
   refine kk H4 k4 ?_;rw [<-si];have:((d8 cs k+c:Nat):Int)=(d8 cs k:Int)+(c:Int):=by omega
   rw [this];exact d4
  ·have hc:¬ 0<c:=fun z=>h1 (ai (by omega))
   rw [ac hc]at kk;exact kk H (Only.refl _ _) D
def PU(K:aq)(P:Program)(w:World)(CA CB CM:Addr):Sp:=fun vs H Q _=>∃ (mr al bl:Addr)(as ds:List Addr)(M:Fk.Mol),vs=[.ref mr]/\MolAt CM CA CB H mr al bl as ds M/\Wf M/\∀ H' a,Same H H'->H a=none->DXe K P w H' a (enc (lJ M.atoms []))->Q (.ref a) H'
theorem jg:cX ["molecule","counts","atom"] ["molecule"] (bo HL):=⟨rfl,rfl,rfl,by decide +kernel,rfl,by decide +kernel,by decide +kernel⟩
theorem tJ{f fA aH:Addr}{fd gx:FuncData}(F:Fun K "count_units" "count_units" HL f fd)(gK:uG K CM)(TA:uD K CA)(eH:mg "HYDROGEN" = some (.ref aH))(hH:∀ H,SqT K H aH (([1,0]:List Int).map V.int))
  (GA:am P w K mg base CX0 1 fA gx ["counts","unit","count"] (vB K P w))(mA:mg "add_units" = some (.ref fA))(kA:PySem.W.keepIn K (.ref fA)=true)(bA:Binds K gx ["counts","unit","count"] []):
  am P w K mg base CX0 2 f fd ["molecule"] (PU K P w CA CB CM):=by
 refine F.ok jg (fun vs H Q E h=>?_) (fun bq A outer s H vs Q E hr h=>?_)
 ·obtain⟨mr,al,bl,as,ds,M,rfl,_⟩:=h;rfl
 ·obtain⟨mr,al,bl,as,ds,M,rfl,mo,wf,k⟩:=h;refine⟨_,aO (dj (i:=1) jg.nd rfl (Or.inl rfl) Ps)
   (aO (lI PassesOwn.never rfl (qy (br (pv 0) rfl)) (eU (i:=2) jg.nd rfl (Or.inl rfl))
     (aO (gT (fQ GA hr rfl mA kA bA .nil aC (ao (pv 1) (ao (qB (ao (br (pv 2) rfl) (ao (br (pv 2) rfl) aE))) (ao bz aE)))))
     (bh (gT (fQ GA hr rfl mA kA bA .nil aC (ao (pv 1) (ao (Bb (v:=.ref aH) rfl eH rfl) (ao (br (pv 2) rfl) aE))))))))
   (bh (dL (pv 1)))),?_⟩
  intro a ha hs;have sa:L2.Same H (upd H a (gQ P w a [])):=RD.Same.new ha;obtain⟨dm,hm⟩:=mo.top;have wn:=wf.n;refine⟨_,rfl,mr,CM,dm,_,_,rfl,sa _ _ hm,gK.cl,gK.na,vY _ _,al,rfl,⟨_,SqL.of (sa _ _ mo.atl)⟩,Fi (K:=K) (a:=al) (xs:=as.map V.ref) (fun i σ H'=>∃ v:Option V,σ=[some (.ref mr),some (.ref a),v]/\L2.Same H H'/\DXe K P w H' a (enc (lJ (M.atoms.take i) [])))
   ⟨none,rfl,sa,DX.empty hs⟩ (fun i σ H' _ ⟨_,_,s',_⟩=>SqL.of (s' _ _ mo.atl)) ?_ ?_⟩
  ·rintro i y σ H1 hi ⟨v,rfl,s1,D1⟩;have vi:=mo.same s1;obtain⟨t,x,rfl,ht,hx,dt,gt⟩:=vi.ats.at hi;have li:i<M.atoms.length:=(eg.mp hx).1;have C8:=HZ (M.atoms.take i) [];rw [lX]at C8;simp only [lB]at C8;refine⟨_,rfl,_,rfl,t,CA,dt,_,_,rfl,gt,TA.cl,TA.ne,Z9P _,_,rfl,t,CA,dt,_,_,rfl,gt,TA.cl,TA.ni,Z9T _,(by show 2<=sizeLine;decide),fun U hU=>?_⟩
   have sU:L2.Same H1 (upd H1 U (.tup [.int (x.element:Int),.int (x.isotope:Int)])):=RD.Same.new hU;refine⟨a,U,lJ (M.atoms.take i) [],(x.element,x.isotope),1,rfl,D1.same sU,SqT.of Z2j,by omega,fun H2 o2 D2=>?_⟩
   have s2:L2.Same H H2:=fun b o e=>o2 _ _ (sU _ _ (s1 _ _ e)) (fun z=>by rw [z,ha]at e;cases e)
   have aU:a≠t:=fun z=>by
    obtain⟨xs,dd⟩:=D1;have:=dd.at_;rw [z,gt]at this;cases this
   have zL:H2 t=some (.ins CA dt (lK x)):=o2 _ _ (sU _ _ gt) (Ne.symm aU);have l2:=Jh (lJ (M.atoms.take i) []) (x.element,x.isotope) 1;refine⟨_,rfl,_,rfl,t,CA,dt,_,_,rfl,zL,TA.cl,TA.nh,Fd _,a,aH,_,(1,0),x.hydrogens,rfl,D2,hH _,by omega,fun H3 o3 D3=>?_⟩
   refine⟨_,rfl,fun b o e=>o3 _ _ (s2 _ _ e) (fun z=>by rw [z,ha]at e;cases e),?_⟩
   have:lJ (M.atoms.take (i+1)) []=eV (eV (lJ (M.atoms.take i) []) (x.element,x.isotope) 1) (1,0) x.hydrogens:=by
    unfold lJ;rw [mK,hx,List.foldl_append];rfl
   rw [this];exact D3
  ·rintro σ H1 ⟨v,rfl,s1,D1⟩;rw [aW,mo.ats.1,qx]at D1;exact⟨_,rfl,k H1 a s1 ha D1⟩
end
theorem Pz:∀ a b:List Int,LA.dot a b=(List.zipWith (fun x y=>x*y) a b).sum
 |[],[]=>rfl
 |[],_::_=>rfl
 |_::_,[]=>rfl
 |x::a,y::b=>by rw [List.zipWith_cons_cons,List.sum_cons,<-Pz a b];rfl
theorem Zbz{f:Int->Int->Int}{a b:List Int}{i:Nat}{x y:Int}(hx:a[i]?=some x)(hy:b[i]?=some y):(List.zipWith f a b).take (i+1)=(List.zipWith f a b).take i++[f x y]:=by
 rw [mK,List.getElem?_zipWith,hx,hy];rfl
noncomputable def xK(b:List Stmt):Scope:=match b.getLast? with
 |some (.Return (some (.Call _ [.ListComp _ _ sc _] _ _)) _)=>sc
 |_=>{ kind:=.function,names:=[],isGenerator:=false,isCoroutine:=false }
theorem ou{xs:List Int}{i:Nat}{v:V}(h:(xs.map V.int)[i]?=some v):∃ x,xs[i]?=some x/\v=.int x:=by
 rw [dQ]at h;cases e:xs[i]? with
 |none=>rw [e]at h;cases h
 |some x=>rw [e]at h;exact⟨x,rfl,(Option.some.inj h).symm⟩
section
variable{P:Program}{w:World}{K:aq}{mg:Str->Option Value}{base:Heap}{CF CR fF CA CB CM CQ CW CN CT:Addr}
def qf(K:aq):Sp:=fun vs H Q _=>∃ (a b:Addr)(xs ys:List Int),vs=[.ref a,.ref b]/\SqL K H a (xs.map V.int)/\SqL K H b (ys.map V.int)/\xs.length<=1000/\(∀ (i:Nat)(x y:Int),xs[i]?=some x->ys[i]?=some y->IntMulOk x y)/\∀ H',L2.Same H H'->Q (.int (LA.dot xs ys)) H'
theorem je:cX ["row","other","a","b"] ["row","other"] (bo A6):=⟨rfl,rfl,rfl,by decide +kernel,rfl,by decide +kernel,by decide +kernel⟩
theorem rN:cY ["row","other","a","b"] (bo A6) (xK (eQ A6)) [("a",2),("b",3)]:=⟨rfl,by decide +kernel,by decide +kernel,by decide +kernel,by decide +kernel⟩
theorem x9{f:Addr}{fd:FuncData}(F:Fun K "product" "product" A6 f fd)(hs:mg "sum" = none)(hz:mg "zip" = none):am P w K mg base CX0 1 f fd ["row","other"] (qf K):=by
 refine F.ok je (fun vs H Q E h=>?_) (fun bq A outer s H vs Q E hr h=>?_)
 ·obtain⟨a,b,xs,ys,rfl,_⟩:=h;rfl
 ·obtain⟨a,b,xs,ys,rfl,ha,hb,hl,hm,q⟩:=h;refine⟨_,bh (dL (l7 (nH rfl) (by rfl) hs boot_sum (ao (iS rfl je.nd (yp rfl hz (ao (pv 0) (ao (pv 1) aE))) rN
   (fun s H C cl fp=>P6 (n:=2) K rfl rfl (kz (eU (i:=2) je.nd rfl (Or.inl rfl)) (kz (eU (i:=3) je.nd rfl (Or.inl rfl)) we))) (fun s H C cl fp=>mQ)
   (fun s H C cl fp=>a0 P9 (pv 2) (pv 3))) aE))),?_⟩
  refine⟨_,rfl,_,rfl,a,b,_,_,rfl,ha,hb,fun D hD=>xM (K:=K) (a:=a) (b:=b) (xs:=xs.map V.int) (ys:=ys.map V.int) (n:=(List.zipWith (fun x y:Int=>x*y) xs ys).length) (fun i H2=>L2.Same H H2/\H2 D=some (.lst (((List.zipWith (fun x y:Int=>x*y) xs ys).take i).map V.int)))
   ⟨RD.Same.new hD,Z2j⟩ (by rw [aW,aW,List.length_zipWith]) (fun i H2 h=>⟨h.1.seq ha,h.1.seq hb⟩) ?_ ?_⟩
  ·rintro i x y H2 U hx hy ⟨s2,j8⟩ hU;obtain⟨x,ex,rfl⟩:=ou hx;obtain⟨y,ey,rfl⟩:=ou hy;have sU:L2.Same H2 (upd H2 U (.tup [.int x,.int y])):=RD.Same.new hU;refine⟨U,_,rfl,SqT.of Z2j,rfl,_,_,rfl,_,_,rfl,rfl,rfl,_,rfl,_,rfl,x,y,rfl,rfl,hm i x y ex ey,_,sU _ _ j8,?_,fun b' o e=>?_,?_⟩
   ·rw [aW,lX,List.length_zipWith,ak];omega
   ·rw [aj (ba e hD)];exact sU _ _ (s2 _ _ e)
   ·rw [Z2j,Zbz ex ey,fO];rfl
  ·rintro H2 ⟨s2,j8⟩;rw [qx]at j8;refine⟨D,_,rfl,SqL.of j8,?_⟩;rw [<-Pz];exact q H2 s2
def sgn(E:Fk.Equation):List (Fk.Mol×Int):=(E.left.map fun M=>(M,1))++E.right.map fun M=>(M,-1)
def SgA(CM CA CB:Addr)(H:Hp)(t:Addr)(x:Fk.Mol×Int):Prop:=∃ m,H t=some (.tup [.ref m,.int x.2])/\MolA CM CA CB H m x.1
theorem oP{α:Type}{R:Hp->Addr->α->Prop}{H:Hp}{ts us:List Addr}{l m:List α}(h1:Objs R H ts l)(h2:Objs R H us m):Objs R H (ts++us) (l++m):=by
 refine⟨by rw [gD,gD,h1.1,h2.1],fun j t x a b=>?_⟩
 by_cases hj:j<ts.length
 ·rw [mJ hj]at a;rw [mJ (by rw [<-h1.1];exact hj)]at b
  exact h1.2 j t x a b
 ·rw [uI (by omega)]at a
  rw [uI (by rw [<-h1.1];omega),<-h1.1]at b
  exact h2.2 _ t x a b
noncomputable def lcL(b:List Stmt):Scope:=match b.getLast? with
 |some (.Return (some (.BinOp (.ListComp _ _ sc _) _ _ _)) _)=>sc
 |_=>{ kind:=.function,names:=[],isGenerator:=false,isCoroutine:=false }
noncomputable def lcR(b:List Stmt):Scope:=match b.getLast? with
 |some (.Return (some (.BinOp _ _ (.ListComp _ _ sc _) _)) _)=>sc
 |_=>{ kind:=.function,names:=[],isGenerator:=false,isCoroutine:=false }
def qg(CA CB CM CQ:Addr):Sp:=fun vs H Q _=>∃ (er ll rl:Addr)(ls rs:List Addr)(q:Fk.Equation),vs=[.ref er]/\EqAt CQ CM CA CB H er ll rl ls rs q/\q.left.length<=8/\q.right.length<=8 /\
 ∀ H' l ts,L2.Same H H'->H l=none->H' l=some (.lst (ts.map V.ref))->Objs (SgA CM CA CB) H' ts (sgn q)->Q (.ref l) H'
theorem jF:cX ["equation","molecule"] ["equation"] (bo vW):=⟨rfl,rfl,rfl,by decide +kernel,rfl,by decide +kernel,by decide +kernel⟩
theorem wz:cY ["equation","molecule"] (bo vW) (lcL (eQ vW)) [("molecule",1)]:=⟨rfl,by decide +kernel,by decide +kernel,by decide +kernel,by decide +kernel⟩
theorem wA:cY ["equation","molecule"] (bo vW) (lcR (eQ vW)) [("molecule",1)]:=⟨rfl,by decide +kernel,by decide +kernel,by decide +kernel,by decide +kernel⟩
def qU(H:Hp)(t:Addr)(x:List V):Prop:=H t=some (.tup x)
theorem Oq{H1 H3:Hp}{D u:Addr}{us:List Addr}{l:List (List V)}{x:List V}(nD:H1 D=none)(s:L2.Same H1 H3)(hD:H3 D=some (.lst (us.map V.ref)))(hT:Objs qU H3 us l)(hu:H3 u=some (.tup x))(hl:us.length<=1000):
  ∃ acc,H3 D=some (.lst acc)/\acc.length<sizeLine/\(L2.Same H1 (upd H3 D (.lst (acc++[.ref u])))/\∃ Ak,upd H3 D (.lst (acc++[.ref u])) D=some (.lst (Ak.map V.ref))/\Objs qU (upd H3 D (.lst (acc++[.ref u]))) Ak (l++[x])):=by
 refine⟨_,hD,by rw [aW,ak];omega,fun b o e=>?_,us++[u],by rw [Z2j,fO];rfl,Objs.snoc (hT.keep fun t y _ e=>?_) ?_⟩
 ·rw [aj (ba e nD)];exact s _ _ e
 ·show upd H3 D _ t=_;rw [aj (az e hD (by intro z;cases z))];exact e
 ·show upd H3 D _ u=_;rw [aj (az hu hD (by intro z;cases z))];exact hu
theorem Dy{f:Addr}{fd:FuncData}(F:Fun K "signed_molecules" "signed_molecules" vW f fd)(T:TQ K CQ):am P w K mg base CX0 1 f fd ["equation"] (qg CA CB CM CQ):=by
 refine F.ok jF (fun vs H Q E h=>?_) (fun bq A outer s H vs Q E hr h=>?_)
 ·obtain⟨er,ll,rl,ls,rs,q,rfl,_⟩:=h;rfl
 ·obtain⟨er,ll,rl,ls,rs,q,rfl,hq,h8,h9,k⟩:=h;obtain⟨de,he⟩:=hq.top;refine⟨_,bh (dL (a0 oU (iS rfl jF.nd (qy (br (pv 0) rfl)) wz (fun s H C cl fp=>eU (i:=1) jF.nd rfl (Or.inl rfl)) (fun s H C cl fp=>mQ)
    (fun s H C cl fp=>qB (ao (pv 1) (ao bz aE))))
   (iS rfl jF.nd (qy (br (pv 0) rfl)) wA (fun s H C cl fp=>eU (i:=1) jF.nd rfl (Or.inl rfl)) (fun s H C cl fp=>mQ)
     (fun s H C cl fp=>qB (ao (pv 1) (ao (lh FL bz) aE)))))),?_⟩
  have l8:ls.length<=8:=by rw [hq.les.1];exact h8
  have l9:rs.length<=8:=by rw [hq.ris.1];exact h9
  refine⟨_,rfl,er,CQ,de,_,_,rfl,he,T.cl,T.nl,Om _ _,ll,rfl,⟨_,SqL.of hq.lel⟩,fun D hD=>zr (K:=K) (a:=ll) (xs:=ls.map V.ref) (fun i H2=>L2.Same H H2/\∃ us,H2 D=some (.lst (us.map V.ref))/\Objs qU H2 us ((ls.take i).map fun m=>[.ref m,.int 1]))
   ⟨RD.Same.new hD,[],Z2j,Objs.nil⟩ (fun i H2 _ h=>SqL.of (h.1 _ _ hq.lel)) ?_ ?_⟩
  ·rintro i y H2 hi ⟨s2,us,j8,hT⟩;obtain⟨t,M,rfl,e1,e2,e3⟩:=hq.les.at hi;refine⟨rfl,_,rfl,(by show 2<=sizeLine;decide),fun u hu=>?_⟩
   have sU:L2.Same H2 (upd H2 u (.tup [.ref t,.int 1])):=RD.Same.new hu;have:=Oq hD (s2.trans sU) (sU _ _ j8) (hT.keep fun t y _ e=>sU _ _ e) (Z2j (H:=H2) (a:=u)) (by rw [hT.1,aW,lX];omega)
   rw [mK,e1,fO];exact this
  ·rintro H2 ⟨s2,us,j8,hT⟩;rw [aW,qx]at hT;obtain⟨de2,he2⟩:=(hq.same s2).top;refine⟨_,rfl,er,CQ,de2,_,_,rfl,he2,T.cl,T.nr,OG _ _,rl,rfl,⟨_,SqL.of (s2 _ _ hq.ril)⟩,fun D' BR=>zr (K:=K) (a:=rl) (xs:=rs.map V.ref) (fun i H3=>L2.Same H2 H3/\∃ us,H3 D'=some (.lst (us.map V.ref))/\Objs qU H3 us ((rs.take i).map fun m=>[.ref m,.int (-1)]))
    ⟨RD.Same.new BR,[],Z2j,Objs.nil⟩ (fun i H3 _ h=>SqL.of (h.1 _ _ (s2 _ _ hq.ril))) ?_ ?_⟩
   ·rintro i y H3 hi ⟨s3,us,hD3,hT3⟩;obtain⟨t,M,rfl,e1,e2,e3⟩:=hq.ris.at hi;refine⟨rfl,_,rfl,_,rfl,(by show 2<=sizeLine;decide),fun u hu=>?_⟩
    have sU:L2.Same H3 (upd H3 u (.tup [.ref t,.int (-1)])):=RD.Same.new hu;have:=Oq BR (s3.trans sU) (sU _ _ hD3) (hT3.keep fun t y _ e=>sU _ _ e) (Z2j (H:=H3) (a:=u)) (by rw [hT3.1,aW,lX];omega)
    have e:(rs.take (i+1)).map (fun m=>[V.ref m,V.int (-1)])=(rs.take i).map (fun m=>[V.ref m,V.int (-1)])++[[V.ref t,V.int (-1)]]:=by rw [mK,e1,fO];rfl
    rw [<-e]at this;exact this
   ·rintro H3 ⟨s3,Ak,hD3,hT3⟩;rw [aW,qx]at hT3;have lu:us.length<=8:=by rw [hT.1,aW];exact l8
    have lu':Ak.length<=8:=by rw [hT3.1,aW];exact l9
    refine⟨D,D',_,_,rfl,rfl,s3 _ _ j8,hD3,by rw [aW,aW,ak];omega,fun p hp=>?_⟩
    have sp:L2.Same H3 (upd H3 p (.lst (us.map V.ref++Ak.map V.ref))):=RD.Same.new hp;have s4:=(s2.trans s3).trans sp;have zV:=hq.same s4;refine k _ p (us++Ak) s4 ((s2.trans s3).free hp) (by rw [Z2j,fO]) (oP ⟨?_,fun j t x a b=>?_⟩ ⟨?_,fun j t x a b=>?_⟩)
    ·rw [hT.1,aW,aW,hq.les.1]
    ·have lj:j<ls.length:=by have:=(eg.mp a).1;rw [hT.1,aW]at this;exact this
     rw [dQ]at b;cases em:q.left[j]? with
     |none=>rw [em]at b;cases b
     |some M =>
      rw [em]at b;cases b;have et:ls[j]?=some ls[j]:=dv lj;exact⟨ls[j],sp _ _ (s3 _ _ (hT.2 j t _ a (by rw [dQ,et];rfl))),zV.les.2 j _ M et em⟩
    ·rw [hT3.1,aW,aW,hq.ris.1]
    ·have lj:j<rs.length:=by have:=(eg.mp a).1;rw [hT3.1,aW]at this;exact this
     rw [dQ]at b;cases em:q.right[j]? with
     |none=>rw [em]at b;cases b
     |some M =>
      rw [em]at b;cases b;have et:rs[j]?=some rs[j]:=dv lj;exact⟨rs[j],sp _ _ (hT3.2 j t _ a (by rw [dQ,et];rfl)),zV.ris.2 j _ M et em⟩
end
section
variable{P:Program}{w:World}{K:aq}{mg:Str->Option Value}{base:Heap}{CF CR fF CA CB CM CQ CW CN CT:Addr}
theorem A3{H H':Hp}{r b:Addr}{o:HO}{ys:List V}(h:SqT K H b ys)(k:Only r H H')(hr:H r=some o)(ht:∀ xs,o≠.tup xs)(hf:∀ ob u,o≠.frz ob u):SqT K H' b ys:=by
 rcases h with(h |⟨o',h⟩) |h
 ·exact .inl (.inl (k _ _ h (az h hr (fun z=>ht _ z.symm))))
 ·exact .inl (.inr ⟨o',k _ _ h (az h hr (fun z=>hf _ _ z.symm))⟩)
 ·exact .inr h
theorem _root_.L2.DXe.only{H H':Hp}{r a:Addr}{o:HO}{ah:List (List Key×V)}(h:DXe K P w H a ah)(k:Only r H H')(hr:H r=some o)(ht:∀ xs,o≠.tup xs)(hf:∀ ob u,o≠.frz ob u)(ne:a≠r):DXe K P w H' a ah:=
 by obtain⟨xs,d⟩:=h;exact⟨xs,d.keep (fun o e=>k _ _ e ne) fun b ys z=>A3 z k hr ht hf⟩
theorem _root_.L2.DXe.at{H:Hp}{a:Addr}{ah:List (List Key×V)}(h:DXe K P w H a ah):∃ xs,H a=some (gQ P w a xs):=by obtain⟨xs,d⟩:=h;exact⟨xs,d.at_⟩
def kf(ks:List Fk.Key)(ci:List Addr):List (List Key×V):=(ks.zip ci).map fun x=>(pk (ip x.1),.ref x.2)
theorem sX{ks:List Fk.Key}{ci:List Addr}(h:ks.length=ci.length):(kf ks ci).length=ks.length:=by
 unfold kf;rw [aW,List.length_zip];omega
theorem IA:∀ {ks:List Fk.Key}{ci:List Addr}{u:Fk.Key},u∉ks->aL (kf ks ci) (pk (ip u))=none
 |[],ci,u,_=>rfl
 |k::ks,[],u,_=>rfl
 |k::ks,a::ci,u,h=>by
  rw [bw,b9]at h;show aL ((pk (ip k),V.ref a)::kf ks ci) _=none;rw [ku (fun z=>h.1 (jy.mp z).symm)];exact IA h.2
theorem Oy:∀ {ks:List Fk.Key}{ci:List Addr}{u:Fk.Key}{a:Addr}{p:Nat},ks.Nodup->ks[p]?=some u->ci[p]?=some a->aL (kf ks ci) (pk (ip u))=some (.ref a)
 |[],ci,u,a,p,_,h,_=>by simp at h
 |k::ks,[],u,a,p,_,_,h=>by simp at h
 |k::ks,b::ci,u,a,p,nd,h1,h2=>by
  show aL ((pk (ip k),V.ref b)::kf ks ci) _=_;obtain⟨n1,n2⟩:=lA.mp nd;cases p with
  |zero=>cases h1;cases h2;exact lF rfl
  |succ p =>
   have h1:ks[p]?=some u:=h1;rw [ku (fun z:pk (ip k)=pk (ip u)=>n1 (by rw [jy.mp z];exact gL h1))]
   exact Oy n2 h1 h2
theorem sY{ks:List Fk.Key}{ci:List Addr}{u:Fk.Key}{a:Addr}(h:u∉ks)(hl:ks.length=ci.length):aG (kf ks ci) (pk (ip u)) (.ref a)=kf (ks++[u]) (ci++[a]):=by
 unfold aG;rw [v0,IA h,ac (by simp)]
 unfold kf;rw [List.zip_append hl,fO];rfl
def ia(n:Nat)(val:Nat->Fk.Key->Int)(u:Fk.Key):List V:=(List.range n).map fun k=>.int (val k u)
structure Tbl(K:aq)(P:Program)(w:World)(H:Hp)(d:Addr)(n:Nat)(ks:List Fk.Key)(ci:List Addr)(val:Nat->Fk.Key->Int):Prop where
 dx:DXe K P w H d (kf ks ci)
 len:ks.length=ci.length
 nd:ks.Nodup
 ndA:ci.Nodup
 row:∀ (p:Nat)(u:Fk.Key)(a:Addr),ks[p]?=some u->ci[p]?=some a->H a=some (.lst (ia n val u))
 zero:∀ u,u∉ks->∀ k,val k u=0
theorem Tbl.same{H H':Hp}{d:Addr}{n:Nat}{ks:List Fk.Key}{ci:List Addr}{val:Nat->Fk.Key->Int}(t:Tbl K P w H d n ks ci val)(s:L2.Same H H'):Tbl K P w H' d n ks ci val:=
 ⟨t.dx.same s,t.len,t.nd,t.ndA,fun p u a h1 h2=>s _ _ (t.row p u a h1 h2),t.zero⟩
theorem Tbl.congr{H:Hp}{d:Addr}{n:Nat}{ks:List Fk.Key}{ci:List Addr}{val yU:Nat->Fk.Key->Int}(t:Tbl K P w H d n ks ci val)(h:∀ k u,val k u=yU k u):Tbl K P w H d n ks ci yU:=by
 have e:val=yU:=funext fun k=>funext fun u=>h k u;rw [<-e];exact t
theorem Tbl.get{H:Hp}{d:Addr}{n:Nat}{ks:List Fk.Key}{ci:List Addr}{val:Nat->Fk.Key->Int}(t:Tbl K P w H d n ks ci val){u:Fk.Key}(h:u∈ks):∃ (p:Nat)(a:Addr),ks[p]?=some u/\ci[p]?=some a/\aL (kf ks ci) (pk (ip u))=some (.ref a)/\H a=some (.lst (ia n val u)):=by
 obtain⟨p,hp,e⟩:=List.getElem_of_mem h;have h1:ks[p]?=some u:=by rw [dv hp,e]
 have h2:ci[p]?=some (ci[p]'(by rw [<-t.len];exact hp)):=dv _
 exact⟨p,_,h1,h2,Oy t.nd h1 h2,t.row p u _ h1 h2⟩
def Gy(K:aq)(H H':Hp):Prop:=∀ b ys,SqT K H b ys->SqT K H' b ys
theorem Tbl.put{H H4:Hp}{d a:Addr}{n:Nat}{ks:List Fk.Key}{ci:List Addr}{val:Nat->Fk.Key->Int}(t:Tbl K P w H d n ks ci val){u:Fk.Key}(h:u∉ks)(ha:H a=some (.lst ((List.range n).map fun _=>.int 0)))(na:a∉ci)(o:Only d H H4)(D:DXe K P w H4 d (aG (kf ks ci) (pk (ip u)) (.ref a))):
  Tbl K P w H4 d n (ks++[u]) (ci++[a]) val:=by
 obtain⟨xs,hd⟩:=t.dx.at;have lk:∀ {b:Addr}{l:List V},H b=some (.lst l)->H4 b=some (.lst l):=fun{b l} e=>o _ _ e (az e hd (by intro z;cases z))
 refine⟨by rw [<-sY h t.len];exact D,by rw [gD,gD,t.len];rfl,?_,?_,fun p v b h1 h2=>?_,fun v hv k=>t.zero v (fun z=>hv (jY _ z)) k⟩
 ·refine rg.mpr ⟨t.nd,by simp,fun x hx y hy e=>h ?_⟩
  rw [<-du.mp hy,<-e];exact hx
 ·refine rg.mpr ⟨t.ndA,by simp,fun x hx y hy e=>na ?_⟩
  rw [<-du.mp hy,<-e];exact hx
 ·by_cases hp:p<ks.length
  ·rw [mJ hp]at h1;rw [mJ (by rw [<-t.len];exact hp)]at h2
   exact lk (t.row p v b h1 h2)
  ·rw [uI (by omega)]at h1
   rw [uI (by rw [<-t.len];omega),<-t.len]at h2
   cases e:p-ks.length with
   |zero =>
    rw [e]at h1 h2;cases h1;cases h2;rw [lk ha];unfold ia;congr 2;exact qZ fun k _=>by rw [t.zero u h k]
   |succ m=>rw [e]at h1;simp at h1
theorem pL{n i:Nat}{val:Nat->Fk.Key->Int}{u:Fk.Key}{z:Int}(hi:i<n):(ia n val u).set i (.int z)=ia n (fun k v=>if k=i/\v=u then z else val k v) u:=by
 unfold ia;refine List.ext_getElem (by simp) fun k h1 h2=>?_
 rw [List.getElem_set];simp only [List.getElem_map,AJ];by_cases e:i=k
 ·rw [ae e];simp [e]
 ·rw [ac e];have:¬ k=i:=fun q=>e q.symm;simp [this]
theorem Tbl.set{H:Hp}{d a:Addr}{n p i:Nat}{ks:List Fk.Key}{ci:List Addr}{val:Nat->Fk.Key->Int}{u:Fk.Key}{z:Int}(t:Tbl K P w H d n ks ci val)(h1:ks[p]?=some u)(h2:ci[p]?=some a)(hi:i<n):
  Tbl K P w (upd H a (.lst ((ia n val u).set i (.int z)))) d n ks ci (fun k v=>if k=i/\v=u then z else val k v):=by
 obtain⟨xs,hd⟩:=t.dx.at;have ha:=t.row p u a h1 h2;refine⟨t.dx.only (Only.upd _) ha (fun _ z=>by cases z) (fun _ _ z=>by cases z) (az hd ha (by intro z;cases z)),t.len,t.nd,t.ndA,fun q v b g1 g2=>?_,fun v hv k=>?_⟩
 ·by_cases e:b=a
  ·subst e;have:q=p:=by
    have l1:=(eg.mp g2);have l2:=(eg.mp h2);exact(List.getElem_inj t.ndA).mp (l1.2.trans l2.2.symm)
   subst this;rw [h1]at g1;cases g1;rw [Z2j,pL hi]
  ·rw [aj e,t.row q v b g1 g2];have ne:v≠u:=fun y=>by
    subst y;have l1:=(eg.mp g1);have l2:=(eg.mp h1);have:q=p:=(List.getElem_inj t.nd).mp (l1.2.trans l2.2.symm);subst this;rw [h2]at g2;exact e (Option.some.inj g2).symm
   unfold ia;congr 2;exact qZ fun k _=>by
    show _=V.int (if k=i/\v=u then z else val k v);rw [ac (fun y=>ne y.2)]
 ·show(if k=i/\v=u then z else val k v)=0;rw [ac (fun y:k=i/\v=u=>hv (by rw [y.2];exact gL h1)),t.zero v hv k]
def sv(q:Fk.Equation)(k:Nat)(u:Fk.Key):Int:=match (sgn q)[k]? with
 |some x=>x.2*(Fk.countIn x.1.units u:Int)
 |none=>0
theorem wg(q:Fk.Equation):(sgn q).length=q.left.length+q.right.length:=by unfold sgn;simp
theorem Ol{q:Fk.Equation}{x:Fk.Mol×Int}(h:x∈sgn q):x.2=1\/x.2=-1:=by
 rcases dz.mp h with h |h
 ·obtain⟨M,_,rfl⟩:=i4.mp h;exact .inl rfl
 ·obtain⟨M,_,rfl⟩:=i4.mp h;exact .inr rfl
end
section
variable{P:Program}{w:World}{K:aq}{mg:Str->Option Value}{base:Heap}{CF CR fF CA CB CM CQ CW CN CT:Addr}
noncomputable def CZ(b:List Stmt):Scope:=match b with
 |[_,_,.For _ _ [.For _ _ (.If _ [.Assign _ (.ListComp _ _ sc _) _] _ _::_) _ _] _ _,_]=>sc
 |_=>{ kind:=.function,names:=[],isGenerator:=false,isCoroutine:=false }
def P8(K:aq)(P:Program)(w:World)(CA CB CM CQ:Addr):Sp:=fun vs H Q _=>∃ (er ll rl:Addr)(ls rs:List Addr)(q:Fk.Equation),vs=[.ref er]/\EqAt CQ CM CA CB H er ll rl ls rs q/\q.left.length<=8/\q.right.length<=8 /\
 ∀ H' d ks ci,L2.Same H H'->H d=none->(∀ a∈ci,H a=none)->Tbl K P w H' d (q.left.length+q.right.length) ks ci (sv q)->(∀ u,u∈ks↔u∈q.all.flatMap Fk.Mol.units)->ks.length<=5000->Q (.ref d) H'
theorem jf:cX ["equation","molecules","rows","k","signed","unit","count","molecule"] ["equation"] (bo AV):=⟨rfl,rfl,rfl,by decide +kernel,rfl,by decide +kernel,by decide +kernel⟩
theorem Bs:cY ["equation","molecules","rows","k","signed","unit","count","molecule"] (bo AV) (CZ (eQ AV)) [("molecule",7)]:=⟨rfl,by decide +kernel,by decide +kernel,by decide +kernel,by decide +kernel⟩
theorem qr(q:Fk.Equation)(u:Fk.Key):(∃ x∈sgn q,u∈x.1.units)↔u∈q.all.flatMap Fk.Mol.units:=by
 unfold sgn Fk.Equation.all;rw [List.mem_flatMap];constructor
 ·rintro⟨x,hx,hu⟩;rcases dz.mp hx with h |h
  ·obtain⟨M,hM,rfl⟩:=i4.mp h;exact⟨M,jY _ hM,hu⟩
  ·obtain⟨M,hM,rfl⟩:=i4.mp h;exact⟨M,kq _ hM,hu⟩
 ·rintro⟨M,hM,hu⟩;rcases dz.mp hM with h |h
  ·exact⟨(M,1),jY _ (Hf (f:=fun M=>(M,(1:Int))) h),hu⟩
  ·exact⟨(M,-1),kq _ (Hf (f:=fun M=>(M,(-1:Int))) h),hu⟩
theorem nY{cs:List (Fk.Key×Nat)}(nd:(cs.map (·.1)).Nodup){x:Fk.Key×Nat}(h:x∈cs):d8 cs x.1=x.2:=by
 induction cs with
 |nil=>simp at h
 |cons y cs ih =>
  rw [ej,lA]at nd;rw [vZ];rcases bw.mp h with rfl |h
  ·rw [ae rfl]
  ·rw [ac (fun z=>nd.1 (by rw [z];exact Hf (f:=(·.1)) h)),ih nd.2 h]
def iX(q:Fk.Equation)(i:Nat)(us:List Fk.Key)(k:Nat)(u:Fk.Key):Int:=if k<i then sv q k u else if k=i/\u∈us then sv q i u else 0
structure URok(K:aq)(P:Program)(w:World)(H1 H':Hp)(d:Addr)(q:Fk.Equation)(i:Nat)(us:List Fk.Key):Prop where
 ex:∃ ks ci,Tbl K P w H' d (q.left.length+q.right.length) ks ci (iX q i us)/\(∀ u,u∈ks↔(∃ x∈(sgn q).take i,u∈x.1.units)\/u∈us)/\ks.length<=300*i+us.length/\∀ a∈ci,H1 a=none
 sm:L2.Same H1 H'
theorem ZaY{l:List Fk.Key}{u:Fk.Key}(h:u∉l):Fk.countIn l u=0:=by
 unfold Fk.countIn;rw [List.length_eq_zero_iff,List.filter_eq_nil_iff];intro x hx e;exact h (by have:=(aJ.mp e);rw [<-this];exact hx)
theorem URok.next{H1 H':Hp}{d:Addr}{q:Fk.Equation}{i:Nat}{us:List Fk.Key}{x:Fk.Mol×Int}(h:URok K P w H1 H' d q i us)(hx:(sgn q)[i]?=some x)(hu:∀ u,u∈us↔u∈x.1.units)(hl:us.length<=300):URok K P w H1 H' d q (i+1) []:=by
 obtain⟨⟨ks,ci,t,m,l,f⟩,s⟩:=h;refine⟨⟨ks,ci,t.congr fun k u=>?_,fun u=>?_,by simp only [lB];omega,f⟩,s⟩
 ·unfold iX;by_cases e:k<i
  ·rw [ae e,ae (by omega)]
  ·rw [ac e];by_cases e2:k=i
   ·subst e2;rw [ae (show k<k+1 by omega)]
    by_cases e3:u∈us
    ·rw [ae ⟨rfl,e3⟩]
    ·rw [ac (fun z=>e3 z.2)];unfold sv;rw [hx];show 0=x.2*(Fk.countIn x.1.units u:Int);rw [ZaY (fun z=>e3 ((hu u).mpr z))];simp
   ·rw [ac (fun z=>e2 z.1),ac (by omega),ac (fun z=>by simp at z)]
 ·rw [m u,mK,hx,hu u];simp only [dz,Option.toList_some,du,ik,or_false];constructor
  ·rintro(⟨y,hy,h⟩ |h)
   ·exact⟨y,.inl hy,h⟩
   ·exact⟨x,.inr rfl,h⟩
  ·rintro⟨y,hy |rfl,h⟩
   ·exact .inl ⟨y,hy,h⟩
   ·exact .inr h
set_option maxHeartbeats 1000000 in
theorem tI{f fS fU:Addr}{fd BF BH:FuncData}(F:Fun K "unit_rows" "unit_rows" AV f fd)(B6:mg "enumerate" = none)
  (GS:am P w K mg base CX0 1 fS BF ["equation"] (qg CA CB CM CQ))(mS:mg "signed_molecules" = some (.ref fS))(kS:PySem.W.keepIn K (.ref fS)=true)(bS:Binds K BF ["equation"] [])
  (GU:am P w K mg base CX0 2 fU BH ["molecule"] (PU K P w CA CB CM))(mU:mg "count_units" = some (.ref fU))(kU:PySem.W.keepIn K (.ref fU)=true)(bU:Binds K BH ["molecule"] []):
  am P w K mg base CX0 3 f fd ["equation"] (P8 K P w CA CB CM CQ):=by
 refine F.ok jf (fun vs H Q E h=>?_) (fun bq A outer s H vs Q E hr h=>?_)
 ·obtain⟨er,ll,rl,ls,rs,q,rfl,_⟩:=h;rfl
 ·obtain⟨er,ll,rl,ls,rs,q,rfl,hq,h8,h9,kk⟩:=h;have hu:=eF hr;have iK:Room 1 _:=hr.mono (by decide)
  refine⟨_,aO (dj (i:=1) jf.nd rfl (Or.inl rfl) (fQ GS iK rfl mS kS bS .nil aC (ao (pv 0) aE)))
   (aO (dj (i:=2) jf.nd rfl (Or.inl rfl) Ps)
   (aO (lI PassesOwn.never rfl (FC rfl B6 (ao (pv 1) aE)) (zB rfl (kz (eU (i:=3) jf.nd rfl (Or.inl rfl)) (kz (eU (i:=4) jf.nd rfl (Or.inl rfl)) we)))
     (bh (lI PassesOwn.never rfl (ZbI (fQ GU hr rfl mU kU bU .nil aC (ao (dq zy (pv 4) bz (fun _ _=>rfl)) aE))) (zB rfl (kz (eU (i:=5) jf.nd rfl (Or.inl rfl)) (kz (eU (i:=6) jf.nd rfl (Or.inl rfl)) we)))
       (aO (b8 (gr (tL hu) (pv 5) (pv 2) rfl)
         (bh (P2 hu (pv 2) (pv 5) (iS rfl jf.nd (qy (pv 1)) Bs (fun s H C cl fp=>eU (i:=7) jf.nd rfl (Or.inl rfl)) (fun s H C cl fp=>mQ) (fun s H C cl fp=>bz)) rfl)) io)
       (bh (yt (a0 zE (dq zy (pv 4) bz (fun _ _=>rfl)) (pv 6)) (yo (PH hu (pv 2) (pv 5) (fun _ _=>rfl)) (pv 3) Je)))))))
   (bh (dL (pv 2))))),?_⟩
  refine⟨_,rfl,er,ll,rl,ls,rs,q,rfl,hq,h8,h9,fun H1 l ts s1 nl hl hS=>?_⟩;intro d nd Mh;have lt:ts.length=q.left.length+q.right.length:=by rw [hS.1,wg]
  have sd:L2.Same H1 (upd H1 d (gQ P w d [])):=RD.Same.new nd;refine⟨_,rfl,l,_,rfl,SqL.of (sd _ _ hl),Fj (K:=K) (a:=l) (xs:=ts.map V.ref) (fun i σ H'=>∃ v3 v4 v5 v6:Option V,σ=[some (.ref er),some (.ref l),some (.ref d),v3,v4,v5,v6,none]/\URok K P w H1 H' d q i [])
   ⟨none,none,none,none,rfl,⟨[],[],⟨DX.empty Mh,rfl,uJ,uJ,fun p u a h=>by simp at h,fun u _ k=>?_⟩,fun u=>by simp,by simp,fun a ha=>by simp at ha⟩,sd⟩ (fun i σ H' _ ⟨_,_,_,_,_,h⟩=>SqL.of (h.sm _ _ hl)) ?_ ?_⟩
  ·unfold iX;rw [ac (by omega),ac (fun z=>by simp at z)]
  ·rintro i y σ H2 U hi ⟨v3,v4,v5,v6,rfl,ur⟩ hU;obtain⟨t,x,rfl,e1,e2,m,ht,hm⟩:=hS.at hi;obtain⟨al,bl,as,ds,mo,wf⟩:=hm;have li:i<q.left.length+q.right.length:=by rw [<-lt];exact(eg.mp e1).1
   have sU:L2.Same H2 (upd H2 U (.tup [.int (i:Int),.ref t])):=RD.Same.new hU;have s2:=ur.sm.trans sU;refine⟨U,_,rfl,SqT.of Z2j,rfl,_,_,rfl,_,_,rfl,rfl,_,rfl,t,_,_,_,rfl,rfl,SqT.of (s2 _ _ ht),rfl,m,al,bl,as,ds,x.1,rfl,mo.same s2,wf,fun H3 ua s3 Rl D3=>?_⟩;generalize QJ:lJ x.1.atoms []=cs at D3;have cn:=Ob x.1.atoms Cnt.nil;rw [QJ]at cn;have cn:Cnt cs x.1.units:=cn;have ln:=HZ x.1.atoms [];have wn:=wf.n;rw [QJ]at ln;simp only [lB]at ln;refine⟨ua,_,rfl,D3,fun ob its FX Ks=>?_⟩;obtain⟨xu,KY⟩:=DXe.at D3;have o3:Only ua H3 (upd H3 ua (jL ua ob)):=Only.upd _;have F9:ua≠d:=fun z=>by
    obtain⟨⟨ks,ci,t',_⟩,_⟩:=ur;obtain⟨xd',wT⟩:=(t'.same sU).dx.at;have Dj:upd H2 U (.tup [.int (i:Int),.ref t]) ua=none:=Rl;rw [z,wT]at Dj;cases Dj
   have Ly:H1 ua=none:=(ur.sm.trans sU).free Rl;have sL:L2.Same H1 (upd H3 ua (jL ua ob)):=fun b o e=>by rw [aj (ba e Ly)];exact s3 _ _ (s2 _ _ e)
   have ur3:URok K P w H1 (upd H3 ua (jL ua ob)) d q i []:=by
    obtain⟨⟨ks,ci,t',m',l',f'⟩,_⟩:=ur;have t2:=(t'.same sU).same s3;obtain⟨xd,hd⟩:=t2.dx.at;refine⟨⟨ks,ci,⟨t2.dx.only o3 KY (fun _ z=>by cases z) (fun _ _ z=>by cases z) F9.symm,t2.len,t2.nd,t2.ndA,fun p u a g1 g2=>?_,t2.zero⟩,m',l',f'⟩,sL⟩
    rw [aj (az (t2.row p u a g1 g2) KY (by intro z;cases z))]
    exact t2.row p u a g1 g2
   refine Zba (a:=ua) (ob:=ob) (its:=its) (fun j σ H'=>∃ (v5 v6:Option V),σ=[some (.ref er),some (.ref l),some (.ref d),some (.int (i:Int)),some (.ref t),v5,v6,none]/\H' ua=some (jL ua ob)/\Gy K (upd H3 ua (jL ua ob)) H'/\URok K P w H1 H' d q i ((cs.take j).map (·.1)))
    ⟨v5,v6,rfl,Z2j,fun _ _ z=>z,ur3⟩ (fun j σ H' _ ⟨_,_,_,h,_⟩=>h) ?_ ?_
   ·rintro j b v σ H5 T hj ⟨v5,v6,rfl,hk5,kp5,ur5⟩ hT;have lj:j<cs.length:=by have:=(eg.mp hj).1;rw [FX,IZ]at this;exact this
    have hy:cs[j]?=some cs[j]:=dv lj;generalize cs[j]=y at hy;have he:(enc cs)[j]?=some (pk (ip y.1),V.int (y.2:Int)):=by unfold enc;rw [dQ,hy];rfl
    obtain⟨b',j9,sq⟩:=Ks j _ _ he;rw [hj]at j9;cases j9;have sT:L2.Same H5 (upd H5 T (.tup [.ref b,.int (y.2:Int)])):=RD.Same.new hT;have yG:SqT K (upd H5 T (.tup [.ref b,.int (y.2:Int)])) b ((pk (ip y.1)).map kV):=RD.Same.sqT sT (kp5 _ _ (A3 sq o3 KY (fun _ z=>by cases z) (fun _ _ z=>by cases z)))
    obtain⟨⟨ks,ci,tb,mk,lk,fa⟩,s5⟩:=ur5;have yR:=tb.same sT;have hyc:y.2=Fk.countIn x.1.units y.1:=by
     rw [<-cn.get];have:d8 cs y.1=y.2:=nY cn.nd (gL hy);exact this.symm
    have tk:(cs.take (j+1)).map (·.1)=(cs.take j).map (·.1)++[y.1]:=by rw [mK,hy,fO];rfl
    have Ll:((cs.take j).map (·.1)).length=j:=by rw [aW,lX];omega
    have Ai:=s5.trans sT;have svx:sv q i y.1=x.2*(y.2:Int):=by unfold sv;rw [e2];show x.2*(Fk.countIn x.1.units y.1:Int)=_;rw [hyc]
    have fin:∀ (H6:Hp)(z6:List Fk.Key)(mX:List Addr),L2.Same H1 H6->H6 ua=some (jL ua ob)->Gy K (upd H5 T (.tup [.ref b,.int (y.2:Int)])) H6->Tbl K P w H6 d (q.left.length+q.right.length) z6 mX (iX q i ((cs.take j).map (·.1)))->(∀ u,u∈z6↔u∈ks\/u=y.1)->z6.length<=ks.length+1->(∀ a∈mX,H1 a=none) ->
      ∃ (a:Addr)(xs:List V),aL (kf z6 mX) (pk (ip y.1))=some (.ref a)/\H6 a=some (.lst xs)/\qN xs.length (i:Int)=some i/\upd H6 a (.lst (xs.set i (.int (x.2*(y.2:Int))))) ua=some (jL ua ob)/\Gy K (upd H3 ua (jL ua ob)) (upd H6 a (.lst (xs.set i (.int (x.2*(y.2:Int))))))/\URok K P w H1 (upd H6 a (.lst (xs.set i (.int (x.2*(y.2:Int)))))) d q i ((cs.take (j+1)).map (·.1)):=by
     intro H6 z6 mX s6 QQ kp6 t6 m6 l6 f6;obtain⟨p,a,g1,g2,g3,g4⟩:=t6.get ((m6 y.1).mpr (.inr rfl));refine⟨a,_,g3,g4,IU (by unfold ia;rw [aW,rh];exact li),?_,fun b' ys z=>?_,⟨z6,mX,(t6.set (z:=x.2*(y.2:Int)) g1 g2 li).congr fun k u=>?_,fun u=>?_,?_,f6⟩,fun b' o e=>?_⟩
     ·rw [aj (az QQ g4 (by intro z;cases z))];exact QQ
     ·exact A3 (kp6 _ _ (RD.Same.sqT sT (kp5 _ _ z))) (Only.upd _) g4 (fun _ z=>by cases z) (fun _ _ z=>by cases z)
     ·unfold iX;rw [tk];by_cases c1:k=i/\u=y.1
      ·obtain⟨rfl,rfl⟩:=c1;rw [ae ⟨rfl,rfl⟩,ac (by omega),ae ⟨rfl,by simp⟩,svx]
      ·rw [ac c1];by_cases c2:k<i
       ·rw [ae c2,ae c2]
       ·rw [ac c2,ac c2];by_cases c3:k=i/\u∈(cs.take j).map (·.1)
        ·rw [ae c3,ae ⟨c3.1,jY _ c3.2⟩]
        ·rw [ac c3,ac fun z=>by
          rcases dz.mp z.2 with h |h
          ·exact c3 ⟨z.1,h⟩
          ·exact c1 ⟨z.1,du.mp h⟩]
     ·rw [m6 u,mk u,tk,dz,du];exact or_assoc
     ·rw [tk,gD,Ll,E4];rw [Ll]at lk;omega
     ·rw [aj (fun z=>by rw [z,f6 a (gL g2)]at e;cases e)];exact s6 _ _ e
    have sqt:=SqT.of (K:=K) (Ai _ _ ht);have JD:x.2=1\/x.2=-1:=Ol (gL e2);have cm:CMul x.2 (y.2:Int):=.inl (by rcases JD with e |e<;>rw [e]<;>exact⟨by decide,by decide⟩)
    refine⟨T,_,rfl,SqT.of Z2j,rfl,_,_,rfl,_,_,rfl,rfl,_,rfl,_,rfl,d,b,_,_,rfl,rfl,yR.dx,yG,_,rfl,bu (fun hc=>?_) (fun hc=>?_)⟩
    ·have hn:y.1∉ks:=fun z=>by
      obtain⟨_,_,_,_,g3,_⟩:=yR.get z;rw [g3]at hc;cases hc
     refine⟨_,rfl,l,rfl,⟨_,SqL.of (Ai _ _ hl)⟩,fun D hD=>zr (K:=K) (a:=l) (xs:=ts.map V.ref) (fun k H'=>L2.Same (upd H5 T (.tup [.ref b,.int (y.2:Int)])) H'/\H' D=some (.lst ((List.range k).map fun _=>.int 0)))
      ⟨RD.Same.new hD,Z2j⟩ (fun k H' _ h=>SqL.of (h.1 _ _ (Ai _ _ hl))) ?_ ?_⟩
     ·rintro k z H' hz ⟨sA,hDA⟩;refine⟨rfl,_,hDA,?_,fun b' o e=>?_,?_⟩
      ·rw [aW,rh,ak];have:=(eg.mp hz).1;rw [aW,lt]at this;omega
      ·rw [aj (ba e hD)];exact sA _ _ e
      ·rw [Z2j,List.range_succ,fO];rfl
     ·rintro H' ⟨sA,hDA⟩;rw [aW,lt]at hDA;have tA:=yR.same sA;have Lu:H1 D=none:=Ai.free hD;have nDa:D∉ci:=fun z=>by
       obtain⟨p,hp,ep⟩:=List.getElem_of_mem z;have Bx:ci[p]?=some D:=by rw [dv hp,ep]
       have Bw:ks[p]?=some (ks[p]'(by rw [yR.len];exact hp)):=dv _
       have:=yR.row p _ D Bw Bx;have nD:upd H5 T (.tup [.ref b,.int (y.2:Int)]) D=none:=hD;rw [nD]at this;cases this
      have lk5:ks.length<=5000:=by
       rw [Ll]at lk;omega
      refine⟨_,rfl,_,rfl,d,b,_,_,rfl,rfl,tA.dx,RD.Same.sqT sA yG,by rw [sX tA.len,ak];omega,fun H6 o6 D6=>?_⟩
      have t6:=tA.put hn hDA nDa o6 D6;obtain⟨xd,QK⟩:=tA.dx.at;have s6:L2.Same H1 H6:=fun b' o e=>o6 _ _ (sA _ _ (Ai _ _ e)) (ba e nd);have hkA:H' ua=some (jL ua ob):=sA _ _ (sT _ _ hk5);obtain⟨a,xs,f1,f2,f3,f4,f5,JM⟩:=fin H6 (ks++[y.1]) (ci++[D]) s6 (o6 _ _ hkA F9) (fun b' ys z=>A3 (RD.Same.sqT sA z) o6 QK (fun _ z=>by cases z) (fun _ _ z=>by cases z)) t6 (fun u=>by simp) (by simp) (fun a ha=>by
       rcases dz.mp ha with h |h
       ·exact fa a h
       ·rw [du.mp h];exact Lu)
      exact⟨_,rfl,t,_,_,_,rfl,rfl,SqT.of (s6 _ _ ht),rfl,_,rfl,x.2,(y.2:Int),rfl,rfl,cm,_,rfl,_,rfl,d,b,_,_,_,rfl,rfl,t6.dx,A3 (RD.Same.sqT sA yG) o6 QK (fun _ z=>by cases z) (fun _ _ z=>by cases z),f1,_,rfl,a,xs,_,_,rfl,rfl,f2,f3,_,_,rfl,f4,f5,JM⟩
    ·have mq:y.1∈ks:=by
      by_cases z:y.1∈ks
      ·exact z
      ·exfalso;apply hc;rw [IA z];rfl
     obtain⟨a,xs,f1,f2,f3,f4,f5,JM⟩:=fin _ ks ci Ai (sT _ _ hk5) (fun _ _ z=>z) yR (fun u=>⟨.inl,fun z=>z.elim id fun z=>by rw [z];exact mq⟩) (by omega) fa
     exact⟨_,rfl,t,_,_,_,rfl,rfl,sqt,rfl,_,rfl,x.2,(y.2:Int),rfl,rfl,cm,_,rfl,_,rfl,d,b,_,_,_,rfl,rfl,yR.dx,yG,f1,_,rfl,a,xs,_,_,rfl,rfl,f2,f3,_,_,rfl,f4,f5,JM⟩
   ·rintro σ H5 ⟨v5,v6,rfl,hk5,kp5,ur5⟩;rw [FX,IZ,qx]at ur5;exact⟨_,_,_,_,rfl,ur5.next e2 (fun u=>cn.mem u) (by rw [aW];omega)⟩
  ·rintro σ H2 ⟨v3,v4,v5,v6,rfl,⟨ks,ci,t,m,l',f'⟩,s2⟩;rw [aW,lt]at t m l';refine⟨_,rfl,kk H2 d ks ci (s1.trans s2) (s1.free nd) (fun a ha=>s1.free (f' a ha)) (t.congr fun k u=>?_) (fun u=>?_) (by simp only [lB]at l';omega)⟩
   ·unfold iX;by_cases e:k<q.left.length+q.right.length
    ·rw [ae e]
    ·rw [ac e,ac (fun z=>by simp at z)]
     unfold sv;rw [Ha (by rw [wg];omega)]
   ·rw [m u,<-qr,List.take_of_length_le (by rw [wg];omega)]
    simp
end
end BK
end
section
namespace RD
open PySem PySem.Spec PyProof.Rows L2 EX
section
variable{X:Cx}
theorem rT(K:aq)(hK:X.K=K)(hc:X.calm=true):jl X (.builtin "sum") (DF K):=by subst hK;exact nH hc
theorem pj(K:aq)(hK:X.K=K){tg l:Expr}{tl:TE}(hl:PE X l tl):PI X tg l (ve K tl):=by subst hK;exact qy hl
end
end RD
namespace BK
open PySem PySem.Spec PyProof.Rows L2 EX RD LM FM
section
variable{P:Program}{w:World}{K:aq}{mg:Str->Option Value}{base:Heap}{CF CR fF CA CB CM CQ CW CN CT:Addr}
theorem Pa(q:Fk.Equation)(g:Fk.Mol->Int):q.side g=(sgn q).map fun x=>x.2*g x.1:=by
 unfold Fk.Equation.side sgn;rw [fO,jM,jM];congr 1
 ·exact qZ fun M _=>(Int.one_mul _).symm
 ·exact qZ fun M _=>by show -(g M)=-1*g M;omega
theorem pM(q:Fk.Equation)(u:Fk.Key):ia (q.left.length+q.right.length) (sv q) u=(q.side fun M=>((Fk.countIn M.units u:Nat):Int)).map V.int:=by
 rw [Pa,<-wg];unfold ia;rw [jM];refine List.ext_getElem (by simp) fun k h1 h2=>?_
 simp only [List.getElem_map,AJ];have hk:k<(sgn q).length:=by simpa using h1
 unfold sv;rw [dv hk];rfl
theorem HW:∀ (l:List Int)(a:Int),l.foldl (fun(a b:Int)=>a+b) a=a+l.sum
 |[],a=>by simp
 |x::l,a=>by rw [AK,HW l,List.sum_cons];omega
noncomputable def vf(b:List Stmt):Scope:=match b.getLast? with
 |some (.Return (some (.ListComp _ _ sc _)) _)=>sc
 |_=>{ kind:=.function,names:=[],isGenerator:=false,isCoroutine:=false }
noncomputable def Lj(b:List Stmt):Scope:=match b.getLast? with
 |some (.Return (some (.ListComp (.BinOp _ _ (.Call _ [.ListComp _ _ sc _] _ _) _) _ _ _)) _)=>sc
 |_=>{ kind:=.function,names:=[],isGenerator:=false,isCoroutine:=false }
def vD(CA CB CM CQ:Addr):Sp:=fun vs H Q _=>∃ (er ll rl:Addr)(ls rs:List Addr)(q:Fk.Equation),vs=[.ref er]/\EqAt CQ CM CA CB H er ll rl ls rs q/\q.left.length<=8/\q.right.length<=8 /\
 ∀ H' l,L2.Same H H'->H l=none->H' l=some (.lst ((q.side Fk.Mol.charge).map V.int))->Q (.ref l) H'
theorem iV:cX ["equation","molecule","sign","atom"] ["equation"] (bo uM):=⟨rfl,rfl,rfl,by decide +kernel,rfl,by decide +kernel,by decide +kernel⟩
theorem ww:cY ["equation","molecule","sign","atom"] (bo uM) (vf (eQ uM)) [("molecule",1),("sign",2)]:=⟨rfl,by decide +kernel,by decide +kernel,by decide +kernel,by decide +kernel⟩
theorem wv:cY ["equation","molecule","sign","atom"] (DG (vf (eQ uM)) (bo uM)) (Lj (eQ uM)) [("atom",3)]:=⟨rfl,by decide +kernel,by decide +kernel,by decide +kernel,by decide +kernel⟩
theorem Dp{f fS:Addr}{fd BF:FuncData}(F:Fun K "charge_row" "charge_row" uM f fd)(gK:uG K CM)(TA:uD K CA)(hs:mg "sum" = none)
  (GS:am P w K mg base CX0 1 fS BF ["equation"] (qg CA CB CM CQ))(mS:mg "signed_molecules" = some (.ref fS))(kS:PySem.W.keepIn K (.ref fS)=true)(bS:Binds K BF ["equation"] []):
  am P w K mg base CX0 2 f fd ["equation"] (vD CA CB CM CQ):=by
 refine F.ok iV (fun vs H Q E h=>?_) (fun bq A outer s H vs Q E hr h=>?_)
 ·obtain⟨er,ll,rl,ls,rs,q,rfl,_⟩:=h;rfl
 ·obtain⟨er,ll,rl,ls,rs,q,rfl,hq,h8,h9,k⟩:=h;refine⟨_,bh (dL (iS rfl iV.nd (qy (fQ GS hr rfl mS kS bS .nil aC (ao (pv 0) aE))) ww
   (fun s H C cl fp=>P6 (n:=2) K rfl rfl (kz (eU (i:=1) iV.nd rfl (Or.inl rfl)) (kz (eU (i:=2) iV.nd rfl (Or.inl rfl)) we))) (fun s H C cl fp=>mQ)
   (fun s H C cl fp=>a0 P9 (pv 2) (l7 (rT K rfl rfl) (by rfl) hs boot_sum (ao (iS rfl iV.nd (pj K rfl (PP K rfl (pv 1) rfl)) wv
     (fun s H C cl fp=>eU (i:=3) iV.nd rfl (Or.inl rfl)) (fun s H C cl fp=>mQ) (fun s H C cl fp=>PP K rfl (pv 3) rfl)) aE))))),?_⟩
  refine⟨_,rfl,er,ll,rl,ls,rs,q,rfl,hq,h8,h9,fun H1 l ts s1 nl hl hS=>?_⟩;have lt:ts.length=q.left.length+q.right.length:=by rw [hS.1,wg]
  refine⟨l,rfl,⟨_,SqL.of hl⟩,fun D hD=>zr (K:=K) (a:=l) (xs:=ts.map V.ref) (fun i H2=>L2.Same H1 H2/\H2 D=some (.lst ((((sgn q).take i).map fun x=>x.2*Fk.Mol.charge x.1).map V.int)))
   ⟨RD.Same.new hD,Z2j⟩ (fun i H2 _ h=>SqL.of (h.1 _ _ hl)) ?_ ?_⟩
  ·rintro i y H2 hi ⟨s2,j8⟩;obtain⟨t,x,rfl,e1,e2,m,ht,al,bl,as,ds,mo,wf⟩:=hS.at hi;have lS:=mo.same s2;obtain⟨dm,hm⟩:=lS.top;have jj:i<(sgn q).length:=(eg.mp e2).1;have wn:=wf.n;refine⟨t,_,rfl,SqT.of (s2 _ _ ht),rfl,_,_,rfl,_,_,rfl,rfl,rfl,_,rfl,_,rfl,m,CM,dm,_,_,rfl,hm,gK.cl,gK.na,vY _ _,al,rfl,⟨_,SqL.of lS.atl⟩,fun D' BR=>zr (K:=K) (a:=al) (xs:=as.map V.ref) (fun j H3=>L2.Same H2 H3/\H3 D'=some (.lst (((x.1.atoms.take j).map Fk.Atom.charge).map V.int)))
    ⟨RD.Same.new BR,Z2j⟩ (fun j H3 _ h=>SqL.of (h.1 _ _ lS.atl)) ?_ ?_⟩
   ·rintro j z H3 hj ⟨s3,hD3⟩;obtain⟨ta,xa,rfl,f1,f2,da,ga⟩:=lS.ats.at hj;have lj:j<x.1.atoms.length:=(eg.mp f2).1;refine⟨rfl,_,rfl,ta,CA,da,_,_,rfl,s3 _ _ ga,TA.cl,TA.nc,ZaV _,_,hD3,?_,fun b o e=>?_,?_⟩
    ·rw [aW,aW,lX,ak];have:x.1.atoms.length<=128:=wn;omega
    ·rw [aj (ba e BR)];exact s3 _ _ e
    ·rw [Z2j,mK,f2,fO,fO];rfl
   ·rintro H3 ⟨s3,hD3⟩;rw [aW,mo.ats.1,qx]at hD3;have JD:x.2=1\/x.2=-1:=Ol (gL e2);have Lu:H1 D=none:=hD;refine⟨D',_,rfl,SqL.of hD3,x.2,_,rfl,rfl,IntMulOk.of_left (by rcases JD with e |e<;>rw [e]<;>decide),_,s3 _ _ j8,?_,fun b o e=>?_,?_⟩
    ·rw [aW,aW,lX,ak,wg];omega
    ·rw [aj (ba e Lu)];exact s3 _ _ (s2 _ _ e)
    ·rw [Z2j,mK,e2,fO,fO];have:(x.1.atoms.map Fk.Atom.charge).sum=Fk.Mol.charge x.1:=by
      unfold Fk.Mol.charge;have:=HW (x.1.atoms.map Fk.Atom.charge) 0;rw [Int.zero_add]at this;exact this.symm
     rw [this];rfl
  ·rintro H2 ⟨s2,j8⟩;rw [aW,lt,<-wg,qx,<-Pa]at j8;exact k H2 D (s1.trans s2) (s1.free hD) j8
end
def nV(n:Nat):V:=.int (n:Int)
def iN(c:List Nat):List Int:=c.map fun n:Nat=>(n:Int)
theorem Dd(c:List Nat):c.map nV=(iN c).map V.int:=by unfold iN;rw [jM];rfl
theorem Zbg{ks us:List Fk.Key}(nd:ks.Nodup)(mem:∀ k,k∈ks↔k∈us){qs:List (Int×Int)}(hp:qs.Perm (ks.map ip))(hs:qs.Pairwise fun x y=>¬ y9 y x):qs=(Fk.keysOf us).map ip:=by
 obtain⟨ls,Rs,rfl⟩:=Jd hp rfl;congr 1;have nd:ls.Nodup:=Rs.nodup_iff.mpr nd;refine OI ?_ (NL us) fun x=>?_
 ·rw [List.pairwise_map]at hs;refine List.Pairwise.imp₂ (fun x y h1 h2=>?_) hs nd;refine Bf.tri (fun z=>h1 ?_) (Ne.symm h2);unfold Bf at z;unfold y9 ip;dsimp only;omega
 ·rw [Rs.mem_iff,mem,IC]
theorem Px:∀ (a b c d:List Int),a.length=c.length->LA.dot (a++b) (c++d)=LA.dot a c+LA.dot b d
 |[],b,[],d,_=>by simp [LA.dot]
 |x::a,b,y::c,d,h=>by
  show x*y+LA.dot (a++b) (c++d)=(x*y+LA.dot a c)+LA.dot b d;rw [Px a b c d (by simpa using h)];omega
theorem Pj:∀ a c:List Int,LA.dot a (c.take a.length)=LA.dot a c
 |[],c=>by cases c<;>rfl
 |x::a,[]=>rfl
 |x::a,y::c=>by
  show x*y+LA.dot a (c.take a.length)=x*y+LA.dot a c;rw [Pj a c]
theorem Jf(g:Fk.Mol->Int):∀ (l:List Fk.Mol)(c:List Nat),Fk.sideSum l c g=LA.dot (l.map g) (iN c)
 |[],c=>by cases c<;>rfl
 |M::l,[]=>rfl
 |M::l,n::c=>by
  have ih:=Jf g l c;unfold Fk.sideSum at *
  rw [HW]at *
  rw [E9,ej,List.sum_cons];show 0+((n:Int)*g M+_)=g M*(n:Int)+LA.dot (l.map g) (iN c);rw [<-ih,Int.mul_comm];omega
theorem Pe:∀ (a b:List Int),LA.dot (a.map fun x=>-x) b=-(LA.dot a b)
 |[],b=>by cases b<;>rfl
 |x::a,[]=>rfl
 |x::a,y::b=>by
  rw [ej];unfold LA.dot;rw [Pe a b,Int.neg_mul];omega
theorem Ft{q:Fk.Equation}{c:List Nat}(g:Fk.Mol->Int)(h:q.left.length<=c.length):q.keeps c g=true↔LA.dot (q.side g) (iN c)=0:=by
 have e:iN c=iN (c.take q.left.length)++iN (c.drop q.left.length):=by unfold iN;rw [<-fO,List.take_append_drop]
 have e2:Fk.sideSum q.left c g=LA.dot (q.left.map g) (iN (c.take q.left.length)):=by
  rw [Jf,<-Pj (q.left.map g) (iN c),aW];unfold iN;rw [List.map_take]
 have e3:(q.right.map fun M=>-(g M))=(q.right.map g).map fun x=>-x:=by rw [jM];rfl
 unfold Fk.Equation.keeps Fk.Equation.side;rw [e2,Jf,e,Px _ _ _ _ (by unfold iN;rw [aW,aW,lX];omega),e3,Pe,aJ]
 omega
def gR(E:Fk.Equation)(c:List Nat):Prop:=c.length=E.left.length+E.right.length/\∀ x∈c,x≠0
def iP(q:Fk.Equation)(c:List Nat):List Int:=match q.lost c with
 |some k=>[0,(k.1:Int),(k.2:Int)]
 |none=>[1,0,0]
section
variable{P:Program}{w:World}{K:aq}{mg:Str->Option Value}{base:Heap}{CF CR fF CA CB CM CQ CW CN CT:Addr}
def O9(K:aq)(CW CA CB CM CQ:Addr):Sp:=fun vs H Q E=>∃ (er ll rl a:Addr)(ls rs:List Addr)(q:Fk.Equation)(c:List Nat),vs=[.ref er,.ref a]/\EqAt CQ CM CA CB H er ll rl ls rs q/\SqL K H a (c.map nV) /\
 (gR q c->Q .non H)/\(¬ gR q c->E (.ref CW) none H)
theorem pT:cX ["equation","numbers"] ["equation","numbers"] (bo Hi):=⟨rfl,rfl,rfl,by decide +kernel,rfl,by decide +kernel,by decide +kernel⟩
theorem Ou(c:List Nat):F1 (.int 0) (c.map nV)=true↔¬ ∀ x∈c,x≠0:=by
 unfold F1;rw [List.any_map,List.any_eq_true];constructor
 ·rintro⟨x,hx,e⟩ h;have e':qF (nV x) (.int 0)=true:=e;unfold qF nV at e';exact h x hx (by simpa using e')
 ·intro h;by_cases z:∃ x∈c,x=0
  ·obtain⟨x,hx,rfl⟩:=z;exact⟨0,hx,rfl⟩
  ·exact absurd (fun x hx e=>z ⟨x,hx,e⟩) h
theorem oR{f:Addr}{fd:FuncData}(F:Fun K "refuse_numbers" "refuse_numbers" Hi f fd)(T:TQ K CQ)(xw:XP K CW)(mW:mg "WrongNumbers" = some (.ref CW))(bQ:mg "len" = none):
  am P w K mg base (gP P w) 2 f fd ["equation","numbers"] (O9 K CW CA CB CM CQ):=by
 refine kZ F pT (fun vs H Q E h=>?_) (fun bq A outer s H vs Q E hr h=>?_)
 ·obtain⟨er,ll,rl,a,ls,rs,q,c,rfl,_⟩:=h;rfl
 ·obtain⟨er,ll,rl,a,ls,rs,q,c,rfl,hq,ha,k1,k2⟩:=h;obtain⟨de,he⟩:=hq.top;refine⟨_,bh (b8 (PW.pt (jA (gr d5 (l7 rj (by rfl) bQ PySem.boot_len (ao (pv 1) aE)) (a0 kJ (l7 rj (by rfl) bQ PySem.boot_len (ao (br (pv 0) rfl) aE)) (l7 rj (by rfl) bQ PySem.boot_len (ao (br (pv 0) rfl) aE))) (eT _))
   (FI (gr Zbu bz (pv 1) rfl)))) (bh (Zbn xw rfl rfl rfl mW rD)) io),?_⟩
  refine⟨_,rfl,a,_,rfl,.inl ha,_,rfl,er,CQ,de,_,_,rfl,he,T.cl,T.nl,Om _ _,ll,_,rfl,.inl (SqL.of hq.lel),_,rfl,er,CQ,de,_,_,rfl,he,T.cl,T.nr,OG _ _,rl,_,rfl,.inl (SqL.of hq.ril),_,_,rfl,rfl,rfl,_,rfl,bu (fun hc=>?_) (fun hc=>?_)⟩
  ·refine k2 fun z=>?_;have h1:=z.1;rw [<-hq.les.1,<-hq.ris.1]at h1;rw [aW,aW,aW,h1]at hc;simp at hc
  ·refine⟨_,rfl,a,_,rfl,.inl ha,rfl,by rw [List.all_map];exact uK.mpr fun _ _=>rfl,_,rfl,bu (fun gN=>?_) (fun gN=>?_)⟩
   ·exact k2 fun z=>(Ou c).mp gN z.2
   ·refine k1 ⟨?_,?_⟩
    ·rw [<-hq.les.1,<-hq.ris.1];rw [aW,aW,aW]at hc;by_cases z:c.length=ls.length+rs.length
     ·exact z
     ·exact absurd (by simp;omega) hc
    ·by_cases z:∀ x∈c,x≠0
     ·exact z
     ·exact absurd ((Ou c).mpr z) gN
def qd(K:aq)(CA CB CM CQ:Addr):Sp:=fun vs H Q _=>∃ (er ll rl a:Addr)(ls rs:List Addr)(q:Fk.Equation)(c:List Nat),vs=[.ref er,.ref a]/\EqAt CQ CM CA CB H er ll rl ls rs q/\q.left.length<=8/\q.right.length<=8/\SqL K H a (c.map nV)/\gR q c/\(∀ n∈c,n<2 ^ 64) /\
 ∀ H' l,L2.Same H H'->H l=none->H' l=some (.lst ((iP q c).map V.int))->Q (.ref l) H'
theorem kh:cX ["equation","numbers","units","unit"] ["equation","numbers"] (bo Ii):=⟨rfl,rfl,rfl,by decide +kernel,rfl,by decide +kernel,by decide +kernel⟩
theorem OM(q:Fk.Equation)(g:Fk.Mol->Int):(q.side g).length=q.left.length+q.right.length:=by unfold Fk.Equation.side;simp
theorem vj{c:List Nat}(hc:∀ n∈c,n<2 ^ 64)(xs:List Int):∀ (i:Nat)(x y:Int),xs[i]?=some x->(iN c)[i]?=some y->IntMulOk x y:=fun i x y _ h=>by
 unfold iN at h;rw [dQ]at h;cases e:c[i]? with
 |none=>rw [e]at h;cases h
 |some n =>
  rw [e]at h;cases h;have:=hc n (gL e);have e64:(2:Nat) ^ 64=18446744073709551616:=by decide
  rw [e64]at this;exact IntMulOk.of_right (intBits_le_64 (by show _<(n:Int);omega) (by show(n:Int)<_;omega))
set_option maxHeartbeats 1000000 in
theorem x6{f fU fP fC:Addr}{fd BH Qz BB:FuncData}(F:Fun K "kept_row" "kept_row" Ii f fd)(ms:mg "sorted" = none)
  (GU:am P w K mg base CX0 3 fU BH ["equation"] (P8 K P w CA CB CM CQ))(mU:mg "unit_rows" = some (.ref fU))(kU:PySem.W.keepIn K (.ref fU)=true)(bU:Binds K BH ["equation"] [])
  (GP:am P w K mg base CX0 1 fP Qz ["row","other"] (qf K))(mP:mg "product" = some (.ref fP))(kP:PySem.W.keepIn K (.ref fP)=true)(bP:Binds K Qz ["row","other"] [])
  (GC:am P w K mg base CX0 2 fC BB ["equation"] (vD CA CB CM CQ))(mC:mg "charge_row" = some (.ref fC))(kC:PySem.W.keepIn K (.ref fC)=true)(bC:Binds K BB ["equation"] []):
  am P w K mg base CX0 4 f fd ["equation","numbers"] (qd K CA CB CM CQ):=by
 refine F.ok kh (fun vs H Q E h=>?_) (fun bq A outer s H vs Q E hr h=>?_)
 ·obtain⟨er,ll,rl,a,ls,rs,q,c,rfl,_⟩:=h;rfl
 ·obtain⟨er,ll,rl,a,ls,rs,q,c,rfl,hq,h8,h9,ha,hn,hc,kk⟩:=h;have hu:=eF hr;have iK:Room 1 _:=hr.mono (by decide)
  have eh:Room 2 _:=hr.mono (by decide)
  have ka:Room 3 _:=hr.mono (by decide)
  rw [Dd]at ha;refine⟨_,aO (dj (i:=2) kh.nd rfl (Or.inl rfl) (fQ GU ka rfl mU kU bU .nil aC (ao (pv 0) aE)))
   (aO (lI PassesOwn.never rfl (qy (l7 (Zbc rfl) (by rfl) ms boot_sorted (ao (oZ (pv 2)) aE))) (eU (i:=3) kh.nd rfl (Or.inl rfl))
     (bh (b8 (gr d5 (fQ GP iK rfl mP kP bP .nil aC (ao (PH hu (pv 2) (pv 3) (fun _ _=>rfl)) (ao (pv 1) aE))) bz (eT _))
       (bh (dL (mO (ao bz (ao (dq zy (pv 3) bz (fun _ _=>rfl)) (ao (dq zy (pv 3) bz (fun _ _=>rfl)) aE)))))) io)))
   (aO (b8 (gr d5 (fQ GP iK rfl mP kP bP .nil aC (ao (fQ GC eh rfl mC kC bC .nil aC (ao (pv 0) aE)) (ao (pv 1) aE))) bz (eT _))
     (bh (dL (mO (ao bz (ao bz (ao bz aE)))))) io)
   (bh (dL (mO (ao bz (ao bz (ao bz aE)))))))),?_⟩
  refine⟨_,rfl,er,ll,rl,ls,rs,q,rfl,hq,h8,h9,fun H1 d ks ci s1 nd na t1 mem lks=>?_⟩;have D1:=t1.dx;refine⟨_,rfl,d,_,rfl,D1,fun v hv=>?_⟩;have s2:L2.Same H1 (upd H1 v (qW v d)):=RD.Same.new hv;have D2:=D1.same s2;have hks:(kf ks ci).map (·.1)=(ks.map ip).map pk:=by
   unfold kf;rw [jM,jM];have e:((fun x:List Key×V=>x.1) ∘ fun x:Fk.Key×Addr=>(pk (ip x.1),V.ref x.2))=(pk ∘ ip) ∘ fun x:Fk.Key×Addr=>x.1:=rfl;rw [e,<-jM,List.map_fst_zip (by rw [t1.len];exact bO _)]
  refine⟨v,d,_,_,rfl,Z2j,D2,hks,fun p qs uT hp pq KO bQ hsq=>?_⟩;have Qm:=Zbg t1.nd mem pq KO;have eK:Fk.keysOf (q.all.flatMap Fk.Mol.units)=q.keys:=rfl;rw [eK]at Qm;subst Qm;rw [aW]at bQ;have s3:L2.Same (upd H1 v (qW v d)) (upd (upd H1 v (qW v d)) p (.lst (uT.map V.ref))):=RD.Same.new hp;generalize lP:upd (upd H1 v (qW v d)) p (.lst (uT.map V.ref))=H3 at s3;have zU:H3 p=some (.lst (uT.map V.ref)):=by rw [<-lP];exact Z2j
  have Rz:=s2.trans s3;have Gg:=s1.trans Rz;have t3:=t1.same Rz;have lc:q.left.length<=c.length:=by rw [hn.1];omega
  have eL:iP q c=match q.keys.find? fun k=>!q.keeps c fun M=>(Fk.countIn M.units k:Nat)with
   |some k=>[0,(k.1:Int),(k.2:Int)]
   |none=>if q.keeps c Fk.Mol.charge=true then[1,0,0]else[0,0,0]:=by
   unfold iP Fk.Equation.lost;cases q.keys.find? fun k=>!q.keeps c fun M=>(Fk.countIn M.units k:Nat)with
   |some k=>rfl
   |none =>
    dsimp only;by_cases h:q.keeps c Fk.Mol.charge=true
    ·rw [ae h,ae h]
    ·rw [ac h,ac h];rfl
  refine⟨p,rfl,⟨_,SqL.of zU⟩,Fi (K:=K) (a:=p) (xs:=uT.map V.ref) (fun i σ H'=>∃ v3:Option V,σ=[some (.ref er),some (.ref a),some (.ref d),v3]/\L2.Same H3 H'/\∀ k∈q.keys.take i,(q.keeps c fun M=>(Fk.countIn M.units k:Nat))=true)
   ⟨none,rfl,L2.Same.refl _,fun k hk=>by simp at hk⟩ (fun i σ H' _ ⟨_,_,s',_⟩=>SqL.of (s' _ _ zU)) ?_ ?_⟩
  ·rintro i y σ H4 hi ⟨v3,rfl,s4,dM⟩;obtain⟨b,hb,rfl⟩:∃ b,uT[i]?=some b/\y=V.ref b:=by
    rw [dQ]at hi;cases e:uT[i]? with
    |none=>rw [e]at hi;cases hi
    |some b=>rw [e]at hi;exact⟨b,rfl,(Option.some.inj hi).symm⟩
   have lb:i<q.keys.length:=by rw [<-bQ];exact(eg.mp hb).1
   have hk:q.keys[i]?=some q.keys[i]:=dv lb;generalize q.keys[i]=u at hk;have RC:SqT K H4 b ((pk (ip u)).map kV):=RD.Same.sqT (s3.trans s4) (hsq i (ip u) b (by rw [dQ,hk];rfl) hb)
   have um:u∈ks:=by
    rw [mem u,<-IC];exact gL hk
   have t4:=t3.same s4;obtain⟨pp,ra,g1,g2,g3,g4⟩:=t4.get um;rw [pM]at g4;refine⟨_,rfl,_,rfl,d,b,_,_,_,rfl,rfl,t4.dx,RC,g3,_,rfl,ra,a,_,_,rfl,SqL.of g4,(Gg.trans s4).seq ha,by rw [OM];omega,vj hc _,fun H5 s5=>?_⟩
   refine⟨rfl,_,rfl,bu (fun fV=>?_) (fun fV=>?_)⟩
   ·have nk:¬ (q.keeps c fun M=>(Fk.countIn M.units u:Nat))=true:=fun z=>by
     have:=(Ft (fun M=>((Fk.countIn M.units u:Nat):Int)) lc).mp z;rw [this]at fV;simp at fV
    have JQ:(q.keys.find? fun k=>!q.keeps c fun M=>(Fk.countIn M.units k:Nat))=some u:=by
     rw [List.find?_eq_some_iff_getElem];refine⟨by simpa using nk,i,lb,(eg.mp hk).2,fun j hj=>?_⟩
     have:=dM (q.keys[j]'(by omega)) (List.mem_take_iff_getElem.mpr ⟨j,by omega,rfl⟩)
     rw [this];rfl
    rw [eL,JQ]at kk;have yG:=RD.Same.sqT s5 RC;refine⟨_,rfl,b,_,_,_,rfl,rfl,yG,rfl,_,rfl,b,_,_,_,rfl,rfl,yG,rfl,(by show 3<=sizeLine;decide),fun r qL=>?_⟩
    exact kk _ r (((Gg.trans s4).trans s5).trans (RD.Same.new qL)) (((Gg.trans s4).trans s5).free qL) Z2j
   ·have yk:(q.keeps c fun M=>(Fk.countIn M.units u:Nat))=true:=by
     refine(Ft (fun M=>((Fk.countIn M.units u:Nat):Int)) lc).mpr ?_;by_cases z:LA.dot (q.side fun M=>((Fk.countIn M.units u:Nat):Int)) (iN c)=0
     ·exact z
     ·exact absurd (by simpa using z) fV
    refine⟨_,rfl,s4.trans s5,fun k zS=>?_⟩;rw [mK,hk]at zS;rcases dz.mp zS with h |h
    ·exact dM k h
    ·rw [show k=u by simpa using h];exact yk
  ·rintro σ H4 ⟨v3,rfl,s4,dM⟩;rw [aW,bQ,qx]at dM;have JQ:(q.keys.find? fun k=>!q.keeps c fun M=>(Fk.countIn M.units k:Nat))=none:=by
    rw [List.find?_eq_none];intro k hk;rw [dM k hk];simp
   rw [eL,JQ]at kk;have L5:=Gg.trans s4;refine⟨_,rfl,er,ll,rl,ls,rs,q,rfl,hq.same L5,h8,h9,fun H5 l s5 nl hl=>?_⟩;refine⟨_,rfl,l,a,_,_,rfl,SqL.of hl,(L5.trans s5).seq ha,by rw [OM];omega,vj hc _,fun H6 s6=>?_⟩
   have Gf:=(L5.trans s5).trans s6;refine⟨rfl,_,rfl,bu (fun fV=>?_) (fun fV=>?_)⟩
   ·have nk:¬ q.keeps c Fk.Mol.charge=true:=fun z=>by
     have:=(Ft Fk.Mol.charge lc).mp z;rw [this]at fV;simp at fV
    rw [ac nk]at kk;exact⟨(by show 3<=sizeLine;decide),fun r qL=>kk _ r (Gf.trans (RD.Same.new qL)) (Gf.free qL) Z2j⟩
   ·have yk:q.keeps c Fk.Mol.charge=true:=by
     refine(Ft Fk.Mol.charge lc).mpr ?_;by_cases z:LA.dot (q.side Fk.Mol.charge) (iN c)=0
     ·exact z
     ·exact absurd (by simpa using z) fV
    rw [ae yk]at kk;exact⟨(by show 3<=sizeLine;decide),fun r qL=>kk _ r (Gf.trans (RD.Same.new qL)) (Gf.free qL) Z2j⟩
end
end BK
end
section
namespace SP
open RD BK
def toB(z:Int):UInt8:=UInt8.ofNat z.toNat
def Byt(bs:List Int):Prop:=∀ x∈bs,0<=x/\x<=255
def dR(bs:List Int):List UInt8:=bs.map toB
theorem IT{z:Int}(h:0<=z/\z<=255):((toB z).toNat:Int)=z:=by
 unfold toB;rw [UInt8.toNat_ofNat'];omega
theorem uo{x y:Int}(hx:0<=x/\x<=255)(hy:0<=y/\y<=255)(h:toB x=toB y):x=y:=by
 rw [<-IT hx,<-IT hy,h]
theorem Byt.drop{bs:List Int}(h:Byt bs)(n:Nat):Byt (bs.drop n):=fun x hx=>h x (List.mem_of_mem_drop hx)
theorem Byt.take{bs:List Int}(h:Byt bs)(n:Nat):Byt (bs.take n):=fun x hx=>h x (List.mem_of_mem_take hx)
theorem rA(bs:List Int):(dR bs).length=bs.length:=aW ..
theorem Ir(bs:List Int)(n:Nat):(dR bs).drop n=dR (bs.drop n):=(List.map_drop ..).symm
theorem On(bs:List Int)(n:Nat):(dR bs).take n=dR (bs.take n):=(List.map_take ..).symm
theorem oM:∀ {l:List Int},Byt l->((Fk.num (dR l):Nat):Int)=fu l
 |[],_=>rfl
 |a::l,h=>by
  have ih:=oM (l:=l) fun x hx=>h x (dk _ hx);have ha:=IT (h a (cZ ..));show(((toB a).toNat+256*Fk.num (dR l):Nat):Int)=a+256*fu l;rw [<-ih];omega
def tf(e:Int×Int):Fk.Fault:=⟨e.1.toNat,e.2.toNat⟩
theorem kt{bs:List Int}{p k:Nat}{lo hi:Int}{BP:Nat->Bool}(hb:Byt bs)(hp:p<=bs.length)(hg:∀ v:Nat,BP v=true↔lo<=(v:Int)/\(v:Int)<=hi):
  Fk.numIn k BP ((dR bs).drop p) p=match aX bs p k lo hi with
   |.error e=>.error (tf e)
   |.ok v=>.ok (v.toNat,(dR bs).drop (p+k),p+k):=by
 unfold Fk.numIn aX;rw [AR,rA];by_cases h1:bs.length<p+k
 ·rw [ae h1,ae (by omega)]
  show _=Except.error (tf _);unfold tf;simp only [Except.error.injEq,Fk.Fault.mk.injEq];omega
 ·rw [ac h1,ac (by omega)]
  have e:((Fk.num (((dR bs).drop p).take k):Nat):Int)=fu ((bs.drop p).take k):=by
   rw [Ir,On];exact oM ((hb.drop p).take k)
  by_cases h2:fu ((bs.drop p).take k)<lo\/hi<fu ((bs.drop p).take k)
  ·rw [ae h2,ac (by rw [hg,e];omega)]
   show _=Except.error (tf _);unfold tf;simp only [Except.error.injEq,Fk.Fault.mk.injEq];omega
  ·rw [ac h2,ae (by rw [hg,e];omega)]
   have e3:Fk.num (((dR bs).drop p).take k)=(fu ((bs.drop p).take k)).toNat:=by omega
   rw [e3,List.drop_drop]
theorem OA{bs ms:List Int}(hb:Byt bs)(hm:Byt ms):∀ (i:Nat),i<=ms.length->i<=bs.length->(∀ j<i,bs[j]?=ms[j]?) ->
  (match (List.range' i (ms.length-i)).find? fun j=>(dR bs)[j]? != (dR ms)[j]? with
    |some j=>(.error ⟨if j<(dR bs).length then 1 else 5,min j (dR bs).length⟩:Except Fk.Fault (Fk.Bytes×Nat))
    |none=>.ok ((dR bs).drop ms.length,ms.length))=match bY bs i (ms.drop i)with
    |.error e=>.error (tf e)
    |.ok q=>.ok ((dR bs).drop q,q):=by
 intro i hi QO hj;by_cases cg:i<ms.length
 ·have e1:ms.length-i=(ms.length-(i+1))+1:=by omega
  rw [e1,List.range'_succ,qY,Hd cg];unfold bY;have em:(dR ms)[i]?=some (toB ms[i]):=by unfold dR;rw [dQ,dv cg];rfl
  by_cases sJ:i=bs.length
  ·rw [ae sJ];have eb:(dR bs)[i]?=none:=by rw [zk,rA];omega
   rw [eb,em];simp only [gU,F6,reduceCtorEq,bD];rw [show(none != some (toB ms[i]))=true from rfl];simp only [rA];rw [ac (by omega)]
   unfold tf;simp only [Except.error.injEq,Fk.Fault.mk.injEq];omega
  ·rw [ac sJ];have jj:i<bs.length:=by omega
   have eb:(dR bs)[i]?=some (toB bs[i]):=by unfold dR;rw [dQ,dv jj];rfl
   have q1:=hb _ (AI jj);have q2:=hm _ (AI cg);rw [eb,em,dv jj];by_cases bV:bs[i]=ms[i]
   ·rw [bV,ac (by simp)]
    rw [show(some (toB ms[i]) != some (toB ms[i]))=false by simp]
    refine OA hb hm (i+1) (by omega) (by omega) fun j qJ=>?_
    by_cases hji:j=i
    ·subst hji;rw [dv jj,dv cg,bV]
    ·exact hj j (by omega)
   ·rw [ae (by simpa using bV)]
    have KG:(some (toB bs[i]) != some (toB ms[i]))=true:=by
     rw [gU];intro h;exact bV (uo q1 q2 (Option.some.inj h))
    rw [KG];simp only [rA];rw [ae jj];unfold tf;simp only [Except.error.injEq,Fk.Fault.mk.injEq];omega
 ·have e1:ms.length-i=0:=by omega
  have e2:i=ms.length:=by omega
  subst e2;rw [e1,List.drop_length];rfl
 termination_by i=>ms.length-i
theorem PX{bs ms:List Int}(hb:Byt bs)(hm:Byt ms):Fk.mark (dR ms) (dR bs)=match bY bs 0 ms with
   |.error e=>.error (tf e)
   |.ok q=>.ok ((dR bs).drop q,q):=by
 have h:=OA hb hm 0 (fk _) (fk _) (fun j hj=>absurd hj (Nat.not_lt_zero _));rw [List.drop_zero,zj]at h;rw [<-h];unfold Fk.mark;rw [rA,List.range_eq_range'];rfl
end SP
end
section
namespace SP
open RD BK EX
theorem O2{bs:List Int}(hb:Byt bs):∀ (k p:Nat),p<=bs.length ->
  Fk.atomsIn k ((dR bs).drop p) p=match jn bs k p with
   |.error e=>.error (tf e)
   |.ok l=>.ok (l,(dR bs).drop (p+6*k),p+6*k)
 |0,p,hp=>rfl
 |k+1,p,hp=>by
  rw [Ij];unfold eR Fk.atomsIn;rw [kt (lo:=1) (hi:=118) hb hp (fun v=>by rw [i3,ag,ag,show Fk.ELEMENTS=118 from rfl];omega)]
  cases e1:aX bs p 1 1 118 with
  |error e=>rfl
  |ok x =>
   obtain⟨q1,q2,q3,_⟩:=dB e1;simp only [Fk.andThen];rw [kt (lo:=0) (hi:=500) hb q1 (fun v=>by rw [ag,show Fk.ISOTOPE=500 from rfl];omega)]
   cases e2:aX bs (p+1) 2 0 500 with
   |error e=>rfl
   |ok y =>
    obtain⟨r1,r2,r3,_⟩:=dB e2;simp only [];rw [kt (lo:=0) (hi:=8) hb r1 (fun v=>by rw [ag];omega),show p+1+2=p+3 from rfl]
    cases e3:aX bs (p+3) 1 0 8 with
    |error e=>rfl
    |ok c =>
     obtain⟨s1,s2,s3,_⟩:=dB e3;simp only [];rw [kt (lo:=0) (hi:=7) hb s1 (fun v=>by rw [ag];omega),show p+3+1=p+4 from rfl]
     cases e4:aX bs (p+4) 1 0 7 with
     |error e=>rfl
     |ok h =>
      obtain⟨t1,t2,t3,_⟩:=dB e4;simp only [];rw [kt (lo:=0) (hi:=2) hb t1 (fun v=>by rw [ag];omega),show p+4+1=p+5 from rfl]
      cases e5:aX bs (p+5) 1 0 2 with
      |error e=>rfl
      |ok s =>
       obtain⟨u1,u2,u3,_⟩:=dB e5;simp only [];rw [show p+5+1=p+6 from rfl,O2 hb k (p+6) (by omega)]
       cases jn bs k (p+6)with
       |error e=>rfl
       |ok l =>
        simp only [];rw [show p+6+6*k=p+6*(k+1) by omega,lE (by omega:0<=c)]
def Nz(ml:Option (Nat×Nat))(b:Int×Int):Prop:=(ml=none/\b=(0,0))\/(ml=some (b.1.toNat,b.2.toNat)/\0<=b.1/\0<=b.2)
theorem wO{ml:Option (Nat×Nat)}{b:Int×Int}{x y:Int}:Nz ml b->0<=x->x+1<=y ->
  (match ml with |some (u,w)=>decide (u<x.toNat) ||(u==x.toNat&&decide (w<y.toNat)) |none=>true) = !cN [x,y] [b.1,b.2]:=by
 intro h hx hy;rcases h with⟨rfl,rfl⟩ |⟨rfl,h1,h2⟩
 ·have:¬ cN [x,y] [0,0]=true:=by rw [BK.ZbS];omega
  simp only [Bool.not_eq_true]at this;rw [this];rfl
 ·have e:(decide (b.1.toNat<x.toNat) ||(b.1.toNat==x.toNat&&decide (b.2.toNat<y.toNat)))=true↔b.1<x\/(b.1=x/\b.2<y):=by
   rw [Bool.or_eq_true,i3,ag,ag,aJ];omega
  show(decide (b.1.toNat<x.toNat) ||(b.1.toNat==x.toNat&&decide (b.2.toNat<y.toNat)))=_;cases h3:cN [x,y] [b.1,b.2]with
  |true =>
   rw [BK.ZbS]at h3;have:¬ (decide (b.1.toNat<x.toNat) ||(b.1.toNat==x.toNat&&decide (b.2.toNat<y.toNat)))=true:=by rw [e];omega
   simpa using this
  |false =>
   have h4:¬ cN [x,y] [b.1,b.2]=true:=by rw [h3];decide
   rw [BK.ZbS]at h4;show _=true;rw [e];omega
theorem Pk{bs:List Int}(hb:Byt bs)(n:Nat):∀ (k p:Nat)(ml:Option (Nat×Nat))(b:Int×Int),p<=bs.length->Nz ml b ->
  Fk.bondsIn n k ml ((dR bs).drop p) p=match jp bs (n:Int) k p b with
   |.error e=>.error (tf e)
   |.ok l=>.ok (l,(dR bs).drop (p+4*k),p+4*k)
 |0,p,ml,b,hp,hh=>rfl
 |k+1,p,ml,b,hp,hh=>by
  rw [Im];unfold eS Fk.bondsIn;rw [kt (lo:=0) (hi:=(n:Int)-1) hb hp (fun v=>by rw [ag];omega)]
  cases e1:aX bs p 1 0 ((n:Int)-1)with
  |error e=>rfl
  |ok x =>
   obtain⟨q1,q2,q3,_⟩:=dB e1;simp only [Fk.andThen];rw [kt (lo:=x+1) (hi:=(n:Int)-1) hb q1 (fun v=>by rw [i3,ag,ag];omega)]
   cases e2:aX bs (p+1) 1 (x+1) ((n:Int)-1)with
   |error e=>rfl
   |ok y =>
    obtain⟨r1,r2,r3,_⟩:=dB e2;simp only [];generalize hc:Fk.need _ 3 p=g;have hg:g=Fk.need (!cN [x,y] [b.1,b.2]) 3 p:=by rw [<-hc];exact au (fun c=>Fk.need c 3 p) (wO hh q2 r2)
    rw [hg];unfold Fk.need;cases e3:cN [x,y] [b.1,b.2]with
    |true =>
     rw [ac (by decide)]
     unfold tf;simp
    |false =>
     rw [ae (by decide)]
     simp only [];rw [kt (lo:=1) (hi:=3) hb r1 (fun v=>by rw [i3,ag,ag];omega),show p+1+1=p+2 from rfl]
     cases e4:aX bs (p+2) 1 1 3 with
     |error e=>rfl
     |ok o =>
      obtain⟨s1,s2,s3,_⟩:=dB e4;simp only [];rw [kt (lo:=0) (hi:=2) hb s1 (fun v=>by rw [ag];omega),show p+2+1=p+3 from rfl]
      cases e5:aX bs (p+3) 1 0 2 with
      |error e=>rfl
      |ok z =>
       obtain⟨t1,t2,t3,_⟩:=dB e5;simp only [];rw [show p+3+1=p+4 from rfl];rw [Pk hb n k (p+4) (some (x.toNat,y.toNat)) ((x.toNat:Int),(y.toNat:Int)) (by omega) (.inr ⟨by simp;omega,by show 0<=((x.toNat:Nat):Int);omega,by show 0<=((y.toNat:Nat):Int);omega⟩)]
       simp only [ac (show ¬ (false=true) by decide)]
       cases jp bs (n:Int) k (p+4) ((x.toNat:Int),(y.toNat:Int))with
       |error e=>rfl
       |ok l =>
        simp only [];rw [show p+4+4*k=p+4*(k+1) by omega]
theorem Z9U{bs:List Int}(hb:Byt bs):Fk.judgeMol (dR bs)=match jb bs with
   |.error e=>.error (tf e)
   |.ok M=>.ok M:=by
 unfold Fk.judgeMol jb rH;rw [show Fk.MOLMARK=dR [70,75,77,49]from rfl,PX hb (by intro x hx;simp at hx;omega)]
 cases e1:bY bs 0 [70,75,77,49]with
 |error e=>rfl
 |ok p =>
  have hp:=A2 (fk _) e1;simp only [Fk.andThen];rw [kt (lo:=0) (hi:=128) hb hp (fun v=>by rw [ag,show Fk.ATOMS=128 from rfl];omega)]
  cases e2:aX bs p 1 0 128 with
  |error e=>rfl
  |ok n =>
   obtain⟨q1,q2,q3,_⟩:=dB e2;simp only [];rw [kt (lo:=0) (hi:=192) hb q1 (fun v=>by rw [ag,show Fk.BONDS=192 from rfl];omega)]
   cases e3:aX bs (p+1) 1 0 192 with
   |error e=>rfl
   |ok m =>
    obtain⟨r1,r2,r3,_⟩:=dB e3;simp only [];rw [show p+1+1=p+2 from rfl,O2 hb n.toNat (p+2) (by omega)]
    cases e4:jn bs n.toNat (p+2)with
    |error e=>rfl
    |ok as =>
     simp only [];have a4:=IF e4 (by omega)
     rw [Pk hb n.toNat m.toNat (p+2+6*n.toNat) none (0,0) (by omega) (.inl ⟨rfl,rfl⟩),lE q2]
     cases e5:jp bs n m.toNat (p+2+6*n.toNat) (0,0)with
     |error e=>rfl
     |ok ds =>
      simp only [Fk.need];have hl:((dR bs).drop (p+2+6*n.toNat+4*m.toNat)).isEmpty=true↔¬ p+2+6*n.toNat+4*m.toNat<bs.length:=by
       rw [List.isEmpty_iff,List.drop_eq_nil_iff,rA];omega
      by_cases cg:p+2+6*n.toNat+4*m.toNat<bs.length
      ·rw [ae cg,ac (by rw [hl];omega)]
       unfold tf;simp only [Except.error.injEq,Fk.Fault.mk.injEq];omega
      ·rw [ac cg,ae (hl.mpr cg)];simp only [];cases e6:(List.range (Fk.Mol.n ⟨as,ds⟩)).find? (fun v=>(Fk.Mol.atom ⟨as,ds⟩ v).hand != 0&&!Fk.Mol.handed ⟨as,ds⟩ v)with
       |some v =>
        simp only [];unfold tf;simp only [Except.error.injEq,Fk.Fault.mk.injEq];omega
       |none =>
        simp only [];cases e7:(List.range ds.length).find? (fun j=>(ds[j]?.map Fk.Bond.side).getD 0 != 0&&!Fk.Mol.sided ⟨as,ds⟩ j)with
        |some v =>
         simp only [];unfold tf;simp only [Except.error.injEq,Fk.Fault.mk.injEq];omega
        |none=>rfl
theorem Zbe{bs:List Int}(hb:Byt bs):SumNeutral.bytes bs=some (dR bs):=by
 unfold SumNeutral.bytes NeutralIO.bytes;rw [ae]
 ·rfl
 ·rw [uK];intro x hx;have:=hb x hx;simp only [i3,ag];omega
theorem Iu{bs:List Int}:∀ {ms:List Int}{p:Nat}{e:Int×Int},bY bs p ms=.error e->0<=e.1/\0<=e.2
 |[],p,e,h=>by unfold bY at h;cases h
 |m::ms,p,e,h=>by
  unfold bY at h;split at h
  ·cases h;simp
  ·split at h
   ·cases h;simp
   ·exact Iu h
theorem kF{bs:List Int}{p k:Nat}{lo hi:Int}{e:Int×Int}(h:aX bs p k lo hi=.error e):0<=e.1/\0<=e.2:=by
 unfold aX at h;split at h
 ·cases h;simp
 ·split at h
  ·cases h;simp
  ·cases h
theorem nv{bs:List Int}{p:Nat}{e:Int×Int}(h:eR bs p=.error e):0<=e.1/\0<=e.2:=by
 unfold eR at h;split at h
 ·cases h;rename_i h;exact kF h
 ·split at h
  ·cases h;rename_i h;exact kF h
  ·split at h
   ·cases h;rename_i h;exact kF h
   ·split at h
    ·cases h;rename_i h;exact kF h
    ·split at h
     ·cases h;rename_i h;exact kF h
     ·cases h
theorem OW{bs:List Int}:∀ {k p:Nat}{e:Int×Int},jn bs k p=.error e->0<=e.1/\0<=e.2
 |0,p,e,h=>by cases h
 |k+1,p,e,h=>by
  rw [Ij]at h;split at h
  ·cases h;rename_i h;exact nv h
  ·split at h
   ·cases h;rename_i h;exact OW h
   ·cases h
theorem nB{bs:List Int}{n:Int}{p:Nat}{b:Int×Int}{e:Int×Int}(h:eS bs n p b=.error e):0<=e.1/\0<=e.2:=by
 unfold eS at h;split at h
 ·cases h;rename_i h;exact kF h
 ·split at h
  ·cases h;rename_i h;exact kF h
  ·split at h
   ·cases h;simp
   ·split at h
    ·cases h;rename_i h;exact kF h
    ·split at h
     ·cases h;rename_i h;exact kF h
     ·cases h
theorem OF{bs:List Int}{n:Int}:∀ {k p:Nat}{b:Int×Int}{e:Int×Int},jp bs n k p b=.error e->0<=e.1/\0<=e.2
 |0,p,b,e,h=>by cases h
 |k+1,p,b,e,h=>by
  rw [Im]at h;split at h
  ·cases h;rename_i h;exact nB h
  ·split at h
   ·cases h;rename_i h;exact OF h
   ·cases h
theorem Zbp{bs:List Int}{e:Int×Int}(h:rH bs=.error e):0<=e.1/\0<=e.2:=by
 unfold rH at h;split at h
 ·cases h;rename_i h;exact Iu h
 ·split at h
  ·cases h;rename_i h;exact kF h
  ·split at h
   ·cases h;rename_i h;exact kF h
   ·split at h
    ·cases h;rename_i h;exact OW h
    ·split at h
     ·cases h;rename_i h;exact OF h
     ·split at h
      ·cases h;simp;omega
      ·cases h
theorem PQ{bs:List Int}{e:Int×Int}(h:jb bs=.error e):0<=e.1/\0<=e.2:=by
 unfold jb at h;split at h
 ·cases h;rename_i h;exact Zbp h
 ·split at h
  ·cases h;simp;omega
  ·split at h
   ·cases h;simp;omega
   ·cases h
theorem Lz(b:Fk.Bytes)(p:Nat):Fk.numIn 2 (fun _=>true) b p=Fk.numIn 2 (fun v=>decide (v<=65535)) b p:=by
 unfold Fk.numIn;by_cases h:b.length<2
 ·rw [ae h,ae h]
 ·rw [ac h,ac h]
  match b,h with
  |[],h=>simp at h
  |[_],h=>simp at h
  |x::y::l,_ =>
   have hx:=x.toNat_lt;have hy:=y.toNat_lt;have e:Fk.num (List.take 2 (x::y::l))=x.toNat+256*(y.toNat+256*0):=rfl;rw [e,ae rfl,ae (ai (by omega))]
theorem xO{bs:List Int}(hb:Byt bs){p:Nat}(hp:p<=bs.length):Fk.molIn ((dR bs).drop p) p=match eW bs p with
   |.error e=>.error (tf e)
   |.ok x=>.ok (x.1,(dR bs).drop x.2,x.2):=by
 unfold Fk.molIn eW;rw [Lz,kt (lo:=0) (hi:=65535) hb hp (fun v=>by rw [ag];omega)]
 cases e1:aX bs p 2 0 65535 with
 |error e=>rfl
 |ok n =>
  obtain⟨q1,q2,q3,_⟩:=dB e1;simp only [Fk.andThen,Fk.need];rw [AR,rA,AR,rA];by_cases hl:bs.length<p+2+n.toNat
  ·rw [ae hl,ac (by rw [ag];omega)]
   unfold tf;simp only [Except.error.injEq,Fk.Fault.mk.injEq];omega
  ·rw [ac hl,ae (by rw [ag];omega)]
   simp only [];rw [Ir,On,Z9U ((hb.drop _).take _)];cases e2:jb ((bs.drop (p+2)).take n.toNat)with
   |error e =>
    have:=PQ e2;simp only [];unfold tf;simp only [Except.error.injEq,Fk.Fault.mk.injEq];omega
   |ok M =>
    simp only [];rw [<-Ir,List.drop_drop]
theorem IX{bs:List Int}(hb:Byt bs):∀ (k p:Nat),p<=bs.length->Fk.molsIn k ((dR bs).drop p) p=match bZ bs k p with
   |.error e=>.error (tf e)
   |.ok y=>.ok (y.1,(dR bs).drop y.2,y.2)
 |0,p,hp=>rfl
 |k+1,p,hp=>by
  rw [A5];unfold Fk.molsIn;rw [xO hb hp];cases e:eW bs p with
  |error e'=>rfl
  |ok x =>
   simp only [Fk.andThen];rw [IX hb k x.2 (Fw e)];cases bZ bs k x.2 with
   |error e'=>rfl
   |ok y=>rfl
theorem ZaO{bs:List Int}(hb:Byt bs):Fk.judgeEq (dR bs)=match sk bs with
   |.error e=>.error (tf e)
   |.ok E=>.ok E:=by
 unfold Fk.judgeEq sk;rw [show Fk.EQMARK=dR [70,75,81,49]from rfl,PX hb (by intro x hx;simp at hx;omega)]
 cases e1:bY bs 0 [70,75,81,49]with
 |error e=>rfl
 |ok p =>
  have hp:=A2 (fk _) e1;simp only [Fk.andThen];rw [kt (lo:=1) (hi:=8) hb hp (fun v=>by rw [i3,ag,ag,show Fk.SIDE=8 from rfl];omega)]
  cases e2:aX bs p 1 1 8 with
  |error e=>rfl
  |ok n =>
   obtain⟨q1,q2,q3,_⟩:=dB e2;simp only [];rw [kt (lo:=1) (hi:=8) hb q1 (fun v=>by rw [i3,ag,ag,show Fk.SIDE=8 from rfl];omega)]
   cases e3:aX bs (p+1) 1 1 8 with
   |error e=>rfl
   |ok m =>
    obtain⟨r1,r2,r3,_⟩:=dB e3;simp only [];rw [show p+1+1=p+2 from rfl,IX hb n.toNat (p+2) (by omega)]
    cases e4:bZ bs n.toNat (p+2)with
    |error e=>rfl
    |ok x =>
     have a4:=Po (by omega) e4
     simp only [];rw [IX hb m.toNat x.2 a4.2];cases e5:bZ bs m.toNat x.2 with
     |error e=>rfl
     |ok y =>
      simp only [Fk.need];have hl:((dR bs).drop y.2).isEmpty=true↔¬ y.2<bs.length:=by
       rw [List.isEmpty_iff,List.drop_eq_nil_iff,rA];omega
      by_cases cg:y.2<bs.length
      ·rw [ae cg,ac (by rw [hl];omega)]
       unfold tf;simp
      ·rw [ac cg,ae (hl.mpr cg)]
theorem tm{bs:List Int}{p:Nat}{e:Int×Int}(h:eW bs p=.error e):0<=e.1/\0<=e.2:=by
 unfold eW at h;split at h
 ·cases h;rename_i h;exact kF h
 ·split at h
  ·cases h;exact⟨by show(0:Int)<=5;decide,by show(0:Int)<=((bs.length:Nat):Int);omega⟩
  ·split at h
   ·rename_i e' he;cases h;have:=PQ he;exact⟨by show(0:Int)<=16+e'.1;omega,by show(0:Int)<=((p+2:Nat):Int)+e'.2;omega⟩
   ·cases h
theorem Is{bs:List Int}:∀ {k p:Nat}{e:Int×Int},bZ bs k p=.error e->0<=e.1/\0<=e.2
 |0,p,e,h=>by cases h
 |k+1,p,e,h=>by
  rw [A5]at h;cases e1:eW bs p with
  |error e'=>rw [e1]at h;cases h;exact tm e1
  |ok x =>
   rw [e1]at h;dsimp only at h;cases e2:bZ bs k x.2 with
   |error e'=>rw [e2]at h;cases h;exact Is e2
   |ok y=>rw [e2]at h;cases h
theorem wK{bs:List Int}{e:Int×Int}(h:sk bs=.error e):0<=e.1/\0<=e.2:=by
 unfold sk at h;split at h
 ·cases h;rename_i h;exact Iu h
 ·split at h
  ·cases h;rename_i h;exact kF h
  ·split at h
   ·cases h;rename_i h;exact kF h
   ·split at h
    ·cases h;rename_i h;exact Is h
    ·split at h
     ·cases h;rename_i h;exact Is h
     ·split at h
      ·cases h;simp
      ·cases h
end SP
namespace BK
open PySem PySem.Spec PyProof.Rows L2 EX RD LM
section
variable{P:Program}{w:World}{K:aq}{mg:Str->Option Value}{base:Heap}{CF CR CW CN CT fF CA CB CM CQ:Addr}
def Ed{ι:Type}(CF CW CN CT:Addr)(pre:ι->List V->Hp->Prop)(gE:ι->List Int)(n:Nat):Sp:=fun vs H Q E=>vs.length=n/\∃ x,pre x vs H /\
 (∀ H' t xs,L2.Same H H'->H t=none->H' t=some (.lst (xs.map V.int))->gE x=0::xs->Q (.ref t) H')/\∀ cls d H',Jt CF CW CN CT (gE x) cls d H'->E cls d H'
theorem sq_tbl{K:aq}{H:Hp}{PT a:Addr}{t1 t2:Array Value}{xs:List V}(hP:H PT=none)(h:SqL K H a xs):SqL K (upd (upd H PT (.tbl t1)) PT (.tbl t2)) a xs:=by
 have ne:∀ o,H a=some o->a≠PT:=fun o e z=>by rw [z,hP]at e;cases e
 rcases h with(h |⟨o,h⟩) |h
 ·exact .inl (.inl (by rw [aj (ne _ h),aj (ne _ h)];exact h))
 ·exact .inl (.inr ⟨o,by rw [aj (ne _ h),aj (ne _ h)];exact h⟩)
 ·exact .inr h
end
end BK
end
section
namespace SP
open RD BK EX
theorem Da:∀ (c:List Nat),(c.map fun n:Nat=>(n:Int)).mapM (m:=Option) SumNeutral.nat=some c
 |[]=>rfl
 |a::c=>by
  rw [ej,List.mapM_cons,Da c];have:SumNeutral.nat (a:Int)=some a:=by
   unfold SumNeutral.nat;rw [ac (by omega)]
   simp
  rw [this];rfl
theorem Qe{q:Fk.Equation}{c:List Nat}:q.numbers c=true↔gR q c:=by
 unfold Fk.Equation.numbers gR Fk.Equation.all;rw [i3,aJ,gD,uK];refine rK fun _=>forall_congr' fun x=>forall_congr' fun _=>?_;rw [ag];omega
end SP
namespace BK
open PySem PySem.Spec PyProof.Rows L2 EX RD LM
section
variable{K:aq}
theorem xQ{l:List Int}(h:∀ x∈l,0<=x):(l.map Int.toNat).map nV=l.map V.int:=by
 rw [jM];refine qZ fun x hx=>?_;show V.int ((x.toNat:Nat):Int)=V.int x;rw [lE (h x hx)]
theorem sq_num{H:Hp}{PT a:Addr}{t1 t2:Array Value}{l:List Int}(h:∀ x∈l,0<=x)(hP:H PT=none)(hs:SqL K H a (l.map V.int)):SqL K (upd (upd H PT (.tbl t1)) PT (.tbl t2)) a ((l.map Int.toNat).map nV):=by
 rw [xQ h];exact sq_tbl hP hs
theorem nat_map{l:List Int}(h:∀ x∈l,0<=x):((l.map Int.toNat).map fun n:Nat=>(n:Int))=l:=by
 rw [jM];refine(qZ fun x hx=>?_).trans (List.map_id l);show((x.toNat:Nat):Int)=x;exact lE (h x hx)
theorem toNat_lt{l:List Int}(h:∀ x∈l,0<=x/\x<=18446744073709551615):∀ n∈l.map Int.toNat,n<2 ^ 64:=by
 intro n hn;obtain⟨x,hx,rfl⟩:=i4.mp hn;have:=h x hx;have e:(2:Nat) ^ 64=18446744073709551616:=by decide
 rw [e];omega
end
end BK
namespace BK
open PySem PySem.Spec PyProof.Rows L2 EX RD LM
abbrev Kx:=List Int×List Nat
section
variable{P:Program}{w:World}{K:aq}{mg:Str->Option Value}{base:Heap}{CF CR CW CN CT fF CA CB CM CQ:Addr}
def preK(K:aq)(x:Kx)(vs:List V)(H:Hp):Prop:=∃ a b,vs=[.ref a,.ref b]/\SqL K H a (x.1.map V.int)/\SqL K H b (x.2.map nV)/\(∀ z∈x.1,0<=z/\z<=255)/\(∀ n∈x.2,n<2 ^ 64)
theorem ZbE{x:Kx}{vs:List V}{H H':Hp}(s:L2.Same H H')(h:preK K x vs H):preK K x vs H':=by
 obtain⟨a,b,e,h1,h2,h3⟩:=h;exact⟨a,b,e,s.seq h1,s.seq h2,h3⟩
open Classical in
def gA(x:Kx):List Int:=match sk x.1 with
 |.error e=>[-5,0,e.1,e.2]
 |.ok E=>if gR E x.2 then 0::iP E x.2 else[-1]
theorem DW:cX ["sides","numbers","read"] ["sides","numbers"] (bo Hx):=⟨rfl,rfl,rfl,by decide +kernel,rfl,by decide +kernel,by decide +kernel⟩
theorem yd{f f1 f2 f3:Addr}{fd uY Bz BA:FuncData}(F:Fun K "tell_kept" "tell_kept" Hx f fd)
  (G1:am P w K mg base (CXQ false P w) 13 f1 uY ["form"] (D7 K CF CA CB CM CQ))(m1:mg "read_equation" = some (.ref f1))(k1:PySem.W.keepIn K (.ref f1)=true)(b1:Binds K uY ["form"] [])
  (G2:am P w K mg base (CXQ false P w) 2 f2 Bz ["equation","numbers"] (O9 K CW CA CB CM CQ))(m2:mg "refuse_numbers" = some (.ref f2))(k2:PySem.W.keepIn K (.ref f2)=true)(b2:Binds K Bz ["equation","numbers"] [])
  (G3:am P w K mg base CX0 4 f3 BA ["equation","numbers"] (qd K CA CB CM CQ))(m3:mg "kept_row" = some (.ref f3))(k3:PySem.W.keepIn K (.ref f3)=true)(b3:Binds K BA ["equation","numbers"] []):
  am P w K mg base (CXQ false P w) 14 f fd ["sides","numbers"] (Ed CF CW CN CT (preK K) gA 2):=by
 refine kZ F DW (fun vs H Q E h=>h.1) (fun bq A outer s H vs Q E hr h=>?_);obtain⟨_,x,⟨a,b,rfl,hA,hB,hb,hc64⟩,kk1,kk2⟩:=h;have eh:Room 2 _:=hr.mono (by decide)
 have hr4:Room 4 _:=hr.mono (by decide)
 refine⟨_,aO (dj (i:=2) DW.nd rfl (Or.inl rfl) (fQ G1 hr rfl m1 k1 b1 .nil gv (ao (pv 0) aE)))
  (aO (gT (fQ G2 eh rfl m2 k2 b2 .nil gv (ao (pv 2) (ao (pv 1) aE))))
  (bh (dL (fQ G3 hr4 rfl m3 k3 b3 .nil aC (ao (pv 2) (ao (pv 1) aE)))))),?_⟩
 unfold gA at kk1 kk2;refine⟨_,rfl,a,x.1,rfl,hA,hb,?_⟩;cases e1:sk x.1 with
 |error e =>
  rw [e1]at kk2;exact fun H' dx s1 hd=>kk2 _ _ _ (.inl ⟨rfl,dx,e.1,e.2,0,rfl,hd,rfl⟩)
 |ok E' =>
  rw [e1]at kk1 kk2;dsimp only at kk1 kk2;intro H1 er ll rl ls rs s1 q hl8 hr8;refine⟨_,rfl,_,rfl,er,ll,rl,b,ls,rs,E',x.2,rfl,q,s1.seq hB,fun hn=>?_,fun hn=>?_⟩
  ·rw [ae hn]at kk1;refine⟨_,rfl,_,rfl,er,ll,rl,b,ls,rs,E',x.2,rfl,q,hl8,hr8,s1.seq hB,hn,hc64,fun H2 l s2 nl hl=>?_⟩;exact kk1 H2 l _ (s1.trans s2) (s1.free nl) hl rfl
  ·rw [ac hn]at kk2;exact kk2 _ _ _ (.inr (.inl ⟨rfl,rfl⟩))
theorem ZbV(x:Kx):(gA x).length<=sizeLine:=by
 unfold gA;split
 ·show 4<=sizeLine;decide
 ·split
  ·unfold iP;split<;>(show 4<=sizeLine;decide)
  ·show 1<=sizeLine;decide
end
end BK
namespace SP
open RD BK EX
theorem ZbX{x:Kx}(h1:Byt x.1):PyYqfkea.kept x.1 (x.2.map fun n:Nat=>(n:Int))=gA x:=by
 unfold PyYqfkea.kept SumNeutral.f;have hc:SumNeutral.callOf [[7],x.1,x.2.map fun n:Nat=>(n:Int)]=some (.kept (dR x.1) x.2):=by
  show((SumNeutral.bytes x.1).bind fun p=>((x.2.map fun n:Nat=>(n:Int)).mapM SumNeutral.nat).bind fun c=>some (FkS.Call.kept p c))=_;rw [Zbe h1,Da];rfl
 rw [hc];show SumNeutral.told (FkS.judged 0 (Fk.judgeEq (dR x.1)) _)=_;rw [ZaO h1];unfold gA;cases e:sk x.1 with
 |error e' =>
  have:=wK e;simp only [FkS.judged,SumNeutral.told,tf];simp only [List.cons.injEq,true_and,i6];omega
 |ok E =>
  simp only [FkS.judged];by_cases hn:gR E x.2
  ·rw [ae hn,ae (Qe.mpr hn)];unfold iP;cases E.lost x.2<;>rfl
  ·rw [ac hn,ac (fun z=>hn (Qe.mp z))];rfl
end SP
namespace BK
open PySem PySem.Spec PyProof.Rows L2 EX RD LM
section
variable{P:Program}{w:World}{K:aq}{mg:Str->Option Value}{base:Heap}{CF CR CW CN CT fF CA CB CM:Addr}
def keptF(x:Kx):List Int:=PyYqfkea.kept x.1 (x.2.map fun n:Nat=>(n:Int))
theorem j7:Jp mV ["sides","numbers"] ["sides","numbers"] [0,1]:=⟨⟨rfl,rfl,rfl,by decide +kernel,rfl,by decide +kernel,by decide +kernel⟩,⟨rfl,rfl,rfl,by decide +kernel,by decide +kernel⟩,⟨_,_,_,rfl⟩,fun _=>rfl,by decide +kernel,
 fun j y h=>match j,h with |0,h=>⟨0,rfl,h⟩ |1,h=>⟨1,rfl,h⟩ |j+2,h=>by simp at h,rfl,by decide +kernel,rfl,fun _ _ _ _ _=>rfl⟩
theorem Ds{f fB:Addr}{fd iH:FuncData}{qual:Str}{cl:List (Str×Addr)}{cd:Value}{vs:List V}(L:uB base f fd qual (zo mV) (Bi mV) (rE mV) cl cd ["sides","numbers"] vs)
  (GB:am P w K mg base (CXQ false P w) 14 fB iH ["sides","numbers"] (Ed CF CW CN CT (preK K) gA 2))(mB:mg "tell_kept" = some (.ref fB))(kB:PySem.W.keepIn K (.ref fB)=true)(bB:Binds K iH ["sides","numbers"] []):
  am P w K mg base (CXQ false P w) 15 f fd [] (RB CF CW CN CT (preK K) keptF vs):=by
 refine okL L j7.ls (fun vs H Q E h=>by rw [h.1];rfl) fun A outer s H Q E hr h=>?_
 obtain⟨_,x,⟨a,b,rfl,hx⟩,k1,k2⟩:=h;have e:keptF x=gA x:=SP.ZbX (x:=x) hx.2.2.1;exact⟨_,fQ GB hr rfl mB kB bB .nil ZaQ (ao (pv 0) (ao (pv 1) aE)),⟨_,rfl,_,rfl,rfl,x,⟨a,b,rfl,hx⟩,fun H' t xs s n h q=>k1 H' t xs s n h (e.trans q),fun cls d H' r=>k2 cls d H' (by rw [e];exact r)⟩⟩
end
end BK
end
section
namespace BK
open PySem PySem.Spec PyProof.Rows L2 EX RD LM
open PySem.W (Codec)
abbrev gq(K:aq)(x:Str)(st:Stmt):Prop:=∃ f fd,PySem.W.nsIn K mainGlobals x=some (some (.ref f))/\Fun K x x st f fd
abbrev ij(K:aq)(C:Addr)(x q:Str)(st:Stmt):Prop:=∃ f fd,PySem.W.findIn K (.ref C) x=some (some (.ref f))/\PySem.W.isFn K (.ref f)=true/\Fun K x q st f fd
abbrev uH(K:aq)(x:Str)(C:Addr):Prop:=PySem.W.nsIn K mainGlobals x=some (some (.ref C))/\(PySem.W.plainGet K C Str.empty=true/\PySem.W.hasDictIn K C=true/\PySem.W.plainOver K C=true/\PySem.W.findIn K (.ref C) "__setattr__" = some (some (.builtin "object.__setattr__")))/\PySem.W.makesIn K C=true/\PySem.W.keepIn K (.ref C)=true
abbrev XCi(K:aq)(x:Str)(n:Int):Prop:=∃ t,PySem.W.nsIn K mainGlobals x=some (some (.int n t))
theorem XCi.v{K:aq}{h:Heap}{mg:Str->Option Value}{x:Str}{n:Int}(X:K.In h)(G:h.Ns mainGlobals mg)(c:XCi K x n):∃ u,mg x=some u/\RelV (.int n) u:=by obtain⟨t,c⟩:=c;exact⟨_,dJ X G c,t,rfl⟩
theorem gk{K:aq}{x:Str}{st:Stmt}(f:Addr)(m:Str)(t:Tok)(c:Addr)(h:(PySem.W.nsIn K mainGlobals x,K.lookup f,PySem.W.codeIn K (.ref c) x,PySem.W.keepIn K (.ref f))=(some (some (.ref f)),some ⟨.type "function",none,.func (PySem.W.fnOf x x (lH st) (eQ st) (bo st) .none .none .none (.str m t) none (.ref c) .none),#[]⟩,true,true)):gq K x st:=
 ⟨f,_,au Prod.fst h,⟨⟨_,_,_,_,_,_,_,_,_,rfl,au (·.2.1) h,au (·.2.2.1) h⟩,au (·.2.2.2) h⟩⟩
theorem mk{K:aq}{C:Addr}{x q:Str}{st:Stmt}(f:Addr)(m:Str)(t:Tok)(c:Addr)(h:(PySem.W.findIn K (.ref C) x,K.lookup f,PySem.W.codeIn K (.ref c) q,PySem.W.keepIn K (.ref f),PySem.W.isFn K (.ref f))=(some (some (.ref f)),some ⟨.type "function",none,.func (PySem.W.fnOf x q (lH st) (eQ st) (bo st) .none .none .none (.str m t) none (.ref c) .none),#[]⟩,true,true,true)):ij K C x q st:=
 ⟨f,_,au Prod.fst h,au (·.2.2.2.2) h,⟨⟨_,_,_,_,_,_,_,_,_,rfl,au (·.2.1) h,au (·.2.2.1) h⟩,au (·.2.2.2.1) h⟩⟩
theorem ck{K:aq}{C:Addr}{x:Str}(h:(PySem.W.nsIn K mainGlobals x,(PySem.W.plainGet K C Str.empty&&PySem.W.hasDictIn K C&&PySem.W.plainOver K C&&PySem.W.makesIn K C&&PySem.W.keepIn K (.ref C)),PySem.W.findIn K (.ref C) "__setattr__")=(some (some (.ref C)),true,some (some (.builtin "object.__setattr__")))):uH K x C:=by
 have a:=au (fun x=>x.2.1) h;simp only [i3]at a;exact⟨au Prod.fst h,⟨a.1.1.1.1,a.1.1.1.2,a.1.1.2,au (·.2.2) h⟩,a.1.2,a.2⟩
theorem n1{α:Type}{p:List α->Prop}(h:∀ a,p [a])(us:List α)(e:us.length=1):p us:=match us,e with |[a],_=>h a
theorem n2{α:Type}{p:List α->Prop}(h:∀ a b,p [a,b])(us:List α)(e:us.length=2):p us:=match us,e with |[a,b],_=>h a b
theorem n3{α:Type}{p:List α->Prop}(h:∀ a b c,p [a,b,c])(us:List α)(e:us.length=3):p us:=match us,e with |[a,b,c],_=>h a b c
theorem n4{α:Type}{p:List α->Prop}(h:∀ a b c d,p [a,b,c,d])(us:List α)(e:us.length=4):p us:=match us,e with |[a,b,c,d],_=>h a b c d
theorem n5{α:Type}{p:List α->Prop}(h:∀ a b c d e,p [a,b,c,d,e])(us:List α)(e:us.length=5):p us:=match us,e with |[a,b,c,d,e],_=>h a b c d e
theorem n6{α:Type}{p:List α->Prop}(h:∀ a b c d e f,p [a,b,c,d,e,f])(us:List α)(e:us.length=6):p us:=match us,e with |[a,b,c,d,e,f],_=>h a b c d e f
theorem yK(env:Env)(p1 p2 p3 p4:Pos)(f:Str):swapsWith (.Name f p3) (some (.Attribute (.Name "self" p1) f p2)) p4.line env=pure false:=by rfl
theorem noX(f:Str)(h:f = "rule"\/f = "place"\/f = "which"):typeLookup (.type "Exception") f=pure none:=by
 rcases h with rfl |rfl |rfl
 ·rw [jT,eI];kernel_rfl
 ·rw [jT,eI];kernel_rfl
 ·rw [jT,eI];kernel_rfl
theorem Ma:cX ["self","rule","place","which"] ["self","rule","place","which"] (bo zm):=⟨rfl,rfl,rfl,by decide +kernel,rfl,by decide +kernel,by decide +kernel⟩
theorem wB:Iw "rule" "place" "which" (eQ zm):=⟨_,_,_,_,_,_,_,_,_,_,_,_,rfl⟩
set_option maxHeartbeats 0 in
theorem all_mk{P:Program}{w:World}{K:aq}{h:Heap}{mg:Str->Option Value}{fa c0 PT yab yaj yaf yag yac yak yaa yae yad yal yam yah yaJ yaz yaA yaB yaC yaD:Addr}(X:K.In h)(G:h.Ns mainGlobals mg)(hfa:mg "kept" = some (.ref fa))
  {ybK ybL:Str}{yai:Addr}{ybM:List Value}{ybN:List Str}{ybO:List Value}{ybP:Bool}{ybQ:Option Bool}{ybR:Option Addr}{ybS ybT ybU ybV ybW:Option Value}
  {ybX ybY:Str}{yau:Addr}{ybZ:List Value}{yca:List Str}{ycb:List Value}{ycc:Bool}{ycd:Option Bool}{yce:Option Addr}{ycf ycg ych yci ycj:Option Value}
  {yck ycl:Str}{yav:Addr}{ycm:List Value}{ycn:List Str}{yco:List Value}{ycp:Bool}{ycq:Option Bool}{ycr:Option Addr}{ycs yct ycu ycv ycw:Option Value}
  {ycx ycy:Str}{yaw:Addr}{ycz:List Value}{ycA:List Str}{ycB:List Value}{ycC:Bool}{ycD:Option Bool}{ycE:Option Addr}{ycF ycG ycH ycI ycJ:Option Value}
  {ycK ycL:Option Addr}{ycM:Array (Option Value)}{ycN ycO ycP ycQ yaK ycR:Value}
  {ycS:Option Addr}{ycT:Nat}{ycU:Array (Option Value)}{yaL:Tok}
  {ycV yaM:Option Addr}{ycW:Array (Option Value)}{ycX yaN yaO yaP yaE yaQ:Value}
  {ycY:Option Addr}{ycZ:Nat}{yda:Array (Option Value)}{ydb ydc:Tok}
  {ydd:Option Addr}{yde:Nat}{ydf:Array (Option Value)}{ydg ydh ydi ydj:Tok}
  {ydk:Option Addr}{ydl:Nat}{ydm:Array (Option Value)}{ydn ydo:Tok}
  {ydp:Option Addr}{ydq:Nat}{ydr:Array (Option Value)}{yds ydt ydu ydv:Tok}
  (yex:PySem.W.nsIn K mainGlobals "Fault" = some (some (.ref yab)))
  (yey:K.lookup yab=some (excClassObj ybK ybL yab yai ybM iG true ybN ybO ybP ybQ ybR ybS ybT ybU ybV ybW "Exception.__new__"))
  (yez:PySem.W.nsOkIn K yai=true)
  (yeA:PySem.W.keepIn K (.ref yab)=true)
  (yeB:PySem.W.nsIn K yai "__init__" = some (some (.ref yah)))
  (yeC:PySem.W.nsIn K yai "__setattr__" = some none)
  (yeD:PySem.W.nsIn K yai "__getattribute__" = some none)
  (yeE:PySem.W.nsIn K yai "__getattr__" = some none)
  (yeF:PySem.W.nsIn K yai "rule" = some none)
  (Sn:PySem.W.findIn K (.ref yab) "rule" = some none)
  (yeG:PySem.W.nsIn K yai "place" = some none)
  (So:PySem.W.findIn K (.ref yab) "place" = some none)
  (yeH:PySem.W.nsIn K yai "which" = some none)
  (yeI:PySem.W.findIn K (.ref yab) "which" = some none)
  (yeJ:PySem.W.findIn K (.ref yab) "__getattribute__" = some (some (.builtin "BaseException.__getattribute__")))
  (yeK:PySem.W.findIn K (.ref yab) "__getattr__" = some none)
  (yeL:PySem.W.hasDictIn K yab=true)
  (yeM:PySem.W.mroIn K yab (.type "BaseException")=some true)
  (yeN:PySem.W.nsIn K mainGlobals "WrongNumbers" = some (some (.ref yaj)))
  (yeO:K.lookup yaj=some (excClassObj ybX ybY yaj yau ybZ iG true yca ycb ycc ycd yce ycf ycg ych yci ycj "Exception.__new__"))
  (yeP:PySem.W.nsOkIn K yau=true)
  (yeQ:PySem.W.keepIn K (.ref yaj)=true)
  (yeR:PySem.W.nsIn K yau "__init__" = some none)
  (yeS:PySem.W.nsIn K mainGlobals "NotThere" = some (some (.ref yaf)))
  (yeT:K.lookup yaf=some (excClassObj yck ycl yaf yav ycm iG true ycn yco ycp ycq ycr ycs yct ycu ycv ycw "Exception.__new__"))
  (yeU:PySem.W.nsOkIn K yav=true)
  (yeV:PySem.W.keepIn K (.ref yaf)=true)
  (yeW:PySem.W.nsIn K yav "__init__" = some none)
  (yeX:PySem.W.nsIn K mainGlobals "TooGreat" = some (some (.ref yag)))
  (yeY:K.lookup yag=some (excClassObj ycx ycy yag yaw ycz iG true ycA ycB ycC ycD ycE ycF ycG ycH ycI ycJ "Exception.__new__"))
  (yeZ:PySem.W.nsOkIn K yaw=true)
  (yfa:PySem.W.keepIn K (.ref yag)=true)
  (yfb:PySem.W.nsIn K yaw "__init__" = some none)
  (yfc:yaj≠yab)
  (yfd:yaf≠yab)
  (yfe:yaf≠yaj)
  (yff:yag≠yab)
  (yfg:yag≠yaj)
  (yfh:yag≠yaf)
  (yX:uH K "Reader" yac)
  (yfi:NoAttr K yac "form")
  (yfj:NoAttr K yac "place")
  (yY:uH K "Way" yak)
  (yfk:NoAttr K yak "bond")
  (yfl:NoAttr K yak "other")
  (yfm:NoAttr K yak "rooms")
  (yZ:uH K "Search" yaa)
  (yfn:NoAttr K yaa "ways")
  (yfo:NoAttr K yaa "cut")
  (yfp:NoAttr K yaa "bases")
  (yfq:NoAttr K yaa "came_by")
  (yfr:NoAttr K yaa "came_from")
  (yfs:NoAttr K yaa "turns")
  (yft:NoAttr K yaa "waiting")
  (y3:uH K "Atom" yae)
  (yfu:NoAttr K yae "element")
  (yfv:NoAttr K yae "isotope")
  (yfw:NoAttr K yae "charge")
  (yfx:NoAttr K yae "hydrogens")
  (yfy:NoAttr K yae "hand")
  (y4:uH K "Bond" yad)
  (yfz:NoAttr K yad "a")
  (yfA:NoAttr K yad "b")
  (yfB:NoAttr K yad "order")
  (yfC:NoAttr K yad "side")
  (y6:uH K "Molecule" yal)
  (yfD:NoAttr K yal "atoms")
  (yfE:NoAttr K yal "bonds")
  (y8:uH K "Equation" yam)
  (yfF:NoAttr K yam "left")
  (yfG:NoAttr K yam "right")
  (yfH:PySem.W.findIn K (.ref yab) "__init__" = some (some (.ref yah)))
  (Sq:PySem.W.isFn K (.ref yah)=true)
  (yfI:K.lookup yah=some ⟨ycN,ycK,.func (PySem.W.fnOf "__init__" "Fault.__init__" (lH zm) (eQ zm) (bo zm) (.ref yaJ) ycO ycP ycQ ycL yaK ycR),ycM⟩)
  (Sr:K.lookup yaJ=some ⟨.type "tuple",ycS,.seq #[.int 0 yaL] ycT,ycU⟩)
  (yfJ:PySem.W.codeIn K yaK "Fault.__init__" = true)
  (yfK:PySem.W.keepIn K (.ref yah)=true)
  (yfL:gq K "product" A6)
  (yfM:gq K "count_units" HL)
  (yfN:gq K "add_units" Hy)
  (yfO:gq K "signed_molecules" vW)
  (yfP:gq K "unit_rows" AV)
  (yfQ:gq K "charge_row" uM)
  (yfR:gq K "refuse_numbers" Hi)
  (yfS:gq K "kept_row" Ii)
  (yfT:ij K yac "__init__" "Reader.__init__" HM)
  (yfU:ij K yac "expect_mark" "Reader.expect_mark" Ht)
  (yfV:ij K yac "take" "Reader.take" HN)
  (yfW:ij K yac "number" "Reader.number" HF)
  (yfX:ij K yac "finish" "Reader.finish" HE)
  (yfY:ij K yak "__init__" "Way.__init__" Io)
  (yfZ:ij K yaa "__init__" "Search.__init__" HP)
  (yga:ij K yaa "reach" "Search.reach" HH)
  (ygb:ij K yaa "allow" "Search.allow" HI)
  (ygc:ij K yaa "comes_back" "Search.comes_back" Hw)
  (ygd:ij K yaa "goes_on" "Search.goes_on" Hh)
  (yge:ij K yaa "closes" "Search.closes" HC)
  (ygf:ij K yaa "base_of" "Search.base_of" Hj)
  (ygg:ij K yaa "base_before" "Search.base_before" Hs)
  (ygh:ij K yaa "meeting_of" "Search.meeting_of" Hv)
  (ygi:ij K yaa "fold" "Search.fold" HQ)
  (ygj:ij K yaa "allow_both" "Search.allow_both" Hu)
  (ygk:gq K "ways_at" A8)
  (ygl:gq K "is_fixed_double" Hg)
  (ygm:gq K "can_go" II)
  (ygn:ij K yae "__init__" "Atom.__init__" Hz)
  (ygo:ij K yad "__init__" "Bond.__init__" HA)
  (ygp:ij K yal "__init__" "Molecule.__init__" Hm)
  (ygq:gq K "read_molecule" Hn)
  (ygr:gq K "read_parts" AU)
  (ygs:gq K "read_atom" HB)
  (ygt:gq K "read_bond" Ig)
  (ygu:gq K "neighbour_counts" AT)
  (ygv:gq K "refuse_wrong_hands" Hq)
  (ygw:gq K "may_have_hand" Hl)
  (ygx:gq K "refuse_wrong_sides" Hr)
  (ygy:gq K "may_have_side" HG)
  (ygz:gq K "may_end_a_side" Hk)
  (ygA:ij K yam "__init__" "Equation.__init__" Ho)
  (ygB:gq K "read_equation" vX)
  (ygC:gq K "read_member" HJ)
  (MB:PySem.W.nsIn K mainGlobals "kept" = some (some (.ref yaz)))
  (RN:K.lookup yaz=some ⟨ycX,ycV,.func (PySem.W.fnOf "kept" "kept" (lH mV) (eQ mV) (bo mV) .none yaN yaO yaP yaM yaE yaQ),ycW⟩)
  (ygD:PySem.W.codeIn K yaE "kept" = true)
  (ygE:PySem.W.keepIn K (.ref yaz)=true)
  (ygF:gq K "tell_kept" Hx)
  (ygG:gq K "answer" IE)
  (ygH:XCi K "WRONG_MARK" 1)
  (ygI:XCi K "OUT_OF_BOUNDS" 2)
  (ygJ:XCi K "NOT_BEHIND" 3)
  (ygK:XCi K "WRONG_HAND" 4)
  (ygL:XCi K "ENDS_EARLY" 5)
  (ygM:XCi K "WRONG_SIDE" 6)
  (ygN:XCi K "LEFT_OVER" 7)
  (ygO:XCi K "MOST_ELEMENT" 118)
  (ygP:XCi K "MOST_ISOTOPE" 500)
  (ygQ:XCi K "UP" 1)
  (ygR:XCi K "DOWN" (-1))
  (ygS:XCi K "MIDDLE" (-1))
  (ygT:XCi K "MOST_ATOMS" 128)
  (ygU:XCi K "MOST_BONDS" 192)
  (ygV:XCi K "MOST_CHARGE" 4)
  (ygW:XCi K "MOST_HYDROGENS" 7)
  (ygX:XCi K "MOST_HAND" 2)
  (ygY:XCi K "MOST_ORDER" 3)
  (ygZ:XCi K "MOST_SIDE" 2)
  (yha:XCi K "HEAD_SIZE" 6)
  (yhb:XCi K "ATOM_SIZE" 6)
  (yhc:XCi K "BOND_SIZE" 4)
  (yhd:XCi K "MOST_ON_A_SIDE" 8)
  (yhe:XCi K "MOST_SIZE" 65535)
  (yhf:XCi K "WITHIN_MOLECULE" 16)
  (yhg:XCi K "ANSWERED" 0)
  (yhh:XCi K "WRONG_NUMBERS" (-1))
  (yhi:XCi K "NOT_THERE" (-2))
  (yhj:XCi K "FAULTY_FORM" (-5))
  (yhk:XCi K "TOO_GREAT" (-6))
  (yhl:PySem.W.nsIn K mainGlobals "HYDROGEN" = some (some (.ref yaA)))
  (yhm:K.lookup yaA=some ⟨.type "tuple",ycY,.seq #[.int 1 ydb,.int 0 ydc] ycZ,yda⟩)
  (yhn:PySem.W.nsIn K mainGlobals "MARK_molecules" = some (some (.ref yaB)))
  (yho:K.lookup yaB=some ⟨.type "tuple",ydd,.seq #[.int 70 ydg,.int 75 ydh,.int 77 ydi,.int 49 ydj] yde,ydf⟩)
  (yhp:PySem.W.nsIn K mainGlobals "BEFORE_ALL" = some (some (.ref yaC)))
  (yhq:K.lookup yaC=some ⟨.type "tuple",ydk,.seq #[.int 0 ydn,.int 0 ydo] ydl,ydm⟩)
  (yhr:PySem.W.nsIn K mainGlobals "MARK_equations" = some (some (.ref yaD)))
  (yhs:K.lookup yaD=some ⟨.type "tuple",ydp,.seq #[.int 70 yds,.int 75 ydt,.int 81 ydu,.int 49 ydv] ydq,ydr⟩)
  (yht:PySem.W.nsIn K mainGlobals "enumerate" = some none)
  (yhu:PySem.W.nsIn K mainGlobals "len" = some none)
  (yhv:PySem.W.nsIn K mainGlobals "range" = some none)
  (yhw:PySem.W.nsIn K mainGlobals "reversed" = some none)
  (yhx:PySem.W.nsIn K mainGlobals "sorted" = some none)
  (yhy:PySem.W.nsIn K mainGlobals "sum" = some none)
  (yhz:PySem.W.nsIn K mainGlobals "zip" = some none)
  (ht:PySem.W.tabIn K "kept" = some (c0,PT))
  : ∃ (fd:FuncData)(c PT:Addr),PySem.W.tabIn K "kept" = some (c,PT)/\(∀ (s:Shared)(us:List Value),us.length=(["sides","numbers"]:List Str).length->BindsTo s fd ⟨us,[]⟩ ((["sides","numbers"]:List Str).zip us)) /\
   ∀ base:Heap,K.In base->base.Ns mainGlobals mg->PySem.W.CodeHd base c PT->base.BuiltinsAt mg PT->am P w K mg base CX0 17 fa fd ["sides","numbers"] (spD PT [0,1] (preK K) keptF):=by
 have e:=hfa.symm.trans (dJ X G MB);cases e;have ymc:aS K yab "__init__" yah:=⟨yfH,Sq,yfK⟩;obtain⟨ymd,yme,yhA,MC⟩:=yfL;have yhB:=MC.kp;have yhC:=MC.binds (ps:=["row","other"]) fun _ _ _ _ _ _=>n2 fun _ _=>rfl;have yhD:=dJ X G yhA;obtain⟨ymf,ymg,yhE,MD⟩:=yfM;have yhF:=MD.kp;have yhG:=MD.binds (ps:=["molecule"]) fun _ _ _ _ _ _=>n1 fun _=>rfl;have yhH:=dJ X G yhE;obtain⟨ymh,ymi,yhI,ME⟩:=yfN;have yhJ:=ME.kp;have yhK:=ME.binds (ps:=["counts","unit","count"]) fun _ _ _ _ _ _=>n3 fun _ _ _=>rfl;have yhL:=dJ X G yhI;obtain⟨ymj,ymk,yhM,MF⟩:=yfO;have RO:=MF.kp;have RP:=MF.binds (ps:=["equation"]) fun _ _ _ _ _ _=>n1 fun _=>rfl;have RQ:=dJ X G yhM;obtain⟨yml,ymm,yhN,MG⟩:=yfP;have yhO:=MG.kp;have yhP:=MG.binds (ps:=["equation"]) fun _ _ _ _ _ _=>n1 fun _=>rfl;have yhQ:=dJ X G yhN;obtain⟨ymn,ymo,yhR,MH⟩:=yfQ;have yhS:=MH.kp;have yhT:=MH.binds (ps:=["equation"]) fun _ _ _ _ _ _=>n1 fun _=>rfl;have yhU:=dJ X G yhR;obtain⟨ymp,ymq,yhV,MI⟩:=yfR;have yhW:=MI.kp;have yhX:=MI.binds (ps:=["equation","numbers"]) fun _ _ _ _ _ _=>n2 fun _ _=>rfl;have yhY:=dJ X G yhV;obtain⟨ymr,yms,yhZ,MJ⟩:=yfS;have yia:=MJ.kp;have yib:=MJ.binds (ps:=["equation","numbers"]) fun _ _ _ _ _ _=>n2 fun _ _=>rfl;have yic:=dJ X G yhZ;obtain⟨RR,ymt,RS,RT,Gm⟩:=yfT;have yid:=Gm.kp;have RU:=Gm.binds (ps:=["self","form"]) fun _ _ _ _ _ _=>n2 fun _ _=>rfl;have ymu:aS K yac "__init__" RR:=⟨RS,RT,yid⟩;obtain⟨yie,ymv,yif,yig,Gn⟩:=yfU;have yih:=Gn.kp;have RV:=Gn.binds (ps:=["self","mark"]) fun _ _ _ _ _ _=>n2 fun _ _=>rfl;have RW:aS K yac "expect_mark" yie:=⟨yif,yig,yih⟩;obtain⟨yii,ymw,yij,yik,Go⟩:=yfV;have yil:=Go.kp;have RX:=Go.binds (ps:=["self","size"]) fun _ _ _ _ _ _=>n2 fun _ _=>rfl;have RY:aS K yac "take" yii:=⟨yij,yik,yil⟩;obtain⟨yim,ymx,Am,yio,MU⟩:=yfW;have yip:=MU.kp;have EM:=MU.binds (ps:=["self","size","least","most"]) fun _ _ _ _ _ _=>n4 fun _ _ _ _=>rfl;have EN:aS K yac "number" yim:=⟨Am,yio,yip⟩;obtain⟨yiq,ymy,yir,yis,Gp⟩:=yfX;have yit:=Gp.kp;have RZ:=Gp.binds (ps:=["self"]) fun _ _ _ _ _ _=>n1 fun _=>rfl;have Sa:aS K yac "finish" yiq:=⟨yir,yis,yit⟩;obtain⟨Sb,ymz,Sc,Sd,MV⟩:=yfY;have yiu:=MV.kp;have yiv:=MV.binds (ps:=["self","bond","other","order"]) fun _ _ _ _ _ _=>n4 fun _ _ _ _=>rfl;have ymA:aS K yak "__init__" Sb:=⟨Sc,Sd,yiu⟩;obtain⟨Se,ymB,Sf,Sg,MW⟩:=yfZ;have yiw:=MW.kp;have yix:=MW.binds (ps:=["self","ways","cut"]) fun _ _ _ _ _ _=>n3 fun _ _ _=>rfl;have ymC:aS K yaa "__init__" Se:=⟨Sf,Sg,yiw⟩;obtain⟨yiy,ymD,yiz,yiA,MY⟩:=yga;have yiB:=MY.kp;have Sh:=MY.binds (ps:=["self","atom","before","bond","turn"]) fun _ _ _ _ _ _=>n5 fun _ _ _ _ _=>rfl;have Si:aS K yaa "reach" yiy:=⟨yiz,yiA,yiB⟩;obtain⟨yiC,ymE,yiD,yiE,MZ⟩:=ygb;have yiF:=MZ.kp;have Sj:=MZ.binds (ps:=["self","atom","turn"]) fun _ _ _ _ _ _=>n3 fun _ _ _=>rfl;have Sk:aS K yaa "allow" yiC:=⟨yiD,yiE,yiF⟩;obtain⟨yiG,ymF,yiH,yiI,M0⟩:=ygc;have yiJ:=M0.kp;have yiK:=M0.binds (ps:=["self"]) fun _ _ _ _ _ _=>n1 fun _=>rfl;have yiL:aS K yaa "comes_back" yiG:=⟨yiH,yiI,yiJ⟩;obtain⟨yiM,ymG,yiN,yiO,M4⟩:=ygd;have yiP:=M4.kp;have yiQ:=M4.binds (ps:=["self","atom","turn"]) fun _ _ _ _ _ _=>n3 fun _ _ _=>rfl;have yiR:aS K yaa "goes_on" yiM:=⟨yiN,yiO,yiP⟩;obtain⟨yiS,ymH,yiT,yiU,M5⟩:=yge;have yiV:=M5.kp;have yiW:=M5.binds (ps:=["self","atom","turn","way"]) fun _ _ _ _ _ _=>n4 fun _ _ _ _=>rfl;have yiX:aS K yaa "closes" yiS:=⟨yiT,yiU,yiV⟩;obtain⟨yiY,ymI,yiZ,yja,M6⟩:=ygf;have yjb:=M6.kp;have Sl:=M6.binds (ps:=["self","atom"]) fun _ _ _ _ _ _=>n2 fun _ _=>rfl;have Sm:aS K yaa "base_of" yiY:=⟨yiZ,yja,yjb⟩;obtain⟨yjc,ymJ,yjd,yje,M7⟩:=ygg;have yjf:=M7.kp;have Ss:=M7.binds (ps:=["self","base"]) fun _ _ _ _ _ _=>n2 fun _ _=>rfl;have Su:aS K yaa "base_before" yjc:=⟨yjd,yje,yjf⟩;obtain⟨yjg,ymK,yjh,yji,M8⟩:=ygh;have yjj:=M8.kp;have yjk:=M8.binds (ps:=["self","base","other"]) fun _ _ _ _ _ _=>n3 fun _ _ _=>rfl;have yjl:aS K yaa "meeting_of" yjg:=⟨yjh,yji,yjj⟩;obtain⟨yjm,ymL,yjn,yjo,M9⟩:=ygi;have yjp:=M9.kp;have yjq:=M9.binds (ps:=["self","base","meeting"]) fun _ _ _ _ _ _=>n3 fun _ _ _=>rfl;have yjr:aS K yaa "fold" yjm:=⟨yjn,yjo,yjp⟩;obtain⟨yjs,ymM,yjt,yju,Na⟩:=ygj;have yjv:=Na.kp;have Sv:=Na.binds (ps:=["self","atom"]) fun _ _ _ _ _ _=>n2 fun _ _=>rfl;have Sw:aS K yaa "allow_both" yjs:=⟨yjt,yju,yjv⟩;obtain⟨ymN,ymO,yjw,Nb⟩:=ygk;have yjx:=Nb.kp;have yjy:=Nb.binds (ps:=["count","bonds"]) fun _ _ _ _ _ _=>n2 fun _ _=>rfl;have yjz:=dJ X G yjw;obtain⟨ymP,ymQ,yjA,Nc⟩:=ygl;have yjB:=Nc.kp;have yjC:=Nc.binds (ps:=["ways","bonds","number"]) fun _ _ _ _ _ _=>n3 fun _ _ _=>rfl;have yjD:=dJ X G yjA;obtain⟨ymR,ymS,yjE,Nf⟩:=ygm;have yjF:=Nf.kp;have yjG:=Nf.binds (ps:=["ways","bonds","number","turn"]) fun _ _ _ _ _ _=>n4 fun _ _ _ _=>rfl;have yjH:=dJ X G yjE;obtain⟨Sx,ymT,Sy,Sz,Ng⟩:=ygn;have yjI:=Ng.kp;have yjJ:=Ng.binds (ps:=["self","element","isotope","charge","hydrogens","hand"]) fun _ _ _ _ _ _=>n6 fun _ _ _ _ _ _=>rfl;have ymU:aS K yae "__init__" Sx:=⟨Sy,Sz,yjI⟩;obtain⟨SB,ymV,SC,SD,Nh⟩:=ygo;have yjK:=Nh.kp;have yjL:=Nh.binds (ps:=["self","a","b","order","side"]) fun _ _ _ _ _ _=>n5 fun _ _ _ _ _=>rfl;have ymW:aS K yad "__init__" SB:=⟨SC,SD,yjK⟩;obtain⟨SE,ymX,SG,SH,Ni⟩:=ygp;have yjM:=Ni.kp;have yjN:=Ni.binds (ps:=["self","atoms","bonds"]) fun _ _ _ _ _ _=>n3 fun _ _ _=>rfl;have ymY:aS K yal "__init__" SE:=⟨SG,SH,yjM⟩;obtain⟨ymZ,yna,yjO,Nj⟩:=ygq;have yjP:=Nj.kp;have yjQ:=Nj.binds (ps:=["form"]) fun _ _ _ _ _ _=>n1 fun _=>rfl;have yjR:=dJ X G yjO;obtain⟨ynb,ync,yjS,Nk⟩:=ygr;have yjT:=Nk.kp;have yjU:=Nk.binds (ps:=["form"]) fun _ _ _ _ _ _=>n1 fun _=>rfl;have yjV:=dJ X G yjS;obtain⟨ynd,yne,yjW,Nl⟩:=ygs;have yjX:=Nl.kp;have yjY:=Nl.binds (ps:=["reader"]) fun _ _ _ _ _ _=>n1 fun _=>rfl;have yjZ:=dJ X G yjW;obtain⟨ynf,yng,yka,Nm⟩:=ygt;have ykb:=Nm.kp;have ykc:=Nm.binds (ps:=["reader","atom_count","before"]) fun _ _ _ _ _ _=>n3 fun _ _ _=>rfl;have ykd:=dJ X G yka;obtain⟨ynh,yni,yke,Nn⟩:=ygu;have ykf:=Nn.kp;have ykg:=Nn.binds (ps:=["molecule"]) fun _ _ _ _ _ _=>n1 fun _=>rfl;have ykh:=dJ X G yke;obtain⟨ynj,ynk,yki,No⟩:=ygv;have ykj:=No.kp;have ykk:=No.binds (ps:=["molecule","neighbours"]) fun _ _ _ _ _ _=>n2 fun _ _=>rfl;have ykl:=dJ X G yki;obtain⟨ynl,ynm,ykm,Np⟩:=ygw;have ykn:=Np.kp;have yko:=Np.binds (ps:=["atom","neighbours"]) fun _ _ _ _ _ _=>n2 fun _ _=>rfl;have ykp:=dJ X G ykm;obtain⟨ynn,yno,ykq,MK⟩:=ygx;have ykr:=MK.kp;have yks:=MK.binds (ps:=["molecule","neighbours"]) fun _ _ _ _ _ _=>n2 fun _ _=>rfl;have ykt:=dJ X G ykq;obtain⟨ynp,ynq,yku,ML⟩:=ygy;have ykv:=ML.kp;have ykw:=ML.binds (ps:=["molecule","k","neighbours","ways"]) fun _ _ _ _ _ _=>n4 fun _ _ _ _=>rfl;have ykx:=dJ X G yku;obtain⟨ynr,yns,yky,MM⟩:=ygz;have ykz:=MM.kp;have ykA:=MM.binds (ps:=["atom","others"]) fun _ _ _ _ _ _=>n2 fun _ _=>rfl;have ykB:=dJ X G yky;obtain⟨SI,ynt,SJ,SK,MN⟩:=ygA;have ykC:=MN.kp;have ykD:=MN.binds (ps:=["self","left","right"]) fun _ _ _ _ _ _=>n3 fun _ _ _=>rfl;have ynu:aS K yam "__init__" SI:=⟨SJ,SK,ykC⟩;obtain⟨ynv,ynw,ykE,MO⟩:=ygB;have ykF:=MO.kp;have ykG:=MO.binds (ps:=["form"]) fun _ _ _ _ _ _=>n1 fun _=>rfl;have ykH:=dJ X G ykE;obtain⟨ynx,yny,ykI,MP⟩:=ygC;have ykJ:=MP.kp;have ykK:=MP.binds (ps:=["reader"]) fun _ _ _ _ _ _=>n1 fun _=>rfl;have ykL:=dJ X G ykI;have SL:=wL (st:=mV) RN ygD ygE;have ynz:=SL.binds (ps:=["sides","numbers"]) fun _ _ _ _ _ _=>n2 fun _ _=>rfl;have ynA:=dJ X G MB;obtain⟨ynB,ynC,ykM,MQ⟩:=ygF;have ykN:=MQ.kp;have ykO:=MQ.binds (ps:=["sides","numbers"]) fun _ _ _ _ _ _=>n2 fun _ _=>rfl;have ykP:=dJ X G ykM;obtain⟨ynD,ynE,ykQ,MR⟩:=ygG;have ykR:=MR.kp;have ykS:=MR.binds (ps:=["tell"]) fun _ _ _ _ _ _=>n1 fun _=>rfl;have ykT:=dJ X G ykQ;have ykU:=ygH.v X G;have ykV:=ygI.v X G;have ykW:=ygJ.v X G;have ykX:=ygK.v X G;have ykY:=ygL.v X G;have ykZ:=ygM.v X G;have yla:=ygN.v X G;have ylb:=ygO.v X G;have ylc:=ygP.v X G;have Mz:=ygQ.v X G;have yld:=ygR.v X G;have yle:=ygS.v X G;have ylf:=ygT.v X G;have ylg:=ygU.v X G;have ylh:=ygV.v X G;have yli:=ygW.v X G;have ylj:=ygX.v X G;have ylk:=ygY.v X G;have yll:=ygZ.v X G;have ylm:=yha.v X G;have yln:=yhb.v X G;have ylo:=yhc.v X G;have ylp:=yhd.v X G;have ylq:=yhe.v X G;have ylr:=yhf.v X G;have yls:=yhg.v X G;have ylt:=yhh.v X G;have ylu:=yhi.v X G;have ylv:=yhj.v X G;have ylw:=yhk.v X G;have ylx:∃ a,mg "HYDROGEN" = some (.ref a)/\∀ H,SqT K H a (([1,0]:List Int).map V.int):=⟨yaA,dJ X G yhl,fun H=>.inr ⟨_,_,_,yhm,rfl,rfl,(by show 2<=sizeLine;decide),.cons ⟨_,rfl⟩ (.cons ⟨_,rfl⟩ (.nil))⟩⟩
 have yly:∃ a,mg "MARK_molecules" = some (.ref a)/\∀ H,SqT K H a (([70,75,77,49]:List Int).map V.int):=⟨yaB,dJ X G yhn,fun H=>.inr ⟨_,_,_,yho,rfl,rfl,(by show 4<=sizeLine;decide),.cons ⟨_,rfl⟩ (.cons ⟨_,rfl⟩ (.cons ⟨_,rfl⟩ (.cons ⟨_,rfl⟩ (.nil))))⟩⟩
 have ylz:∃ a,mg "BEFORE_ALL" = some (.ref a)/\∀ H,SqT K H a (([0,0]:List Int).map V.int):=⟨yaC,dJ X G yhp,fun H=>.inr ⟨_,_,_,yhq,rfl,rfl,(by show 2<=sizeLine;decide),.cons ⟨_,rfl⟩ (.cons ⟨_,rfl⟩ (.nil))⟩⟩
 have ylA:∃ a,mg "MARK_equations" = some (.ref a)/\∀ H,SqT K H a (([70,75,81,49]:List Int).map V.int):=⟨yaD,dJ X G yhr,fun H=>.inr ⟨_,_,_,yhs,rfl,rfl,(by show 4<=sizeLine;decide),.cons ⟨_,rfl⟩ (.cons ⟨_,rfl⟩ (.cons ⟨_,rfl⟩ (.cons ⟨_,rfl⟩ (.nil))))⟩⟩
 have MS:=lZ X G yht;have SM:=lZ X G yhu;have MT:=lZ X G yhv;have ylB:=lZ X G yhw;have ylC:=lZ X G yhx;have EO:=lZ X G yhy;have ylD:=lZ X G yhz;have ylE:Cls K yac:=⟨yX.2.1.1,yX.2.1.2.1,yX.2.1.2.2.1,yX.2.1.2.2.2⟩;have ylF:=dJ X G yX.1;have SN:Mk K yac RR:=⟨yX.2.2.1,RS,RT,yX.2.2.2⟩;have ylG:Cls K yak:=⟨yY.2.1.1,yY.2.1.2.1,yY.2.1.2.2.1,yY.2.1.2.2.2⟩;have ylH:=dJ X G yY.1;have ylI:Mk K yak Sb:=⟨yY.2.2.1,Sc,Sd,yY.2.2.2⟩;have ylJ:Cls K yaa:=⟨yZ.2.1.1,yZ.2.1.2.1,yZ.2.1.2.2.1,yZ.2.1.2.2.2⟩;have ylK:=dJ X G yZ.1;have ylL:Mk K yaa Se:=⟨yZ.2.2.1,Sf,Sg,yZ.2.2.2⟩;have ylM:Cls K yae:=⟨y3.2.1.1,y3.2.1.2.1,y3.2.1.2.2.1,y3.2.1.2.2.2⟩;have ylN:=dJ X G y3.1;have ylO:Mk K yae Sx:=⟨y3.2.2.1,Sy,Sz,y3.2.2.2⟩;have ylP:Cls K yad:=⟨y4.2.1.1,y4.2.1.2.1,y4.2.1.2.2.1,y4.2.1.2.2.2⟩;have ylQ:=dJ X G y4.1;have ylR:Mk K yad SB:=⟨y4.2.2.1,SC,SD,y4.2.2.2⟩;have ylS:Cls K yal:=⟨y6.2.1.1,y6.2.1.2.1,y6.2.1.2.2.1,y6.2.1.2.2.2⟩;have ylT:=dJ X G y6.1;have ylU:Mk K yal SE:=⟨y6.2.2.1,SG,SH,y6.2.2.2⟩;have ylV:Cls K yam:=⟨y8.2.1.1,y8.2.1.2.1,y8.2.1.2.2.1,y8.2.1.2.2.2⟩;have ylW:=dJ X G y8.1;have ylX:Mk K yam SI:=⟨y8.2.2.1,SJ,SK,y8.2.2.2⟩;have SO:=dJ X G yex;have xc:XC K yab yah ["rule","place","which"]:=⟨⟨_,_,yai,_,_,_,_,_,_,_,_,_,_,_,yey,yez,yeB,yeC,yeD,yeE,fun f hf=>by
  simp only [bw,ik,or_false]at hf;rcases hf with rfl |rfl |rfl
  ·exact yeF
  ·exact yeG
  ·exact yeH⟩,fun f hf=>noX f (by simpa using hf),Sq,yeA⟩
 have Al:jm K yab yah "rule" "place" "which" 0:=⟨xc,⟨_,zm,_,_,yaL,⟨_,_,_,_,_,_,_,_,_,rfl,yfI,yfJ⟩,Ma,
  fun s us X hl=>match us,(show us.length=4 by simpa using hl)with |[_,_,_,_],_=>PySem.W.binds_K X rfl Sr rfl rfl rfl,
  fun s us X hl=>match us,(show us.length=3 by simpa using hl)with |[_,_,_],_=>PySem.W.binds_K X rfl Sr rfl rfl rfl,wB,fun x hx=>by
  simp only [bw,ik,or_false]at hx;rcases hx with rfl |rfl |rfl |rfl<;>rfl⟩,yK,by decide,by decide,by decide⟩
 have xg:XG K yab:=⟨yeJ,yeK,yeL,yeM⟩;have SQ:=dJ X G yeN;have SR:XP K yaj:=⟨⟨_,_,yau,_,_,_,_,_,_,_,_,_,_,_,yeO,yeP,yeR⟩,yeQ⟩;have ylY:=dJ X G yeS;have ylZ:XP K yaf:=⟨⟨_,_,yav,_,_,_,_,_,_,_,_,_,_,_,yeT,yeU,yeW⟩,yeV⟩;have yma:=dJ X G yeX;have ymb:XP K yag:=⟨⟨_,_,yaw,_,_,_,_,_,_,_,_,_,_,_,yeY,yeZ,yfb⟩,yfa⟩;have TA:NE K mg yab yaj yaf yag yah:=⟨xc,SR,ylZ,ymb,SO,SQ,ylY,yma,yfc,yfd,yff,yfe,yfg,yfh,xg,Sn,So,yeI,yls,ylt,ylu,ylv,ylw⟩;refine⟨PySem.W.fnOf "kept" "kept" (lH mV) (eQ mV) (bo mV) .none yaN yaO yaP yaM yaE yaQ,c0,PT,ht,fun s us hu=>n2 (p:=fun u=>BindsTo s _ ⟨u,[]⟩ _) (fun _ _=>.of_eq rfl) us hu,fun base zM hGb hC hB=>?_⟩;have T:TR K mg yab yac yah:=⟨Al,ylE,yfi,yfj,SO,ylF,SM,ylB,ykU,ykV,ykY,yla⟩;have B:TM K mg:=⟨MT,MS,yly,ylz,ylb,ylc,ylf,ylg,ylh,yli,ylj,ylk,yll,ykW,ykX,ykZ,ylm,yln,ylo⟩;have vQ:uD K yae:=⟨ylM,yfu,yfv,yfw,yfx,yfy⟩;have vR:uE K yad:=⟨ylP,yfz,yfA,yfB,yfC⟩;have vS:uG K yal:=⟨ylS,yfD,yfE⟩;have kn:jX K mg yaa:=⟨ylJ,yfn,yfo,yfp,yfq,yfr,yfs,yft,Mz,yld,yle⟩;have GV:TW K yak:=⟨ylG,yfk,yfl,yfm⟩;refine okD SL (nG ht MB RN) j7 hC hB ykT ykR ykS (fun base f fd cl cd vs hK hG L=>?_) rfl;have GN:=Dv (P:=P) (w:=w) (base:=base) MU T (oS Go T) RY RX;have GPa:=tF (P:=P) (w:=w) (base:=base) Nk T B vR SN (Dx Gm T) RU (oQ Gn T) RW RV GN EN EM
  (vn Gp T) Sa RZ (xS Nl T B GN EN EM ylO ylN (LB Ng vQ) yjJ) yjZ yjX yjY
  (Do Nm T B GN EN EM ylR ylQ (LC Nh vR) yjL) ykd ykb ykc ylU ylT (LG Ni vS) yjN
 have Nq:=tz (P:=P) (w:=w) (base:=base) MZ kn;have Nv:=xV (P:=P) (w:=w) (base:=base) Na kn Nq Sk Sj;have Nw:=tG (P:=P) (w:=w) (base:=base) MY kn Nq Sk Sj;have Nr:=xU (P:=P) (w:=w) (base:=base) M6 kn;have Nt:=Dn (P:=P) (w:=w) (base:=base) M7 kn Nr Sm Sl;have Gme:=x8 (P:=P) (w:=w) (base:=base) M8 kn Nt Su Ss;have Gfo:=xW (P:=P) (w:=w) (base:=base) M9 kn Nt Su Ss Nv Sw Sv;have Gcl:=tD (P:=P) (w:=w) (base:=base) M5 kn GV Nw Si Sh Nr Sm Sl Gme yjl yjk Gfo yjr yjq Nv Sw Sv;have Ggo:=xX (P:=P) (w:=w) (base:=base) M4 kn GV Gcl yiX yiW;have Gbk:=xT (P:=P) (w:=w) (base:=base) M0 kn Ggo yiR yiQ;have Gcg:=LF (P:=P) (w:=w) (base:=base) Nf kn vR ylL ylK (LJ MW kn) yix Nw Si Sh Gbk yiL yiK;have Gfx:=Dr (P:=P) (w:=w) (base:=base) Nc kn Gcg yjH yjF yjG;have Gwa:=ye (P:=P) (w:=w) (base:=base) Nb vR ylI ylH MT MS (LK MV kn GV) yiv;have Gsd:=ya (P:=P) (w:=w) (base:=base) ML vS vQ vR (Dq MM vQ) ykB ykz ykA Gfx yjD yjB yjC;have Gss:=tH (P:=P) (w:=w) (base:=base) MK T B vS vR Gsd ykx ykv ykw Gwa yjz yjx yjy;have Ghs:=tE (P:=P) (w:=w) (base:=base) (CB:=yad) No T B vS vQ (xY Np vQ) ykp ykn yko;have Gmo:=Du (P:=P) (w:=w) (base:=base) Nj GPa yjV yjT yjU (LH Nn vS vR) ykh ykf ykg Ghs ykl ykj ykk Gss ykt ykr yks;obtain⟨aH,eH,hH⟩:=ylx;have Gun:=tJ (P:=P) (w:=w) (base:=base) (CB:=yad) MD vS vQ eH hH (Dl ME) yhL yhJ yhK;have GQ:TQ K yam:=⟨ylV,yfF,yfG⟩;have Gu:=Dt (P:=P) (w:=w) (base:=base) MP T xg Sn So ylq ylr (iY GN) EN EM (iY (oS Go T)) RY RX Gmo yjR yjP yjQ;have Geq:=LD (P:=P) (w:=w) (base:=base) MO T MT ylA ylp SN (Dx Gm T) RU (iY (oQ Gn T)) RW RV (iY GN) EN EM
  (iY (vn Gp T)) Sa RZ Gu ykL ykJ ykK ylX ylW (LI MN GQ) ykD
 have Ny:=Dy (P:=P) (w:=w) (mg:=mg) (base:=base) (CA:=yae) (CB:=yad) (CM:=yal) MF GQ;have Gur:=tI (P:=P) (w:=w) (base:=base) MG MS Ny RQ RO RP Gun yhH yhF yhG;have Gch:=Dp (P:=P) (w:=w) (base:=base) MH vS vQ EO Ny RQ RO RP;have Gke:=x6 (P:=P) (w:=w) (base:=base) MJ ylC Gur yhQ yhO yhP (x9 MC EO ylD) yhD yhB yhC Gch yhU yhS yhT;have Gte:=yd (P:=P) (w:=w) (base:=base) (CN:=yaf) (CT:=yag) MQ Geq ykH ykF ykG (iY (oR MI GQ SR SQ SM)) yhY yhW yhX
  Gke yic yia yib
 exact Dm MR TA (Ds L Gte ykP ykN ykO) (nU L) (nz j7 L) (fun _ _ _=>ZbE)
end BK
open PySem PySem.W PyProof.Rows
set_option maxRecDepth 100000 in
set_option maxHeartbeats 0 in
theorem PySem.Challenge.cw_wholeamounts_s07_kept_holds : PySem.Challenge.rw_wholeamounts_s07_kept.Holds := by
 refine PySem.W.holds_os (r:=PySem.Challenge.rw_wholeamounts_s07_kept) (q:=BK.qV) (loose:=BK.lO) (Xt:=BK.XT) (XP:=PySem.W.XL BK.qV []) (Yf:=BK.HK.obs) (Ya:=BK.HK.val) (YP:=BK.HK.says) (N:=8314) BK.left BK.HK.of BK.HK.keeps (fun s e=>PySem.W.xl_of s (zc.mp e).1) PySem.W.XL.keeps (by rfl) (by rfl) (by rfl)
  (fun s e=>PySem.W.recFacts_of (zc.mp e).2) PySem.W.os_shapes (by decide +kernel) (by decide +kernel) ⟨rfl,rfl,rfl,rfl,rfl,by decide +kernel⟩ ⟨[.list [],.list []],by decide +kernel,by decide +kernel⟩ ?hc
 refine LM.ZbT (r:=PySem.Challenge.rw_wholeamounts_s07_kept) (k:=17) (K:=HD.KF) (CX:=L2.CX0) (ps:=["sides","numbers"]) (sp:=fun K PT=>BK.spD PT [0,1] (BK.preK K) BK.keptF) (by decide +kernel) rfl rfl ⟨rfl,by decide,by decide⟩ ?R (fun w h Y=>PySem.W.kIn_of Y) ?T ?F ?S (fun _ _ _ _ z=>z)
 case R=>first |rfl |kernel_rfl |decide +kernel
 case T=>intro w;first |rfl |kernel_rfl |decide +kernel
 case F =>
  intro w mg fa h Y KX G KB
  open BK in
  exact BK.all_mk (fa:=fa) (c0:=474) (PT:=470) (yab:=32) (ybK:="Fault") (ybL:="Fault") (yai:=31) (ybM:=[(.type "Exception")]) (ybN:=[]) (ybO:=[]) (ybP:=false) (ybQ:=none) (ybR:=none) (ybS:=(some (.ref 15))) (ybT:=none) (ybU:=(some (.str "Fault" 189))) (ybV:=(some (.str "Fault" 197))) (ybW:=(some (.bool true))) (yaj:=45) (ybX:="WrongNumbers") (ybY:="WrongNumbers") (yau:=44) (ybZ:=[(.type "Exception")]) (yca:=[]) (ycb:=[]) (ycc:=false) (ycd:=none) (yce:=none) (ycf:=(some (.ref 36))) (ycg:=none) (ych:=(some (.str "WrongNumbers" 223))) (yci:=(some (.str "WrongNumbers" 231))) (ycj:=(some (.bool true))) (yaf:=58) (yck:="NotThere") (ycl:="NotThere") (yav:=57) (ycm:=[(.type "Exception")]) (ycn:=[]) (yco:=[]) (ycp:=false) (ycq:=none) (ycr:=none) (ycs:=(some (.ref 49))) (yct:=none) (ycu:=(some (.str "NotThere" 243))) (ycv:=(some (.str "NotThere" 251))) (ycw:=(some (.bool true))) (yag:=71) (ycx:="TooGreat") (ycy:="TooGreat") (yaw:=70) (ycz:=[(.type "Exception")]) (ycA:=[]) (ycB:=[]) (ycC:=false) (ycD:=none) (ycE:=none) (ycF:=(some (.ref 62))) (ycG:=none) (ycH:=(some (.str "TooGreat" 263))) (ycI:=(some (.str "TooGreat" 271))) (ycJ:=(some (.bool true))) (yac:=168) (yak:=189) (yaa:=280) (yae:=322) (yad:=343) (yal:=364) (yam:=452) (yah:=29) (ycK:=none) (ycL:=none) (ycM:=#[]) (ycN:=(.type "function")) (ycO:=.none) (ycP:=.none) (ycQ:=(.str "wholeamounts.refusals" 187)) (yaK:=(.ref 28)) (ycR:=.none) (yaJ:=22) (ycS:=none) (ycT:=0) (ycU:=#[]) (yaL:=201) (yaz:=475) (ycV:=none) (yaM:=none) (ycW:=#[]) (ycX:=(.type "function")) (yaN:=.none) (yaO:=.none) (yaP:=(.str "wholeamounts.desk" 934)) (yaE:=(.ref 474)) (yaQ:=.none) (yaA:=80) (ycY:=none) (ycZ:=0) (yda:=#[]) (ydb:=293) (ydc:=294) (yaB:=304) (ydd:=none) (yde:=0) (ydf:=#[]) (ydg:=645) (ydh:=646) (ydi:=647) (ydj:=648) (yaC:=305) (ydk:=none) (ydl:=0) (ydm:=#[]) (ydn:=670) (ydo:=671) (yaD:=435) (ydp:=none) (ydq:=0) (ydr:=#[]) (yds:=875) (ydt:=876) (ydu:=877) (ydv:=878) KX G KB (by kernel_rfl) (by kernel_rfl) (by kernel_rfl) (by kernel_rfl) (by kernel_rfl) (by kernel_rfl) (by kernel_rfl) (by kernel_rfl) (by kernel_rfl) (show _=_ by kernel_rfl) (by kernel_rfl) (show _=_ by kernel_rfl) (by kernel_rfl) (show _=_ by kernel_rfl) (by kernel_rfl) (by kernel_rfl) (by kernel_rfl) (by kernel_rfl) (by kernel_rfl) (by kernel_rfl) (by kernel_rfl) (by kernel_rfl) (by kernel_rfl) (by kernel_rfl) (by kernel_rfl) (by kernel_rfl) (by kernel_rfl) (by kernel_rfl) (by kernel_rfl) (by kernel_rfl) (by kernel_rfl) (by kernel_rfl) (by kernel_rfl) (by decide) (by decide) (by decide) (by decide) (by decide) (by decide) (ck (by kernel_rfl)) (show _=_ by kernel_rfl) (show _=_ by kernel_rfl) (ck (by kernel_rfl)) (show _=_ by kernel_rfl) (show _=_ by kernel_rfl) (show _=_ by kernel_rfl) (ck (by kernel_rfl)) (show _=_ by kernel_rfl) (show _=_ by kernel_rfl) (show _=_ by kernel_rfl) (show _=_ by kernel_rfl) (show _=_ by kernel_rfl) (show _=_ by kernel_rfl) (show _=_ by kernel_rfl) (ck (by kernel_rfl)) (show _=_ by kernel_rfl) (show _=_ by kernel_rfl) (show _=_ by kernel_rfl) (show _=_ by kernel_rfl) (show _=_ by kernel_rfl) (ck (by kernel_rfl)) (show _=_ by kernel_rfl) (show _=_ by kernel_rfl) (show _=_ by kernel_rfl) (show _=_ by kernel_rfl) (ck (by kernel_rfl)) (show _=_ by kernel_rfl) (show _=_ by kernel_rfl) (ck (by kernel_rfl)) (show _=_ by kernel_rfl) (show _=_ by kernel_rfl) (by kernel_rfl) (by kernel_rfl) (by kernel_rfl) (by kernel_rfl) (by kernel_rfl) (by kernel_rfl) (gk 79 "wholeamounts.rows" 283 78 (by kernel_rfl)) (gk 87 "wholeamounts.formulas" 291 86 (by kernel_rfl)) (gk 94 "wholeamounts.formulas" 291 93 (by kernel_rfl)) (gk 99 "wholeamounts.balance" 314 98 (by kernel_rfl)) (gk 104 "wholeamounts.balance" 314 103 (by kernel_rfl)) (gk 109 "wholeamounts.balance" 314 108 (by kernel_rfl)) (gk 116 "wholeamounts.balance" 314 115 (by kernel_rfl)) (gk 123 "wholeamounts.balance" 314 122 (by kernel_rfl)) (mk 137 "wholeamounts.reading" 352 136 (by kernel_rfl)) (mk 144 "wholeamounts.reading" 352 143 (by kernel_rfl)) (mk 151 "wholeamounts.reading" 352 150 (by kernel_rfl)) (mk 158 "wholeamounts.reading" 352 157 (by kernel_rfl)) (mk 165 "wholeamounts.reading" 352 164 (by kernel_rfl)) (mk 186 "wholeamounts.redrawing" 441 185 (by kernel_rfl)) (mk 207 "wholeamounts.redrawing" 441 206 (by kernel_rfl)) (mk 214 "wholeamounts.redrawing" 441 213 (by kernel_rfl)) (mk 221 "wholeamounts.redrawing" 441 220 (by kernel_rfl)) (mk 228 "wholeamounts.redrawing" 441 227 (by kernel_rfl)) (mk 235 "wholeamounts.redrawing" 441 234 (by kernel_rfl)) (mk 242 "wholeamounts.redrawing" 441 241 (by kernel_rfl)) (mk 249 "wholeamounts.redrawing" 441 248 (by kernel_rfl)) (mk 256 "wholeamounts.redrawing" 441 255 (by kernel_rfl)) (mk 263 "wholeamounts.redrawing" 441 262 (by kernel_rfl)) (mk 270 "wholeamounts.redrawing" 441 269 (by kernel_rfl)) (mk 277 "wholeamounts.redrawing" 441 276 (by kernel_rfl)) (gk 289 "wholeamounts.redrawing" 441 288 (by kernel_rfl)) (gk 296 "wholeamounts.redrawing" 441 295 (by kernel_rfl)) (gk 303 "wholeamounts.redrawing" 441 302 (by kernel_rfl)) (mk 319 "wholeamounts.molecules" 643 318 (by kernel_rfl)) (mk 340 "wholeamounts.molecules" 643 339 (by kernel_rfl)) (mk 361 "wholeamounts.molecules" 643 360 (by kernel_rfl)) (gk 375 "wholeamounts.molecules" 643 374 (by kernel_rfl)) (gk 380 "wholeamounts.molecules" 643 379 (by kernel_rfl)) (gk 387 "wholeamounts.molecules" 643 386 (by kernel_rfl)) (gk 394 "wholeamounts.molecules" 643 393 (by kernel_rfl)) (gk 399 "wholeamounts.molecules" 643 398 (by kernel_rfl)) (gk 406 "wholeamounts.molecules" 643 405 (by kernel_rfl)) (gk 413 "wholeamounts.molecules" 643 412 (by kernel_rfl)) (gk 420 "wholeamounts.molecules" 643 419 (by kernel_rfl)) (gk 427 "wholeamounts.molecules" 643 426 (by kernel_rfl)) (gk 434 "wholeamounts.molecules" 643 433 (by kernel_rfl)) (mk 449 "wholeamounts.equations" 873 448 (by kernel_rfl)) (gk 461 "wholeamounts.equations" 873 460 (by kernel_rfl)) (gk 468 "wholeamounts.equations" 873 467 (by kernel_rfl)) (by kernel_rfl) (by kernel_rfl) (by kernel_rfl) (by kernel_rfl) (gk 482 "wholeamounts.desk" 934 481 (by kernel_rfl)) (gk 489 "wholeamounts.desk" 934 488 (by kernel_rfl)) ⟨354,(by kernel_rfl)⟩ ⟨356,(by kernel_rfl)⟩ ⟨358,(by kernel_rfl)⟩ ⟨360,(by kernel_rfl)⟩ ⟨362,(by kernel_rfl)⟩ ⟨364,(by kernel_rfl)⟩ ⟨366,(by kernel_rfl)⟩ ⟨368,(by kernel_rfl)⟩ ⟨370,(by kernel_rfl)⟩ ⟨443,(by kernel_rfl)⟩ ⟨446,(by kernel_rfl)⟩ ⟨449,(by kernel_rfl)⟩ ⟨650,(by kernel_rfl)⟩ ⟨652,(by kernel_rfl)⟩ ⟨654,(by kernel_rfl)⟩ ⟨656,(by kernel_rfl)⟩ ⟨658,(by kernel_rfl)⟩ ⟨660,(by kernel_rfl)⟩ ⟨662,(by kernel_rfl)⟩ ⟨664,(by kernel_rfl)⟩ ⟨666,(by kernel_rfl)⟩ ⟨668,(by kernel_rfl)⟩ ⟨880,(by kernel_rfl)⟩ ⟨882,(by kernel_rfl)⟩ ⟨884,(by kernel_rfl)⟩ ⟨936,(by kernel_rfl)⟩ ⟨939,(by kernel_rfl)⟩ ⟨942,(by kernel_rfl)⟩ ⟨945,(by kernel_rfl)⟩ ⟨948,(by kernel_rfl)⟩ (by kernel_rfl) (by kernel_rfl) (by kernel_rfl) (by kernel_rfl) (by kernel_rfl) (by kernel_rfl) (by kernel_rfl) (by kernel_rfl) (by kernel_rfl) (by kernel_rfl) (by kernel_rfl) (by kernel_rfl) (by kernel_rfl) (by kernel_rfl) (by kernel_rfl) (by kernel_rfl)
 case S =>
  intro K PT H xs a hP vb hask hx;cases hx with
  |cons h0 hx =>
   cases hx with
   |cons h1 h3 =>
    cases h3;cases h0 with
    |lst hs0 ha0 =>
     cases h1 with
     |lst hs ha =>
      have e:=L2.ZbQ a.1 _ ha0;subst e;have e:=L2.ZbQ a.2.1 _ ha;subst e;have q:((Codec.inLen 0 30000 a.1&&a.1.all (Codec.inInt 0 255))&&((Codec.inLen 0 100 a.2.1&&a.2.1.all (Codec.inInt 0 18446744073709551615))&&true))=true:=vb;simp only [i3]at q;have hb:∀ x∈a.1,0<=x/\x<=255:=fun x hx=>Codec.inInt_iff.mp (uK.mp q.1.2 x hx);have hn:∀ x∈a.2.1,0<=x/\x<=18446744073709551615:=fun x hx=>Codec.inInt_iff.mp (uK.mp q.2.1.2 x hx);have ef:BK.keptF (a.1,a.2.1.map Int.toNat)=PyYqfkea.kept a.1 a.2.1:=by
       unfold BK.keptF;rw [BK.nat_map fun x hx=>(hn x hx).1]
      refine⟨rfl,L2.Z2j,(a.1,a.2.1.map Int.toNat),_,rfl,fun j i v e1 e2=>?_,fun c8=>⟨_,_,rfl,BK.sq_tbl hP hs0,BK.sq_num (fun x hx=>(hn x hx).1) hP hs,hb,BK.toNat_lt hn⟩,?_,fun H' p hp=>?_⟩
      ·match j,e1,e2 with
       |0,e1,e2=>cases e1;exact e2
       |1,e1,e2=>cases e1;exact e2
       |j+2,e1,e2=>simp at e1
      ·have:=BK.ZbV (a.1,a.2.1.map Int.toNat);rw [<-SP.ZbX (x:=(a.1,a.2.1.map Int.toNat)) hb]at this;exact this
      ·have w9:H' p=some (L2.HO.lst ((BK.keptF (a.1,a.2.1.map Int.toNat)).map L2.V.int)):=hp;rw [ef]at w9;exact .lst (L2.SqL.of w9) (L2.ZbR _)
#print axioms PySem.Challenge.cw_wholeamounts_s07_kept_holds
end
