import PyProof.Rows.All
import Wide.All
import OpenK.AllK
import Wide.FinOn
import Open.Tree
import OpenK.KWalk
import KE.OsHead
import PyProof.EqAt
import PyProof.EqKinds
import PyProof.TupleCall
import KE.BitLaws
import Open.SpecLaws
import KE.OsGo
import PyProof.ExcInit
import PyProof.InstStoreFacts
import PyProof.ExcBaseAll.Exception
import PyProof.ExcArgsOwn
import PyProof.RulesAs
import PyProof.StationsW
import PyProof.ExcAttrAll.Exception
import PyProof.Rows.MatchSeqLen
import KE.KLam
import KE.KSortTupG
import KE.KDictList
import PyProof.DictItems
import PyProof.DictValues
import KE.KPairComp
import KE.KDictSum
import PyProof.DictWalks
import PyProof.FitsBits
import PySem.Challenge.RW_wholeamounts_s07_kept
set_option Elab.async false
set_option linter.all false
set_option maxRecDepth 100000
abbrev aq:=@PySem.W.Frag
abbrev aT:=@List.length_map
abbrev bh:=@List.lookup_cons
abbrev bv:=@List.mem_cons
abbrev bK:=@Nat.le_refl
abbrev cy:=@PySem.Heap.lt_size
abbrev cY:=@List.mem_cons_self
abbrev dj:=@List.mem_cons_of_mem
abbrev dq:=@List.mem_singleton
abbrev du:=@List.getElem?_eq_getElem
abbrev dy:=@List.mem_append
abbrev dD:=@PySem.Heap.get?_push_of_some
abbrev dI:=@PySem.W.mg_of
abbrev dP:=@List.getElem?_map
abbrev ee:=@List.getElem?_eq_some_iff
abbrev ei:=@List.map_cons
abbrev eF:=@Nat.ne_of_lt
abbrev fh:=@Bool.false_ne_true
abbrev fi:=@PySem.Heap.get?_push_size
abbrev fj:=@Nat.zero_le
abbrev fL:=@List.map_append
abbrev fY:=@List.size_toArray
abbrev gB:=@List.length_cons
abbrev gC:=@List.length_append
abbrev gK:=@List.mem_of_getElem?
abbrev ik:=@Nat.lt_irrefl
abbrev ij:=@List.not_mem_nil
abbrev iC:=@Nat.lt_of_lt_of_le
abbrev iD:=@Nat.le_trans
abbrev iZ:=@Bool.and_eq_true
abbrev i3:=@List.mem_map
abbrev jL:=@List.map_map
abbrev jM:=@List.getD_eq_getElem?_getD
abbrev jX:=@List.mem_append_left
abbrev jY:=@List.append_nil
abbrev jZ:=@PySem.Heap.get?_update_other
abbrev kn:=@Nat.ne_of_gt
abbrev ko:=@List.mem_append_right
abbrev kq:=@PySem.Heap.size_push
abbrev lz:=@List.nodup_cons
abbrev lA:=@List.length_nil
abbrev lB:=@Int.toNat_of_nonneg
abbrev lW:=@List.length_take
abbrev lX:=@PySem.Heap.get?_update_self
abbrev lY:=@PySem.W.ns_none_of
abbrev mI:=@List.getElem?_append_left
abbrev mJ:=@List.take_succ
abbrev qu:=@Nat.lt_trans
abbrev qv:=@Array.getElem?_eq_some_iff
abbrev qw:=@List.take_length
abbrev qX:=@List.find?_cons
abbrev qY:=@List.map_congr_left
abbrev qZ:=@List.nodup_append
abbrev rg:=@List.length_range
abbrev uH:=@List.getElem?_append_right
abbrev uI:=@List.nodup_nil
abbrev uJ:=@List.all_eq_true
abbrev uK:=@Nat.sub_self
abbrev vS:=@Nat.le_of_lt
abbrev vT:=@Nat.le_of_eq
abbrev vU:=@PySem.W.callWith_K
abbrev zb:=@Bool.and_eq_true_iff
abbrev zc:=@List.filterMap_cons
abbrev zd:=@Nat.lt_succ_of_lt
abbrev ze:=@Option.map_some
abbrev zf:=@Nat.le_add_right
abbrev zg:=@List.filter_cons_of_pos
abbrev zh:=@List.filter_cons_of_neg
abbrev zi:=@Nat.sub_zero
abbrev zj:=@List.getElem?_eq_none_iff
abbrev AJ:=@List.foldl_cons
abbrev AK:=@Array.length_toList
abbrev AL:=@List.mem_range
abbrev AM:=@PySem.Heap.get?_none_of_le
abbrev AN:=@List.getElem?_set_self
abbrev AO:=@Int.toNat_natCast
abbrev AQ:=@List.length_drop
abbrev AR:=@List.any_cons
abbrev AB:=@Bool.false_eq_true
abbrev AC:=@Option.isSome_map
abbrev AD:=@Array.getElem?_eq_getElem
abbrev AE:=@List.nil_append
abbrev AF:=@List.pairwise_cons
abbrev AG:=@PySem.F.plainAttrs_list
abbrev AH:=@List.getElem_mem
abbrev AI:=@List.getElem_range
abbrev EV:=@Option.map_eq_some_iff
abbrev EW:=@List.getElem?_set_ne
abbrev EY:=@Bool.eq_iff_iff
abbrev EZ:=@Nat.lt_succ_self
abbrev E2:=@List.of_mem_zip
abbrev E3:=@List.length_singleton
abbrev E4:=@Nat.le_of_succ_le
abbrev E5:=@List.cons_append
abbrev E6:=@List.contains_cons
abbrev E7:=@List.eq_nil_of_length_eq_zero
abbrev E8:=@List.zip_cons_cons
abbrev E9:=@PySem.F.slot_list_append
abbrev Fa:=@PySem.F.type_list_append
abbrev Fb:=@Option.getD_some
abbrev G0:=@PySem.W.plainGet_of
abbrev G5:=@PySem.W.looks_findIn
abbrev G6:=@PySem.W.methodCall_KW
abbrev G7:=@List.length_replicate
abbrev G8:=@Array.getElem?_toList
abbrev G9:=@List.getElem?_eq_none
abbrev Ha:=@Array.getElem?_eq_none
abbrev Hb:=@PySem.F.store_Exception
abbrev Hc:=@List.drop_eq_getElem_cons
abbrev Hd:=@Int.mul_le_mul_of_nonneg_left
abbrev He:=@List.mem_map_of_mem
abbrev aa:=@PySem.wpAny_bind
abbrev ac:=@if_neg
abbrev ae:=@if_pos
abbrev af:=@PySem.wpAny_pure
abbrev ag:=@decide_eq_true_iff
abbrev ai:=@decide_eq_true
abbrev ak:=@PySem.sizeLine_eq
abbrev ap:=@of_decide_eq_true
abbrev au:=@congrArg
abbrev aw:=@decide_eq_false
abbrev ax:=@PySem.wpAny_mono
abbrev aA:=@PySem.wpAny_newObj_type
abbrev aG:=@beq_iff_eq
abbrev aL:=@PySem.wpAny_field
abbrev aO:=@beq_eq_false_iff_ne
abbrev aS:=@PySem.wpAny_Call_Name_kw
abbrev aX:=@PySem.wpAny_loadName_local
abbrev a0:=@PySem.wpAny_loadPart_at
abbrev bi:=@PySem.tupleKind_room_in1
abbrev bo:=@PySem.wpAny_standAt
abbrev bu:=@if_false
abbrev bw:=@PySem.wpAny_holding
abbrev bz:=@not_false_eq_true
abbrev bD:=@PySem.wpAny_setField
abbrev b8:=@not_or
abbrev cj:=@PySem.wpAny_Name
abbrev cq:=@PySem.plainObj_wpAny_Assign_Attribute
abbrev cr:=@if_true
abbrev cF:=@PySem.wpAny_call_entry
abbrev cG:=@PySem.wpAny_execs_cons
abbrev cJ:=@PySem.wpAny_typeNameOfWhole_itemiter
abbrev cP:=@not_true_eq_false
abbrev cQ:=@PySem.wpAny_typeNameOfWhole_keyiter
abbrev cR:=@PySem.wpAny_passesOwn
abbrev c9:=@PySem.wpAny_dictEntries
abbrev df:=@PySem.wpAny_truthy_bool
abbrev dz:=@PySem.codeAny_mono
abbrev dB:=@PySem.wpAny_typeNameOf_itemiter
abbrev dO:=@PySem.wpAny_typeNameOf_keyiter
abbrev dS:=@PySem.wpAny_dictEpoch
abbrev dU:=@PySem.wpAny_execs_nil
abbrev d5:=@PySem.wpAny_setField_rec
abbrev d6:=@PySem.wpAny_callSpecial?_slot
abbrev eG:=@PySem.builtinLookup_eq_fast
abbrev eI:=@PySem.codeAny_handlers_test
abbrev fu:=@PySem.pushCells_keeps
abbrev fV:=@PySem.wpAny_handleBy_cons
abbrev fX:=@PySem.wpAny_isSubtype_exc
abbrev gT:=@bne_iff_ne
abbrev iy:=@PySem.wpAny_attempt
abbrev i5:=@and_true
abbrev jI:=@PySem.wpAny_call
abbrev jJ:=@PySem.wpAny_isOneOf_itemiter
abbrev jS:=@PySem.typeLookup_type
abbrev jT:=@PySem.wpAny_loadPart'
abbrev lU:=@PySem.wpAny_fieldsOf
abbrev lV:=@PySem.wpAny_throw
abbrev rJ:=@and_congr_right
abbrev yU:=@PySem.wpAny_Call_method
abbrev yV:=@PySem.wpAny_assign_Name
abbrev EK:=@PySem.wpAny_Dict_empty
abbrev F5:=@ne_eq
set_option compiler.extract_closed false
noncomputable section
theorem aR(h:True:=by rfl):True:=h
theorem aI(h:True:=by intro _;rfl):True:=h
theorem aF(h:True:=by first |exact .inl rfl |exact .inr rfl |assumption):True:=h
theorem aV(h:True:=by first |exact Or.inl rfl |exact Or.inr (Or.inl rfl) |exact Or.inr (Or.inr rfl)):True:=h
section
namespace HT
open PySem PySem.W
noncomputable def tR(tb:String->Option Builtin)(p:Program)(w:World)(n₀:Nat)(zF:Option Value):Nat->SharedT->Thread->Option SharedT
 |0,_,_=>none
 |n+1,s,t=>match through t with
  |true=>some s
  |false=>match stepOk n₀ zF t with
   |false=>none
   |true=>match stepT (denote tb) p w s t with
    |some (s',t')=>tR tb p w n₀ zF n s' t'
    |none=>none
theorem P4{tb:String->Option Builtin}{p:Program}{w:World}{n₀:Nat}{zF:Option Value}:∀ {n:Nat}{s s':SharedT}{t:Thread},tR tb p w n₀ zF n s t=some s'->topRun tb p w n₀ zF n s.abs t=some s'.abs
 |0,_,_,_,h=>by cases h
 |n+1,s,s',t,h=>by
  unfold tR at h;unfold topRun;cases ht:through t with
  |true=>rw [ht]at h;cases h;rfl
  |false =>
   rw [ht]at h;cases hk:stepOk n₀ zF t with
   |false=>rw [hk]at h;cases h
   |true =>
    rw [hk]at h;cases hs:stepT (denote tb) p w s t with
    |none=>rw [hs]at h;cases h
    |some r=>obtain⟨s₂,t₂⟩:=r;rw [hs]at h;rw [stepT_spec hs];exact P4 h
def we:List Obj->Nat->BT->BT
 |[],_,t=>t
 |o::l,n,t=>we l (n+1) (t.ins n o)
def iL:List Obj->Nat->BT->Bool
 |[],_,_=>true
 |o::l,n,t=>((t.ins n o).get n).isSome&&iL l (n+1) (t.ins n o)
theorem Of{life:Life}:∀ (l:List Obj)(n:Nat)(t:BT),iL l n t=true->absHeap (we l n t) (n+l.length) life=l.foldl Heap.push (absHeap t n life)
 |[],n,t,_=>rfl
 |o::l,n,t,h=>by
  unfold iL at h;obtain⟨h1,h2⟩:=zb.mp h;have e:=Of (life:=life) l (n+1) (t.ins n o) h2;rw [absHeap_ins h1]at e;show absHeap (we l (n+1) (t.ins n o)) (n+(l.length+1)) life=_;rw [show n+(l.length+1)=n+1+l.length by omega,e]
  rfl
theorem Pb{life:Life}:∀ (l:List Obj)(a:Array Obj),l.foldl Heap.push ⟨a,life⟩=⟨a++l.toArray,life⟩
 |[],a=>by simp
 |o::l,a=>by
  rw [AJ];show l.foldl Heap.push ⟨a.push o,life⟩=_;rw [Pb l (a.push o)];simp
def RJ(s:Shared):SharedT:=⟨we s.heap.objs.toList 0 .nil,s.heap.objs.size,s.heap.life,s.gens,s.drawn,s.toks,s.os⟩
theorem uo{s:Shared}(h:iL s.heap.objs.toList 0 .nil=true):(RJ s).abs=s:=by
 have e:=Of (life:=s.heap.life) s.heap.objs.toList 0 .nil h;rw [Nat.zero_add,AK]at e;have e2:absHeap .nil 0 s.heap.life=⟨#[],s.heap.life⟩:=rfl;rw [e2,Pb]at e;obtain⟨⟨objs,life⟩,g,d,t,o⟩:=s;have e3:absHeap (we objs.toList 0 .nil) objs.size life=⟨objs,life⟩:=by
  have e':absHeap (we objs.toList 0 .nil) objs.size life=⟨#[]++objs.toList.toArray,life⟩:=e;rw [e'];simp
 show(⟨absHeap (we objs.toList 0 .nil) objs.size life,g,d,t,o⟩:Shared)=_;rw [e3]
noncomputable def endsT(p:Program)(w:World)(N:Nat):Option (Shared×SharedT):=(fencedOpening treeTable p w N).bind fun s₀ =>
 match (s₀.heap.isNs mainGlobals&&s₀.gens.size==0)&&iL s₀.heap.objs.toList 0 .nil with
 |true=>(tR treeTable p w s₀.heap.objs.size (s₀.heap.nsMap mainGlobals "__annotations__") N (RJ s₀) (topStub p)).map fun s=>(s₀,s)
 |false=>none
def getT(s:SharedT)(a:Addr):Option Obj:=match Nat.blt a s.n with
 |true=>match s.tree.get a with
  |some o=>alive o
  |none=>none
 |false=>none
theorem nY{s:SharedT}{a:Addr}{o:Obj}(h:getT s a=some o):s.abs.heap.get? a=some o:=by
 unfold getT at h;cases hb:Nat.blt a s.n with
 |false=>rw [hb]at h;cases h
 |true =>
  rw [hb]at h;have lt:a<s.n:=Nat.ble_eq.mp hb;cases hg:s.tree.get a with
  |none=>rw [hg]at h;cases h
  |some x =>
   rw [hg]at h;exact(abs_get lt hg).trans h
def chkT(p:Program)(x:Shared×SharedT):Bool:=staticsOk (importedModules p.main.body) x.1.heap x.2.abs.heap&&namesBound p x.2.abs.heap&&gensDone x.2.abs&&laidKept x.1.heap x.2.abs.heap
def seen1(q:Program)(loose eO:List Str)(Xt:Shared->Bool)(s:Shared):=match openSeen q loose eO Xt true s with |(a,_)=>a
def seen2(q:Program)(loose eO:List Str)(Xt:Shared->Bool)(s:Shared):=match openSeen q loose eO Xt true s with |(_,a,_,c,_)=>(a,c)
def seen5(q:Program)(loose eO:List Str)(Xt:Shared->Bool)(s:Shared):=match openSeen q loose eO Xt true s with |(_,_,b,_)=>b
def seen3(q:Program)(loose eO:List Str)(Xt:Shared->Bool)(s:Shared):=match openSeen q loose eO Xt true s with |(_,_,_,_,a,b,_)=>(a,b)
def seen4(q:Program)(loose eO:List Str)(Xt:Shared->Bool)(s:Shared):=match openSeen q loose eO Xt true s with |(_,_,_,_,_,_,c)=>c
theorem pT{q:Program}{loose eO:List Str}{Xt:Shared->Bool}{s:Shared}(h1:seen1 q loose eO Xt s=(openGood q loose).1)(h2:seen2 q loose eO Xt s=((openGood q loose).2.1,true))(h5:seen5 q loose eO Xt s=true)(h3:seen3 q loose eO Xt s=((openGood q loose).2.2.2.2.1,(openGood q loose).2.2.2.2.2.1))
  (h4:seen4 q loose eO Xt s=(openGood q loose).2.2.2.2.2.2):openSeen q loose eO Xt true s=openGood q loose:=by
 have a:=au Prod.fst h2;have c:=au Prod.snd h2;have d:=au Prod.fst h3;have e:=au Prod.snd h3;exact Prod.ext h1 (Prod.ext a (Prod.ext h5 (Prod.ext c (Prod.ext d (Prod.ext e h4)))))
theorem Qa{s:SharedT}:∀ {as:List Addr}{K:Frag},as.map (getT s)=K.map (fun p=>some p.2)->as.map s.abs.heap.get?=K.map (fun p=>some p.2)
 |[],[],_=>rfl
 |[],_::_,h=>by cases h
 |_::_,[],h=>by cases h
 |a::as,k::K,h=>by
  rw [ei,ei]at h;injection h with h1 h2
  rw [ei,ei,nY h1,Qa h2]
theorem left_of{p q:Program}{loose:List Str}{Xt:Shared->Bool}{as:List Addr}{K:Params->Frag}{e:∀ P,as=(K P).map (·.1)}{N:Nat}
  (hA:∀ w:World,(endsT p w N).map (fun x=>(chkT p x,as.map (getT x.2)))=some (true,(K w.params).map fun p=>some p.2))(hB:∀ w:World,(endsT p w N).map (fun x=>seen1 q loose (importedModules p.main.body) Xt x.2.abs)=some (openGood q loose).1)(hD:∀ w:World,(endsT p w N).map (fun x=>seen2 q loose (importedModules p.main.body) Xt x.2.abs)=some ((openGood q loose).2.1,true))(hG:∀ w:World,(endsT p w N).map (fun x=>seen5 q loose (importedModules p.main.body) Xt x.2.abs)=some true)
  (hE:∀ w:World,(endsT p w N).map (fun x=>seen3 q loose (importedModules p.main.body) Xt x.2.abs)=some ((openGood q loose).2.2.2.2.1,(openGood q loose).2.2.2.2.2.1))(hF:∀ w:World,(endsT p w N).map (fun x=>seen4 q loose (importedModules p.main.body) Xt x.2.abs)=some (openGood q loose).2.2.2.2.2.2):LeftO p q loose Xt (kHook K as e).obs (kHook K as e).val N:=fun w=>by
 obtain⟨⟨s₀,sT⟩,h1,g0⟩:=EV.mp (hA w);have g2:=hB w;have g4:=hD w;have g5:=hE w;have g6:=hF w;have g7:=hG w;rw [h1]at g2 g4 g5 g6 g7;have g1:(staticsOk (importedModules p.main.body) s₀.heap sT.abs.heap&&namesBound p sT.abs.heap&&gensDone sT.abs&&laidKept s₀.heap sT.abs.heap)=true:=au Prod.fst g0;have g2:=pT (Option.some.inj g2) (Option.some.inj g4) (Option.some.inj g7) (Option.some.inj g5) (Option.some.inj g6);have g3:=au Prod.snd g0;unfold endsT at h1;obtain⟨s₁,h3,h4⟩:=Option.bind_eq_some_iff.mp h1;cases hc:(s₁.heap.isNs mainGlobals&&s₁.gens.size==0)&&iL s₁.heap.objs.toList 0 .nil with
 |false=>rw [hc]at h4;cases h4
 |true =>
  rw [hc]at h4;obtain⟨c1,c2⟩:=zb.mp hc;obtain⟨s₂,h5,h6⟩:=EV.mp h4;cases h6;have r:=P4 h5;rw [uo c2]at r;unfold openEnds;rw [h3];show(topFrom treeTable p w N s₀).map _=_;unfold topFrom;rw [c1,r];show((match staticsOk (importedModules p.main.body) s₀.heap sT.abs.heap&&namesBound p sT.abs.heap&&gensDone sT.abs&&laidKept s₀.heap sT.abs.heap with |true=>some sT.abs |false=>none):Option Shared).map _=_
  rw [g1];exact au some (Prod.ext g2 (Qa g3))
end HT
end
section
namespace BK
open PySem PySem.Spec PyProof.Rows
def tp(i:Nat):Stmt:=PySem.Challenge.pw_wholeamounts_s07_kept.main.body.getD i (.Pass ⟨0,0,0,0⟩)
def tc(i j:Nat):Stmt:=match tp i with
 |.ClassDef _ _ _ b _ _ _ _ _ _ _=>b.getD j (.Pass ⟨0,0,0,0⟩)
 |s=>s
noncomputable def fo(n q:Str)(st:Stmt)(dV kV dc pm:Value)(an:Option Addr)(cd ct:Value):Data:=match st with
 |.FunctionDef _ a b _ _ _ sc _ _ _=>.func (PySem.W.fnOf n q a b sc dV kV dc pm an cd ct)
 |_=>.plain
noncomputable def qV:Program:={ PySem.Challenge.pw_wholeamounts_s07_kept with main:={ PySem.Challenge.pw_wholeamounts_s07_kept.main with body:=[tp 1,tp 2,tp 3,tp 4,tp 6,tp 8,tp 9,tp 10,tp 12,tp 13,tp 14,tp 15,tp 16,tp 18,tp 19,tp 20,tp 21,tp 22,tp 23,tp 24,tp 25,tp 26,tp 27,tp 29,tp 30,tp 31,tp 32,tp 33,tp 34,tp 35,tp 36,tp 38,tp 39,tp 40,tp 41,tp 42,tp 43,tp 44,tp 45,tp 46,tp 47,tp 48,tp 49,tp 50,tp 51,tp 52,tp 53,tp 54,tp 55,tp 56,tp 57,tp 58,tp 59,tp 60,tp 61,tp 62,tp 64,tp 65,tp 66,tp 67,tp 68,tp 69,tp 70,tp 72,tp 73,tp 74,tp 75,tp 76,tp 77,tp 78,tp 79] } }
end BK
namespace HD
open PySem BK
noncomputable def d(P:Params)(k:Str)(t:Tok)(v:Value):DictEntry:=⟨PyData.keyHash P k,.str k t,v⟩
abbrev i(z:Int):Value:=.int z 0
abbrev r:Addr->Value:=.ref
abbrev s:Str->Tok->Value:=.str
abbrev u:Tok->Value:=.str "/claim/cut.py"
abbrev n:Value:=.none
abbrev t(a:Addr)(l:Array Value):Addr×Obj:=(a,⟨.type "tuple",none,.seq l 0,#[]⟩)
abbrev c(a:Addr)(l:Array Value):Addr×Obj:=(a,⟨.type "code",none,.fields l,#[]⟩)
noncomputable abbrev f(a:Addr)(x q:Str)(st:Stmt)(v:Value)(m:Str)(k:Tok)(c:Addr):Addr×Obj:=(a,⟨.type "function",none,fo x q st v .none .none (.str m k) none (.ref c) .none,#[]⟩)
noncomputable def KF(P:Params):aq:=[
(3,⟨(.type "dict"),none,(.dict #[d P "__name__" 165 (s "wholeamounts.desk" 934),d P "__doc__" 166 n,d P "__package__" 167 n,d P "__loader__" 168 (.builtin "__main__.__loader__#opaque"),d P "__spec__" 169 n,d P "__annotations__" 170 (r 6),d P "__builtins__" 171 (r 4),d P "__file__" 173 (u 172),d P "__cached__" 174 n,d P "Fault" 222 (r 32),d P "WrongNumbers" 242 (r 45),d P "NotThere" 262 (r 58),d P "TooGreat" 282 (r 71),d P "product" 290 (r 79),d P "HYDROGEN" 295 (r 80),d P "count_units" 304 (r 87),d P "add_units" 313 (r 94),d P "signed_molecules" 321 (r 99),d P "unit_rows" 327 (r 104),d P "charge_row" 333 (r 109),d P "refuse_numbers" 341 (r 116),d P "kept_row" 351 (r 123),d P "WRONG_MARK" 355 (.int 1 354),d P "OUT_OF_BOUNDS" 357 (.int 2 356),d P "NOT_BEHIND" 359 (.int 3 358),d P "WRONG_HAND" 361 (.int 4 360),d P "ENDS_EARLY" 363 (.int 5 362),d P "WRONG_SIDE" 365 (.int 6 364),d P "LEFT_OVER" 367 (.int 7 366),d P "MOST_ELEMENT" 369 (.int 118 368),d P "MOST_ISOTOPE" 371 (.int 500 370),d P "Reader" 440 (r 168),d P "UP" 444 (.int 1 443),d P "DOWN" 447 (.int (-1) 446),d P "MIDDLE" 450 (.int (-1) 449),d P "Way" 483 (r 189),d P "Search" 616 (r 280),d P "ways_at" 622 (r 289),d P "is_fixed_double" 631 (r 296),d P "can_go" 642 (r 303),d P "MARK_molecules" 649 (r 304),d P "MOST_ATOMS" 651 (.int 128 650),d P "MOST_BONDS" 653 (.int 192 652),d P "MOST_CHARGE" 655 (.int 4 654),d P "MOST_HYDROGENS" 657 (.int 7 656),d P "MOST_HAND" 659 (.int 2 658),d P "MOST_ORDER" 661 (.int 3 660),d P "MOST_SIDE" 663 (.int 2 662),d P "HEAD_SIZE" 665 (.int 6 664),d P "ATOM_SIZE" 667 (.int 6 666),d P "BOND_SIZE" 669 (.int 4 668),d P "BEFORE_ALL" 672 (r 305),d P "Atom" 709 (r 322),d P "Bond" 744 (r 343),d P "Molecule" 775 (r 364),d P "read_molecule" 784 (r 375),d P "read_parts" 790 (r 380),d P "read_atom" 802 (r 387),d P "read_bond" 816 (r 394),d P "neighbour_counts" 822 (r 399),d P "refuse_wrong_hands" 832 (r 406),d P "may_have_hand" 840 (r 413),d P "refuse_wrong_sides" 852 (r 420),d P "may_have_side" 864 (r 427),d P "may_end_a_side" 872 (r 434),d P "MARK_equations" 879 (r 435),d P "MOST_ON_A_SIDE" 881 (.int 8 880),d P "MOST_SIZE" 883 (.int 65535 882),d P "WITHIN_MOLECULE" 885 (.int 16 884),d P "Equation" 916 (r 452),d P "read_equation" 922 (r 461),d P "read_member" 933 (r 468),d P "ANSWERED" 937 (.int 0 936),d P "WRONG_NUMBERS" 940 (.int (-1) 939),d P "NOT_THERE" 943 (.int (-2) 942),d P "FAULTY_FORM" 946 (.int (-5) 945),d P "TOO_GREAT" 949 (.int (-6) 948),d P "kept" 959 (r 475),d P "tell_kept" 968 (r 482),d P "answer" 976 (r 489)] 80),#[]⟩),
t 22 #[(.int 0 201)],
c 28 #[(s "__init__" 202),(s "Fault.__init__" 203),(u 204),(i 4),(i 4),(i 0),(i 0),(i 3),(r 23),(.bool true),(i 181),(r 24),n,(r 25),(r 26),(r 27),(i 209),(i 4),(u 210)],
f 29 "__init__" "Fault.__init__" (tc 1 0) (r 22) "wholeamounts.refusals" 187 28,
(31,⟨(.type "dict"),none,(.dict #[d P "__module__" 196 (s "wholeamounts.refusals" 187),d P "__firstlineno__" 200 (.int 2 199),d P "__init__" 211 (r 29),d P "__static_attributes__" 215 (r 30),d P "__weakref__" 217 (r 33),d P "__doc__" 218 n] 3),#[]⟩),
(32,⟨(.type "type"),none,(.cls ⟨"Fault",[(.type "Exception")],[(r 32),(.type "Exception"),(.type "BaseException"),(.type "object")],31,"Fault",true,[],[],false,none,false⟩),#[(some (r 15)),none,(some (s "Fault" 189)),(some (s "Fault" 197)),(some (.builtin "Exception.__new__")),(some (.bool true))]⟩),
(44,⟨(.type "dict"),none,(.dict #[d P "__module__" 230 (s "wholeamounts.refusals" 187),d P "__firstlineno__" 234 (.int 8 233),d P "__static_attributes__" 235 (r 43),d P "__weakref__" 237 (r 46),d P "__doc__" 238 n] 3),#[]⟩),
(45,⟨(.type "type"),none,(.cls ⟨"WrongNumbers",[(.type "Exception")],[(r 45),(.type "Exception"),(.type "BaseException"),(.type "object")],44,"WrongNumbers",true,[],[],false,none,false⟩),#[(some (r 36)),none,(some (s "WrongNumbers" 223)),(some (s "WrongNumbers" 231)),(some (.builtin "Exception.__new__")),(some (.bool true))]⟩),
(57,⟨(.type "dict"),none,(.dict #[d P "__module__" 250 (s "wholeamounts.refusals" 187),d P "__firstlineno__" 254 (.int 10 253),d P "__static_attributes__" 255 (r 56),d P "__weakref__" 257 (r 59),d P "__doc__" 258 n] 3),#[]⟩),
(58,⟨(.type "type"),none,(.cls ⟨"NotThere",[(.type "Exception")],[(r 58),(.type "Exception"),(.type "BaseException"),(.type "object")],57,"NotThere",true,[],[],false,none,false⟩),#[(some (r 49)),none,(some (s "NotThere" 243)),(some (s "NotThere" 251)),(some (.builtin "Exception.__new__")),(some (.bool true))]⟩),
(70,⟨(.type "dict"),none,(.dict #[d P "__module__" 270 (s "wholeamounts.refusals" 187),d P "__firstlineno__" 274 (.int 12 273),d P "__static_attributes__" 275 (r 69),d P "__weakref__" 277 (r 72),d P "__doc__" 278 n] 3),#[]⟩),
(71,⟨(.type "type"),none,(.cls ⟨"TooGreat",[(.type "Exception")],[(r 71),(.type "Exception"),(.type "BaseException"),(.type "object")],70,"TooGreat",true,[],[],false,none,false⟩),#[(some (r 62)),none,(some (s "TooGreat" 263)),(some (s "TooGreat" 271)),(some (.builtin "Exception.__new__")),(some (.bool true))]⟩),
c 78 #[(s "product" 285),(s "product" 286),(u 287),(i 15),(i 2),(i 0),(i 0),(i 3),(r 75),(.bool true),(i 181),(r 76),n,n,n,(r 77),(i 288),(i 15),(u 289)],
f 79 "product" "product" (tp 6) n "wholeamounts.rows" 283 78,
t 80 #[(.int 1 293),(.int 0 294)],
c 86 #[(s "count_units" 296),(s "count_units" 297),(u 298),(i 19),(i 1),(i 0),(i 0),(i 3),(r 81),(.bool true),(i 181),(r 82),n,(r 83),(r 84),(r 85),(i 302),(i 19),(u 303)],
f 87 "count_units" "count_units" (tp 9) n "wholeamounts.formulas" 291 86,
c 93 #[(s "add_units" 305),(s "add_units" 306),(u 307),(i 25),(i 3),(i 0),(i 0),(i 3),(r 88),(.bool true),(i 181),(r 89),n,(r 90),(r 91),(r 92),(i 311),(i 25),(u 312)],
f 94 "add_units" "add_units" (tp 10) n "wholeamounts.formulas" 291 93,
c 98 #[(s "signed_molecules" 316),(s "signed_molecules" 317),(u 318),(i 29),(i 1),(i 0),(i 0),(i 3),(r 95),(.bool true),(i 181),(r 96),n,n,n,(r 97),(i 319),(i 29),(u 320)],
f 99 "signed_molecules" "signed_molecules" (tp 12) n "wholeamounts.balance" 314 98,
c 103 #[(s "unit_rows" 322),(s "unit_rows" 323),(u 324),(i 31),(i 1),(i 0),(i 0),(i 3),(r 100),(.bool true),(i 181),(r 101),n,n,n,(r 102),(i 325),(i 31),(u 326)],
f 104 "unit_rows" "unit_rows" (tp 13) n "wholeamounts.balance" 314 103,
c 108 #[(s "charge_row" 328),(s "charge_row" 329),(u 330),(i 40),(i 1),(i 0),(i 0),(i 3),(r 105),(.bool true),(i 181),(r 106),n,n,n,(r 107),(i 331),(i 40),(u 332)],
f 109 "charge_row" "charge_row" (tp 14) n "wholeamounts.balance" 314 108,
c 115 #[(s "refuse_numbers" 334),(s "refuse_numbers" 335),(u 336),(i 42),(i 2),(i 0),(i 0),(i 3),(r 110),(.bool true),(i 181),(r 111),n,(r 112),(r 113),(r 114),(i 339),(i 42),(u 340)],
f 116 "refuse_numbers" "refuse_numbers" (tp 15) n "wholeamounts.balance" 314 115,
c 122 #[(s "kept_row" 342),(s "kept_row" 343),(u 344),(i 45),(i 2),(i 0),(i 0),(i 3),(r 117),(.bool true),(i 181),(r 118),n,(r 119),(r 120),(r 121),(i 349),(i 45),(u 350)],
f 123 "kept_row" "kept_row" (tp 16) n "wholeamounts.balance" 314 122,
c 136 #[(s "__init__" 384),(s "Reader.__init__" 385),(u 386),(i 65),(i 2),(i 0),(i 0),(i 3),(r 131),(.bool true),(i 181),(r 132),n,(r 133),(r 134),(r 135),(i 389),(i 65),(u 390)],
f 137 "__init__" "Reader.__init__" (tc 27 0) n "wholeamounts.reading" 352 136,
c 143 #[(s "expect_mark" 392),(s "Reader.expect_mark" 393),(u 394),(i 69),(i 2),(i 0),(i 0),(i 3),(r 138),(.bool true),(i 181),(r 139),n,(r 140),(r 141),(r 142),(i 398),(i 69),(u 399)],
f 144 "expect_mark" "Reader.expect_mark" (tc 27 1) n "wholeamounts.reading" 352 143,
c 150 #[(s "take" 401),(s "Reader.take" 402),(u 403),(i 77),(i 2),(i 0),(i 0),(i 3),(r 145),(.bool true),(i 181),(r 146),n,(r 147),(r 148),(r 149),(i 408),(i 77),(u 409)],
f 151 "take" "Reader.take" (tc 27 2) n "wholeamounts.reading" 352 150,
c 157 #[(s "number" 411),(s "Reader.number" 412),(u 413),(i 85),(i 4),(i 0),(i 0),(i 3),(r 152),(.bool true),(i 181),(r 153),n,(r 154),(r 155),(r 156),(i 421),(i 85),(u 422)],
f 158 "number" "Reader.number" (tc 27 3) n "wholeamounts.reading" 352 157,
c 164 #[(s "finish" 424),(s "Reader.finish" 425),(u 426),(i 94),(i 1),(i 0),(i 0),(i 3),(r 159),(.bool true),(i 181),(r 160),n,(r 161),(r 162),(r 163),(i 428),(i 94),(u 429)],
f 165 "finish" "Reader.finish" (tc 27 4) n "wholeamounts.reading" 352 164,
(167,⟨(.type "dict"),none,(.dict #[d P "__module__" 379 (s "wholeamounts.reading" 352),d P "__firstlineno__" 383 (.int 63 382),d P "__init__" 391 (r 137),d P "expect_mark" 400 (r 144),d P "take" 410 (r 151),d P "number" 423 (r 158),d P "finish" 430 (r 165),d P "__static_attributes__" 433 (r 166),d P "__dict__" 435 (r 169),d P "__weakref__" 437 (r 170),d P "__doc__" 438 n] 4),#[]⟩),
(168,⟨(.type "type"),none,(.cls ⟨"Reader",[(.type "object")],[(r 168),(.type "object")],167,"Reader",true,[],[],false,none,false⟩),#[none,none,(some (s "Reader" 372)),(some (s "Reader" 380)),(some (.builtin "object.__new__")),(some (.bool true))]⟩),
c 185 #[(s "__init__" 463),(s "Way.__init__" 464),(u 465),(i 103),(i 4),(i 0),(i 0),(i 3),(r 180),(.bool true),(i 181),(r 181),n,(r 182),(r 183),(r 184),(i 470),(i 103),(u 471)],
f 186 "__init__" "Way.__init__" (tc 32 0) n "wholeamounts.redrawing" 441 185,
(188,⟨(.type "dict"),none,(.dict #[d P "__module__" 458 (s "wholeamounts.redrawing" 441),d P "__firstlineno__" 462 (.int 101 461),d P "__init__" 472 (r 186),d P "__static_attributes__" 476 (r 187),d P "__dict__" 478 (r 190),d P "__weakref__" 480 (r 191),d P "__doc__" 481 n] 4),#[]⟩),
(189,⟨(.type "type"),none,(.cls ⟨"Way",[(.type "object")],[(r 189),(.type "object")],188,"Way",true,[],[],false,none,false⟩),#[none,none,(some (s "Way" 451)),(some (s "Way" 459)),(some (.builtin "object.__new__")),(some (.bool true))]⟩),
c 206 #[(s "__init__" 496),(s "Search.__init__" 497),(u 498),(i 109),(i 3),(i 0),(i 0),(i 3),(r 201),(.bool true),(i 181),(r 202),n,(r 203),(r 204),(r 205),(i 502),(i 109),(u 503)],
f 207 "__init__" "Search.__init__" (tc 33 0) n "wholeamounts.redrawing" 441 206,
c 213 #[(s "reach" 505),(s "Search.reach" 506),(u 507),(i 118),(i 5),(i 0),(i 0),(i 3),(r 208),(.bool true),(i 181),(r 209),n,(r 210),(r 211),(r 212),(i 513),(i 118),(u 514)],
f 214 "reach" "Search.reach" (tc 33 1) n "wholeamounts.redrawing" 441 213,
c 220 #[(s "allow" 516),(s "Search.allow" 517),(u 518),(i 124),(i 3),(i 0),(i 0),(i 3),(r 215),(.bool true),(i 181),(r 216),n,(r 217),(r 218),(r 219),(i 522),(i 124),(u 523)],
f 221 "allow" "Search.allow" (tc 33 2) n "wholeamounts.redrawing" 441 220,
c 227 #[(s "comes_back" 525),(s "Search.comes_back" 526),(u 527),(i 129),(i 1),(i 0),(i 0),(i 3),(r 222),(.bool true),(i 181),(r 223),n,(r 224),(r 225),(r 226),(i 530),(i 129),(u 531)],
f 228 "comes_back" "Search.comes_back" (tc 33 3) n "wholeamounts.redrawing" 441 227,
c 234 #[(s "goes_on" 533),(s "Search.goes_on" 534),(u 535),(i 136),(i 3),(i 0),(i 0),(i 3),(r 229),(.bool true),(i 181),(r 230),n,(r 231),(r 232),(r 233),(i 540),(i 136),(u 541)],
f 235 "goes_on" "Search.goes_on" (tc 33 4) n "wholeamounts.redrawing" 441 234,
c 241 #[(s "closes" 543),(s "Search.closes" 544),(u 545),(i 142),(i 4),(i 0),(i 0),(i 3),(r 236),(.bool true),(i 181),(r 237),n,(r 238),(r 239),(r 240),(i 554),(i 142),(u 555)],
f 242 "closes" "Search.closes" (tc 33 5) n "wholeamounts.redrawing" 441 241,
c 248 #[(s "base_of" 557),(s "Search.base_of" 558),(u 559),(i 159),(i 2),(i 0),(i 0),(i 3),(r 243),(.bool true),(i 181),(r 244),n,(r 245),(r 246),(r 247),(i 562),(i 159),(u 563)],
f 249 "base_of" "Search.base_of" (tc 33 6) n "wholeamounts.redrawing" 441 248,
c 255 #[(s "base_before" 565),(s "Search.base_before" 566),(u 567),(i 165),(i 2),(i 0),(i 0),(i 3),(r 250),(.bool true),(i 181),(r 251),n,(r 252),(r 253),(r 254),(i 570),(i 165),(u 571)],
f 256 "base_before" "Search.base_before" (tc 33 7) n "wholeamounts.redrawing" 441 255,
c 262 #[(s "meeting_of" 573),(s "Search.meeting_of" 574),(u 575),(i 168),(i 3),(i 0),(i 0),(i 3),(r 257),(.bool true),(i 181),(r 258),n,(r 259),(r 260),(r 261),(i 581),(i 168),(u 582)],
f 263 "meeting_of" "Search.meeting_of" (tc 33 8) n "wholeamounts.redrawing" 441 262,
c 269 #[(s "fold" 584),(s "Search.fold" 585),(u 586),(i 179),(i 3),(i 0),(i 0),(i 3),(r 264),(.bool true),(i 181),(r 265),n,(r 266),(r 267),(r 268),(i 591),(i 179),(u 592)],
f 270 "fold" "Search.fold" (tc 33 9) n "wholeamounts.redrawing" 441 269,
c 276 #[(s "allow_both" 594),(s "Search.allow_both" 595),(u 596),(i 186),(i 2),(i 0),(i 0),(i 3),(r 271),(.bool true),(i 181),(r 272),n,(r 273),(r 274),(r 275),(i 599),(i 186),(u 600)],
f 277 "allow_both" "Search.allow_both" (tc 33 10) n "wholeamounts.redrawing" 441 276,
(279,⟨(.type "dict"),none,(.dict #[d P "__module__" 491 (s "wholeamounts.redrawing" 441),d P "__firstlineno__" 495 (.int 107 494),d P "__init__" 504 (r 207),d P "reach" 515 (r 214),d P "allow" 524 (r 221),d P "comes_back" 532 (r 228),d P "goes_on" 542 (r 235),d P "closes" 556 (r 242),d P "base_of" 564 (r 249),d P "base_before" 572 (r 256),d P "meeting_of" 583 (r 263),d P "fold" 593 (r 270),d P "allow_both" 601 (r 277),d P "__static_attributes__" 609 (r 278),d P "__dict__" 611 (r 281),d P "__weakref__" 613 (r 282),d P "__doc__" 614 n] 4),#[]⟩),
(280,⟨(.type "type"),none,(.cls ⟨"Search",[(.type "object")],[(r 280),(.type "object")],279,"Search",true,[],[],false,none,false⟩),#[none,none,(some (s "Search" 484)),(some (s "Search" 492)),(some (.builtin "object.__new__")),(some (.bool true))]⟩),
c 288 #[(s "ways_at" 617),(s "ways_at" 618),(u 619),(i 189),(i 2),(i 0),(i 0),(i 3),(r 285),(.bool true),(i 181),(r 286),n,n,n,(r 287),(i 620),(i 189),(u 621)],
f 289 "ways_at" "ways_at" (tp 34) n "wholeamounts.redrawing" 441 288,
c 295 #[(s "is_fixed_double" 623),(s "is_fixed_double" 624),(u 625),(i 195),(i 3),(i 0),(i 0),(i 3),(r 290),(.bool true),(i 181),(r 291),n,(r 292),(r 293),(r 294),(i 629),(i 195),(u 630)],
f 296 "is_fixed_double" "is_fixed_double" (tp 35) n "wholeamounts.redrawing" 441 295,
c 302 #[(s "can_go" 632),(s "can_go" 633),(u 634),(i 197),(i 4),(i 0),(i 0),(i 3),(r 297),(.bool true),(i 181),(r 298),n,(r 299),(r 300),(r 301),(i 640),(i 197),(u 641)],
f 303 "can_go" "can_go" (tp 36) n "wholeamounts.redrawing" 441 302,
t 304 #[(.int 70 645),(.int 75 646),(.int 77 647),(.int 49 648)],
t 305 #[(.int 0 670),(.int 0 671)],
c 318 #[(s "__init__" 685),(s "Atom.__init__" 686),(u 687),(i 217),(i 6),(i 0),(i 0),(i 3),(r 313),(.bool true),(i 181),(r 314),n,(r 315),(r 316),(r 317),(i 694),(i 217),(u 695)],
f 319 "__init__" "Atom.__init__" (tc 50 0) n "wholeamounts.molecules" 643 318,
(321,⟨(.type "dict"),none,(.dict #[d P "__module__" 680 (s "wholeamounts.molecules" 643),d P "__firstlineno__" 684 (.int 215 683),d P "__init__" 696 (r 319),d P "__static_attributes__" 702 (r 320),d P "__dict__" 704 (r 323),d P "__weakref__" 706 (r 324),d P "__doc__" 707 n] 4),#[]⟩),
(322,⟨(.type "type"),none,(.cls ⟨"Atom",[(.type "object")],[(r 322),(.type "object")],321,"Atom",true,[],[],false,none,false⟩),#[none,none,(some (s "Atom" 673)),(some (s "Atom" 681)),(some (.builtin "object.__new__")),(some (.bool true))]⟩),
c 339 #[(s "__init__" 722),(s "Bond.__init__" 723),(u 724),(i 225),(i 5),(i 0),(i 0),(i 3),(r 334),(.bool true),(i 181),(r 335),n,(r 336),(r 337),(r 338),(i 730),(i 225),(u 731)],
f 340 "__init__" "Bond.__init__" (tc 51 0) n "wholeamounts.molecules" 643 339,
(342,⟨(.type "dict"),none,(.dict #[d P "__module__" 717 (s "wholeamounts.molecules" 643),d P "__firstlineno__" 721 (.int 223 720),d P "__init__" 732 (r 340),d P "__static_attributes__" 737 (r 341),d P "__dict__" 739 (r 344),d P "__weakref__" 741 (r 345),d P "__doc__" 742 n] 4),#[]⟩),
(343,⟨(.type "type"),none,(.cls ⟨"Bond",[(.type "object")],[(r 343),(.type "object")],342,"Bond",true,[],[],false,none,false⟩),#[none,none,(some (s "Bond" 710)),(some (s "Bond" 718)),(some (.builtin "object.__new__")),(some (.bool true))]⟩),
c 360 #[(s "__init__" 757),(s "Molecule.__init__" 758),(u 759),(i 232),(i 3),(i 0),(i 0),(i 3),(r 355),(.bool true),(i 181),(r 356),n,(r 357),(r 358),(r 359),(i 763),(i 232),(u 764)],
f 361 "__init__" "Molecule.__init__" (tc 52 0) n "wholeamounts.molecules" 643 360,
(363,⟨(.type "dict"),none,(.dict #[d P "__module__" 752 (s "wholeamounts.molecules" 643),d P "__firstlineno__" 756 (.int 230 755),d P "__init__" 765 (r 361),d P "__static_attributes__" 768 (r 362),d P "__dict__" 770 (r 365),d P "__weakref__" 772 (r 366),d P "__doc__" 773 n] 4),#[]⟩),
(364,⟨(.type "type"),none,(.cls ⟨"Molecule",[(.type "object")],[(r 364),(.type "object")],363,"Molecule",true,[],[],false,none,false⟩),#[none,none,(some (s "Molecule" 745)),(some (s "Molecule" 753)),(some (.builtin "object.__new__")),(some (.bool true))]⟩),
c 374 #[(s "read_molecule" 776),(s "read_molecule" 777),(u 778),(i 235),(i 1),(i 0),(i 0),(i 3),(r 369),(.bool true),(i 181),(r 370),n,(r 371),(r 372),(r 373),(i 782),(i 235),(u 783)],
f 375 "read_molecule" "read_molecule" (tp 53) n "wholeamounts.molecules" 643 374,
c 379 #[(s "read_parts" 785),(s "read_parts" 786),(u 787),(i 241),(i 1),(i 0),(i 0),(i 3),(r 376),(.bool true),(i 181),(r 377),n,n,n,(r 378),(i 788),(i 241),(u 789)],
f 380 "read_parts" "read_parts" (tp 54) n "wholeamounts.molecules" 643 379,
c 386 #[(s "read_atom" 791),(s "read_atom" 792),(u 793),(i 255),(i 1),(i 0),(i 0),(i 3),(r 381),(.bool true),(i 181),(r 382),n,(r 383),(r 384),(r 385),(i 800),(i 255),(u 801)],
f 387 "read_atom" "read_atom" (tp 55) n "wholeamounts.molecules" 643 386,
c 393 #[(s "read_bond" 803),(s "read_bond" 804),(u 805),(i 262),(i 3),(i 0),(i 0),(i 3),(r 388),(.bool true),(i 181),(r 389),n,(r 390),(r 391),(r 392),(i 814),(i 262),(u 815)],
f 394 "read_bond" "read_bond" (tp 56) n "wholeamounts.molecules" 643 393,
c 398 #[(s "neighbour_counts" 817),(s "neighbour_counts" 818),(u 819),(i 271),(i 1),(i 0),(i 0),(i 3),(r 395),(.bool true),(i 181),(r 396),n,n,n,(r 397),(i 820),(i 271),(u 821)],
f 399 "neighbour_counts" "neighbour_counts" (tp 57) n "wholeamounts.molecules" 643 398,
c 405 #[(s "refuse_wrong_hands" 823),(s "refuse_wrong_hands" 824),(u 825),(i 277),(i 2),(i 0),(i 0),(i 3),(r 400),(.bool true),(i 181),(r 401),n,(r 402),(r 403),(r 404),(i 830),(i 277),(u 831)],
f 406 "refuse_wrong_hands" "refuse_wrong_hands" (tp 58) n "wholeamounts.molecules" 643 405,
c 412 #[(s "may_have_hand" 833),(s "may_have_hand" 834),(u 835),(i 281),(i 2),(i 0),(i 0),(i 3),(r 407),(.bool true),(i 181),(r 408),n,(r 409),(r 410),(r 411),(i 838),(i 281),(u 839)],
f 413 "may_have_hand" "may_have_hand" (tp 59) n "wholeamounts.molecules" 643 412,
c 419 #[(s "refuse_wrong_sides" 841),(s "refuse_wrong_sides" 842),(u 843),(i 283),(i 2),(i 0),(i 0),(i 3),(r 414),(.bool true),(i 181),(r 415),n,(r 416),(r 417),(r 418),(i 850),(i 283),(u 851)],
f 420 "refuse_wrong_sides" "refuse_wrong_sides" (tp 60) n "wholeamounts.molecules" 643 419,
c 426 #[(s "may_have_side" 853),(s "may_have_side" 854),(u 855),(i 289),(i 4),(i 0),(i 0),(i 3),(r 421),(.bool true),(i 181),(r 422),n,(r 423),(r 424),(r 425),(i 862),(i 289),(u 863)],
f 427 "may_have_side" "may_have_side" (tp 61) n "wholeamounts.molecules" 643 426,
c 433 #[(s "may_end_a_side" 865),(s "may_end_a_side" 866),(u 867),(i 297),(i 2),(i 0),(i 0),(i 3),(r 428),(.bool true),(i 181),(r 429),n,(r 430),(r 431),(r 432),(i 870),(i 297),(u 871)],
f 434 "may_end_a_side" "may_end_a_side" (tp 62) n "wholeamounts.molecules" 643 433,
t 435 #[(.int 70 875),(.int 75 876),(.int 81 877),(.int 49 878)],
c 448 #[(s "__init__" 898),(s "Equation.__init__" 899),(u 900),(i 306),(i 3),(i 0),(i 0),(i 3),(r 443),(.bool true),(i 181),(r 444),n,(r 445),(r 446),(r 447),(i 904),(i 306),(u 905)],
f 449 "__init__" "Equation.__init__" (tc 68 0) n "wholeamounts.equations" 873 448,
(451,⟨(.type "dict"),none,(.dict #[d P "__module__" 893 (s "wholeamounts.equations" 873),d P "__firstlineno__" 897 (.int 304 896),d P "__init__" 906 (r 449),d P "__static_attributes__" 909 (r 450),d P "__dict__" 911 (r 453),d P "__weakref__" 913 (r 454),d P "__doc__" 914 n] 4),#[]⟩),
(452,⟨(.type "type"),none,(.cls ⟨"Equation",[(.type "object")],[(r 452),(.type "object")],451,"Equation",true,[],[],false,none,false⟩),#[none,none,(some (s "Equation" 886)),(some (s "Equation" 894)),(some (.builtin "object.__new__")),(some (.bool true))]⟩),
c 460 #[(s "read_equation" 917),(s "read_equation" 918),(u 919),(i 309),(i 1),(i 0),(i 0),(i 3),(r 457),(.bool true),(i 181),(r 458),n,n,n,(r 459),(i 920),(i 309),(u 921)],
f 461 "read_equation" "read_equation" (tp 69) n "wholeamounts.equations" 873 460,
c 467 #[(s "read_member" 923),(s "read_member" 924),(u 925),(i 318),(i 1),(i 0),(i 0),(i 3),(r 462),(.bool true),(i 181),(r 463),n,(r 464),(r 465),(r 466),(i 931),(i 318),(u 932)],
f 468 "read_member" "read_member" (tp 70) n "wholeamounts.equations" 873 467,
c 474 #[(s "kept" 950),(s "kept" 951),(u 952),(i 332),(i 2),(i 0),(i 0),(i 3),(r 469),(.bool true),(i 181),(r 470),n,(r 471),(r 472),(r 473),(i 957),(i 332),(u 958)],
f 475 "kept" "kept" (tp 77) n "wholeamounts.desk" 934 474,
c 481 #[(s "tell_kept" 960),(s "tell_kept" 961),(u 962),(i 334),(i 2),(i 0),(i 0),(i 3),(r 476),(.bool true),(i 181),(r 477),n,(r 478),(r 479),(r 480),(i 966),(i 334),(u 967)],
f 482 "tell_kept" "tell_kept" (tp 78) n "wholeamounts.desk" 934 481,
c 488 #[(s "answer" 969),(s "answer" 970),(u 971),(i 338),(i 1),(i 0),(i 0),(i 3),(r 483),(.bool true),(i 181),(r 484),n,(r 485),(r 486),(r 487),(i 974),(i 338),(u 975)],
f 489 "answer" "answer" (tp 79) n "wholeamounts.desk" 934 488]
end HD
namespace BK
open PySem PySem.Spec PyProof.Rows
open HD (KF)
noncomputable def aK:List Addr:=[3,22,28,29,31,32,44,45,57,58,70,71,78,79,80,86,87,93,94,98,99,103,104,108,109,115,116,122,123,136,137,143,144,150,151,157,158,164,165,167,168,185,186,188,189,206,207,213,214,220,221,227,228,234,235,241,242,248,249,255,256,262,263,269,270,276,277,279,280,288,289,295,296,302,303,304,305,318,319,321,322,339,340,342,343,360,361,363,364,374,375,379,380,386,387,393,394,398,399,405,406,412,413,419,420,426,427,433,434,435,448,449,451,452,460,461,467,468,474,475,481,482,488,489]
theorem Bp:∀ P,aK=(KF P).map (·.1):=fun _=>by kernel_rfl
abbrev lO:List Str:=["Fault"]
noncomputable abbrev HK:PySem.W.Hook:=PySem.W.kHook KF aK Bp
noncomputable abbrev XT:Shared->Bool:=fun s=>PySem.W.xlAt qV [] s&&PySem.W.recOk [] s
theorem CZ:∀ w:World,(HT.endsT PySem.Challenge.pw_wholeamounts_s07_kept w 8314).map (fun x=>(HT.chkT PySem.Challenge.pw_wholeamounts_s07_kept x,aK.map (HT.getT x.2)))=some (true,(KF w.params).map fun p=>some p.2):=fun w=>by kernel_rfl
theorem C0:∀ w:World,(HT.endsT PySem.Challenge.pw_wholeamounts_s07_kept w 8314).map (fun x=>HT.seen1 qV lO (importedModules PySem.Challenge.pw_wholeamounts_s07_kept.main.body) XT x.2.abs)=some ((PySem.W.openGood qV lO).1):=fun w=>by kernel_rfl
theorem C3:∀ w:World,(HT.endsT PySem.Challenge.pw_wholeamounts_s07_kept w 8314).map (fun x=>HT.seen2 qV lO (importedModules PySem.Challenge.pw_wholeamounts_s07_kept.main.body) XT x.2.abs)=some ((PySem.W.openGood qV lO).2.1,true):=fun w=>by kernel_rfl
theorem C6:∀ w:World,(HT.endsT PySem.Challenge.pw_wholeamounts_s07_kept w 8314).map (fun x=>HT.seen5 qV lO (importedModules PySem.Challenge.pw_wholeamounts_s07_kept.main.body) XT x.2.abs)=some (true):=fun w=>by kernel_rfl
theorem C4:∀ w:World,(HT.endsT PySem.Challenge.pw_wholeamounts_s07_kept w 8314).map (fun x=>HT.seen3 qV lO (importedModules PySem.Challenge.pw_wholeamounts_s07_kept.main.body) XT x.2.abs)=some ((PySem.W.openGood qV lO).2.2.2.2.1,(PySem.W.openGood qV lO).2.2.2.2.2.1):=fun w=>by kernel_rfl
theorem C5:∀ w:World,(HT.endsT PySem.Challenge.pw_wholeamounts_s07_kept w 8314).map (fun x=>HT.seen4 qV lO (importedModules PySem.Challenge.pw_wholeamounts_s07_kept.main.body) XT x.2.abs)=some ((PySem.W.openGood qV lO).2.2.2.2.2.2):=fun w=>by kernel_rfl
theorem left:PySem.W.LeftO PySem.Challenge.pw_wholeamounts_s07_kept qV lO XT HK.obs HK.val 8314:=HT.left_of CZ C0 C3 C6 C4 C5
end BK
end
section
namespace L2
open PySem PySem.Spec PyProof.Rows
abbrev Key:=Sum Int Str
def iP:Key->Value->Bool
 |.inl k,v=>Value.isInt k v
 |.inr x,v=>Value.isStrOf x v
def Lf(w:World):Key->Int
 |.inl k=>hashInt k
 |.inr x=>hashStr w x
theorem rj:∀ {k:Key}{v:Value},iP k v=true->(∃ i t,k=Sum.inl i/\v=Value.int i t)\/(∃ x t,k=Sum.inr x/\v=Value.str x t)
 |.inl i,v,h=>by
  obtain⟨t,e⟩:=Value.isInt_shape (k:=i) (v:=v) h;exact .inl ⟨i,t,rfl,e⟩
 |.inr x,v,h=>by
  obtain⟨t,e⟩:=Value.isStrOf_shape (x:=x) (v:=v) h;exact .inr ⟨x,t,rfl,e⟩
theorem Zby(i:Int)(t:Tok):iP (.inl i) (.int i t)=true:=by simp [iP,Value.isInt]
theorem Zbk(x:Str)(t:Tok):iP (.inr x) (.str x t)=true:=by simp [iP,Value.isStrOf]
theorem xE(a b:Int):decide ((Sum.inl a:Key)=Sum.inl b)=(a==b):=by
 by_cases e:a=b
 ·subst e;simp
 ·have h:¬ (Sum.inl a:Key)=Sum.inl b:=fun q=>e (Sum.inl.inj q);rw [aw h];exact(aO.mpr e).symm
theorem xH(a b:Str):decide ((Sum.inr a:Key)=Sum.inr b)=decide (a=b):=by
 by_cases e:a=b
 ·subst e;simp
 ·have h:¬ (Sum.inr a:Key)=Sum.inr b:=fun q=>e (Sum.inr.inj q);rw [aw h,aw e]
theorem xF(a:Int)(b:Str):decide ((Sum.inl a:Key)=Sum.inr b)=false:=aw (fun q=>nomatch q)
theorem xG(a:Str)(b:Int):decide ((Sum.inr a:Key)=Sum.inl b)=false:=aw (fun q=>nomatch q)
def gS(prog:Program)(w:World):PySem.KeyKind prog w Key where
 is:=iP
 hash:=Lf w
 inj:=fun v a b ha hb=>by
  rcases rj ha with⟨i,t,rfl,rfl⟩ |⟨x,t,rfl,rfl⟩
  ·rcases rj hb with⟨j,u,rfl,e⟩ |⟨y,u,rfl,e⟩
   ·injection e with e1 _;rw [e1]
   ·exact nomatch e
  ·rcases rj hb with⟨j,u,rfl,e⟩ |⟨y,u,rfl,e⟩
   ·exact nomatch e
   ·injection e with e1 _;rw [e1]
 byValue:=fun k v h=>by
  rcases rj h with⟨i,t,rfl,rfl⟩ |⟨x,t,rfl,rfl⟩<;>rfl
 pyHash:=fun hv h=>by
  rcases rj hv with⟨i,t,rfl,rfl⟩ |⟨x,t,rfl,rfl⟩
  ·exact wpAny_pyHash_int h
  ·exact wpAny_pyHash_str h
 eqBool:=fun hu hv h=>by
  rcases rj hu with⟨i,t,rfl,rfl⟩ |⟨x,t,rfl,rfl⟩
  ·rcases rj hv with⟨j,u,rfl,rfl⟩ |⟨y,u,rfl,rfl⟩
   ·rw [xE]at h;exact wpAny_eqBool_int h
   ·rw [xF]at h;exact SeqAt.EqAt.int_str i t y u _ _ _ _ h
  ·rcases rj hv with⟨j,u,rfl,rfl⟩ |⟨y,u,rfl,rfl⟩
   ·rw [xG]at h;exact SeqAt.EqAt.str_int x t j u _ _ _ _ h
   ·rw [xH]at h;exact wpAny_eqBool_str h
 «strs»:=fun k x t v h=>by
  rcases rj h with⟨i,u,rfl,e⟩ |⟨y,u,rfl,e⟩
  ·exact nomatch e
  ·injection e with e1 _
   subst e1;cases v<;>rfl
theorem Z9T(prog:Program)(w:World)(i:Int)(t:Tok):(gS prog w).is (.inl i) (.int i t)=true:=Zby i t
theorem Z9V(prog:Program)(w:World)(x:Str)(t:Tok):(gS prog w).is (.inr x) (.str x t)=true:=Zbk x t
end L2
namespace L2
open PySem PySem.Spec PyProof.Rows
inductive V where
 |non |bl (b:Bool) |int (i:Int) |str (x:Str) |byt (b:Array UInt8) |flt (b:UInt64) |ref (a:Addr) |ty (n:String)
 deriving DecidableEq
def RelV:V->Value->Prop
 |.non,u=>u=Value.none
 |.bl b,u=>u=Value.bool b
 |.int i,u=>∃ t,u=Value.int i t
 |.str x,u=>∃ t,u=Value.str x t
 |.byt b,u=>∃ t,u=Value.bytes b t
 |.flt b,u=>∃ t,u=Value.float b t
 |.ref a,u=>u=Value.ref a
 |.ty n,u=>u=Value.type n
abbrev Vals:List V->List Value->Prop:=Paired RelV
theorem Vals.length{xs:List V}{us:List Value}(r:Vals xs us):xs.length=us.length:=Paired.length r
theorem Vals.get:∀ {xs:List V}{us:List Value}{i:Nat}{x:V},Vals xs us->xs[i]?=some x->∃ u,us[i]?=some u/\RelV x u
 |_,_,_,_,.nil,e=>by simp at e
 |_,_,0,_,.cons r _,e=>by simp at e;subst e;exact⟨_,rfl,r⟩
 |_,_,i+1,x,.cons _ t,e=>by
  obtain⟨u,h1,h2⟩:=Vals.get (i:=i) (x:=x) t (by simpa using e)
  exact⟨u,by simpa using h1,h2⟩
theorem Vals.set{x:V}{u:Value}(r:RelV x u):∀ {xs:List V}{us:List Value}(i:Nat),Vals xs us->Vals (xs.set i x) (us.set i u)
 |_,_,_,.nil=>.nil
 |_,_,0,.cons _ t=>.cons r t
 |_,_,i+1,.cons q t=>.cons q (Vals.set r i t)
theorem Vals.append:∀ {xs ys:List V}{us ws:List Value},Vals xs us->Vals ys ws->Vals (xs++ys) (us++ws)
 |_,_,_,_,.nil,s=>s
 |_,_,_,_,.cons r t,s=>.cons r (Vals.append t s)
theorem Vals.take:∀ {xs:List V}{us:List Value}(n:Nat),Vals xs us->Vals (xs.take n) (us.take n)
 |_,_,0,_=>.nil
 |_,_,_+1,.nil=>.nil
 |_,_,n+1,.cons r t=>.cons r (Vals.take n t)
theorem Vals.drop:∀ {xs:List V}{us:List Value}(n:Nat),Vals xs us->Vals (xs.drop n) (us.drop n)
 |_,_,0,r=>r
 |_,_,_+1,.nil=>.nil
 |_,_,n+1,.cons _ t=>Vals.drop n t
def RelO:Option V->Option Value->Prop
 |some v,some u=>RelV v u
 |none,none=>True
 |_,_=>False
def KV{κ:Type}:List (κ×V)->List (κ×Value)->Prop:=Paired fun(p:κ×V)(q:κ×Value)=>p.1=q.1/\RelV p.2 q.2
def kV:Key->V
 |.inl i=>.int i
 |.inr x=>.str x
inductive HO where
 |lst (xs:List V)
 |tup (xs:List V)
 |dK (ah:List (Key×V)) |dT (ah:List (List Key×V))
 |set (S:Int->Bool)(n:Nat)
 |ins (C dx:Addr)(fs:List (Str×V))
 |own (x:Addr)
 |xd (fs:List (Str×V))
 |met (f x:Addr)
 |rng (lo hi:Int)
 |frz (o:Obj)(u:HO)
 |tbl (ps:Array Value)
 |ext (φ:Heap->Prop)
abbrev Hp:=Addr->Option HO
def upd(H:Hp)(a:Addr)(o:HO):Hp:=fun b=>if b=a then some o else H b
theorem Z2j{H:Hp}{a:Addr}{o:HO}:upd H a o a=some o:=by unfold upd;rw [ae rfl]
theorem aj{H:Hp}{a b:Addr}{o:HO}(h:b≠a):upd H a o b=H b:=by unfold upd;rw [ac h]
theorem j0{H:Hp}{a:Addr}{o u:HO}:upd (upd H a o) a u=upd H a u:=by
 funext b;unfold upd;split<;>rfl
theorem az{H:Hp}{a b:Addr}{o u:HO}(h:H a=some o)(h':H b=some u)(d:o≠u):a≠b:=by
 intro e;subst e;rw [h]at h';exact d (Option.some.inj h')
theorem a9{H:Hp}{a b:Addr}{o:HO}(h:H a=some o)(h':H b=none):a≠b:=by
 intro e;subst e;rw [h]at h';cases h'
section
variable(P:Program)(w:World)
def ObjOk(H:Hp)(h:Heap)(a:Addr):HO->Prop
 |.lst xs=>xs.length<=sizeLine/\∃ (its:List Value)(n:Nat),Vals xs its/\h.get? a=some { cls:=.type "list",data:=.seq its.toArray n }
 |.tup xs=>xs.length<=sizeLine/\∃ its:List Value,Vals xs its/\IsTup h a its.toArray
 |.dK ah=>ah.length<=sizeLine/\(a==sysModules)=false/\∃ vs,KV ah vs/\h.DictOf (gS P w) a vs
 |.dT ah=>ah.length<=sizeLine/\(a==sysModules)=false/\∃ xs:List (List Key×Addr×Value),
   Paired (fun(p:List Key×V)(q:List Key×Addr×Value)=>p.1=q.1/\H q.2.1=some (.tup (p.1.map kV))/\RelV p.2 q.2.2) ah xs /\
   ∃ o es ep,h.get? a=some o/\o.ExactDict/\o.data=.dict es ep/\es.toList=xs.map (entryOfKey (tupleKind (gS P w)))/\(xs.map (·.1)).Nodup
 |.set S n=>h.SetOf (intKind P w) a S n
 |.ins C dx fs=>H dx=some (.own a)/\fs.length<=1000/\dx≠a/\h.get? a=some (PySem.W.instObj C dx) /\
   ∃ mA,h.Ns1 dx mA/\(∀ f,RelO (fs.lookup f) (mA f))/\PySem.Within mA (fs.map (·.1))
 |.own _=>∃ o,h.get? a=some o
 |.xd fs=>∃ mA,h.Ns1 a mA/\∀ f,RelO (fs.lookup f) (mA f)
 |.rng lo hi=>∃ t u v,h.get? a=some { cls:=.type "range",data:=.fields #[.int lo t,.int hi u,.int 1 v] }
 |.frz o u=>h.get? a=some o/\ObjOk H h a u
 |.tbl ps=>h.get? a=some { cls:=.none,data:=.fields ps }
 |.met f x=>h.get? a=some (PySem.W.methodObj (.ref f) (.ref x))
 |.ext φ=>φ h/\(∃ o,h.get? a=some o)/\∀ h1 h2:Heap,φ h1->(∀ o,h1.get? a=some o->h2.get? a=some o)->φ h2
def HOk(H:Hp)(h:Heap):Prop:=∀ a o,H a=some o->ObjOk P w H h a o
end
section
variable{P:Program}{w:World}{H H':Hp}{h h':Heap}{a:Addr}{o:HO}
theorem ObjOk.lt(x:ObjOk P w H h a o):a<h.objs.size:=by
 cases o with
 |lst xs=>obtain⟨_,_,_,_,e⟩:=x;exact cy e
 |tup xs=>obtain⟨_,_,_,p⟩:=x;exact p.lt
 |dK ah=>obtain⟨_,_,_,_,o,_,_,e,_⟩:=x;exact cy e
 |dT ah=>obtain⟨_,_,_,_,o,_,_,e,_⟩:=x;exact cy e
 |set S n=>obtain⟨o,_,_,_,e,_⟩:=x;exact cy e
 |ins C dx fs=>obtain⟨_,_,_,e,_⟩:=x;exact cy e
 |own y=>obtain⟨_,e⟩:=x;exact cy e
 |xd fs=>obtain⟨_,⟨_,_,_,e,_⟩,_⟩:=x;exact cy e
 |rng lo hi=>obtain⟨_,_,_,e⟩:=x;exact cy e
 |frz ob u=>obtain⟨e,_⟩:=x;exact cy e
 |tbl ps=>exact cy (show h.get? a=some _ from x)
 |met f y=>exact cy (show h.get? a=some _ from x)
 |ext φ=>obtain⟨_,⟨_,e⟩,_⟩:=x;exact cy e
theorem Paired.mapP{α β:Type}{F G:α->β->Prop}:∀ {l₁:List α}{l₂:List β},Paired F l₁ l₂->(∀ a b,F a b->G a b)->Paired G l₁ l₂
 |_,_,.nil,_=>.nil
 |_,_,.cons r t,f=>.cons (f _ _ r) (Paired.mapP t f)
theorem ObjOk.stay(x:ObjOk P w H h a o)(k:∀ b u,(b=a\/H b=some (.own a))->h.get? b=some u->h'.get? b=some u)
  (ho:∀ b,H b=some (.own a)->H' b=some (.own a))(ht:∀ b xs,H b=some (.tup xs)->H' b=some (.tup xs)):ObjOk P w H' h' a o:=by
 induction o with
 |lst xs=>obtain⟨z,its,n,r,e⟩:=x;exact⟨z,its,n,r,k _ _ (.inl rfl) e⟩
 |tup xs=>obtain⟨z,its,r,ob,e,c⟩:=x;exact⟨z,its,r,ob,k _ _ (.inl rfl) e,c⟩
 |dK ah=>obtain⟨z,y,vs,r,ob,es,ep,e,c⟩:=x;exact⟨z,y,vs,r,ob,es,ep,k _ _ (.inl rfl) e,c⟩
 |dT ah =>
  obtain⟨z,y,xs,r,ob,es,ep,e,c⟩:=x;exact⟨z,y,xs,Paired.mapP r fun p q z=>⟨z.1,ht _ _ z.2.1,z.2.2⟩,ob,es,ep,k _ _ (.inl rfl) e,c⟩
 |set S n=>obtain⟨ob,es,ep,t,e,c⟩:=x;exact⟨ob,es,ep,t,k _ _ (.inl rfl) e,c⟩
 |ins C dx fs =>
  obtain⟨d,z,ne,e,mA,⟨od,es,ep,e2,c⟩,r⟩:=x;exact⟨ho _ d,z,ne,k _ _ (.inl rfl) e,mA,⟨od,es,ep,k _ _ (.inr d) e2,c⟩,r⟩
 |own y=>obtain⟨ob,e⟩:=x;exact⟨ob,k _ _ (.inl rfl) e⟩
 |xd fs=>obtain⟨mA,⟨od,es,ep,e,c⟩,r⟩:=x;exact⟨mA,⟨od,es,ep,k _ _ (.inl rfl) e,c⟩,r⟩
 |rng lo hi=>obtain⟨t,u,v,e⟩:=x;exact⟨t,u,v,k _ _ (.inl rfl) e⟩
 |frz ob u ih=>obtain⟨e,q⟩:=x;exact⟨k _ _ (.inl rfl) e,ih q⟩
 |tbl ps =>
  have e:h.get? a=some { cls:=.none,data:=.fields ps }:=x;show h'.get? a=some { cls:=.none,data:=.fields ps };exact k a _ (.inl rfl) e
 |met f y =>
  have e:h.get? a=some (PySem.W.methodObj (.ref f) (.ref y)):=x;show h'.get? a=some (PySem.W.methodObj (.ref f) (.ref y));exact k a _ (.inl rfl) e
 |ext φ=>obtain⟨p,⟨o,e⟩,st⟩:=x;exact⟨st _ _ p fun o q=>k _ _ (.inl rfl) q,⟨o,k _ _ (.inl rfl) e⟩,st⟩
theorem HOk.lt(x:HOk P w H h)(e:H a=some o):a<h.objs.size:=(x a o e).lt
theorem HOk.fresh(x:HOk P w H h)(e:h.objs.size<=a):H a=none:=by
 cases q:H a with
 |none=>rfl
 |some u=>exact absurd (iC (x.lt q) e) (ik _)
theorem HOk.kept(x:HOk P w H h)(k:∀ b u,h.get? b=some u->h'.get? b=some u):HOk P w H h':=fun a o e =>
 (x a o e).stay (fun b u _ q=>k b u q) (fun _ q=>q) fun _ _ q=>q
theorem HOk.laid(x:HOk P w H h)(k:∀ b u,h.get? b=some u->h'.get? b=some u)(hp:h.objs.size<=a)(new:ObjOk P w (upd H a o) h' a o):HOk P w (upd H a o) h':=fun b u e=>by
 have hn:=x.fresh hp;by_cases hb:b=a
 ·subst hb;rw [Z2j]at e;cases e;exact new
 ·rw [aj hb]at e;exact(x b u e).stay (fun c v _ q=>k c v q) (fun c q=>by rw [aj (a9 q hn)];exact q) fun c xs q=>by rw [aj (a9 q hn)];exact q
end
def Rd(H:Hp)(a:Addr)(u:HO):Prop:=H a=some u\/∃ o,H a=some (.frz o u)
theorem Rd.ok{P:Program}{w:World}{H:Hp}{h:Heap}{a:Addr}{u:HO}(r:Rd H a u)(x:HOk P w H h):ObjOk P w H h a u:=by
 rcases r with r |⟨o,r⟩
 ·exact x a u r
 ·obtain⟨_,q⟩:=x a _ r;exact q
def Aw:Option HO->Prop
 |some (.lst _)=>True
 |some (.dK _)=>True
 |some (.dT _)=>True
 |some (.set _ _)=>True
 |some (.ins _ _ _)=>True
 |some (.ext _)=>True
 |_=>False
section
variable{P:Program}{w:World}{H:Hp}{h h':Heap}{x e:Addr}{o':HO}
theorem HOk.write(ok:HOk P w H h)(mu:Aw (H x))(he:e=x\/H e=some (.own x))(k:∀ b u,b≠e->h.get? b=some u->h'.get? b=some u)(zP:∃ u,h'.get? e=some u)
  (new:ObjOk P w (upd H x o') h' x o'):HOk P w (upd H x o') h':=fun b u q=>by
 have Dh:∀ c y,H c=some (.own y)->c≠x:=fun c y r z=>by subst z;rw [r]at mu;exact mu
 have Lw:∀ c xs,H c=some (.tup xs)->c≠x:=fun c xs r z=>by subst z;rw [r]at mu;exact mu
 by_cases hb:b=x
 ·subst hb;rw [Z2j]at q;cases q;exact new
 ·rw [aj hb]at q;by_cases wP:b=e
  ·have q':H b=some (.own x):=by
    rcases he with z |z
    ·exact absurd (wP.trans z) hb
    ·rw [wP];exact z
   rw [q]at q';cases q';obtain⟨v,hv⟩:=zP;exact⟨v,by rw [wP];exact hv⟩
  ·refine(ok b u q).stay (fun c v hc r=>k c v ?_ r) (fun c r=>by rw [aj (Dh c b r)];exact r) fun c xs r=>by rw [aj (Lw c xs r)];exact r
   rcases hc with rfl |hc
   ·exact wP
   ·rintro rfl;rcases he with z |z
    ·exact Dh c b hc z
    ·rw [hc]at z;cases z;exact hb rfl
end
structure Un(fs ex:List Addr)(H H':Hp)(h h':Heap):Prop where
 keep:∀ b o,h.get? b=some o->H b=none->b∉fs->b∉ex->h'.get? b=some o
 slot:∀ b o,h.get? b=some o->H b=none->b∈fs->b∉ex->∃ sl,h'.get? b=some { o with slots:=sl }
 free:∀ b o,h.get? b=some o->H b=none->b∉ex->H' b=none
 there:∀ b o,h.get? b=some o->b∉ex->∃ o',h'.get? b=some o'
 tups:∀ b xs,H b=some (.tup xs)->H' b=some (.tup xs)
 frzs:∀ b o u,H b=some (.frz o u)->H' b=some (.frz o u)
 tbls:∀ b ps,H b=some (.tbl ps)->∃ cZ,H' b=some (.tbl (ps++cZ))
section
variable{fs uZ ex ex':List Addr}{H H1 H2:Hp}{h h1 h2 h':Heap}{a x e:Addr}{o:HO}
theorem Un.any(u:Un fs ex H H1 h h1){b:Addr}{ob:Obj}(q:h.get? b=some ob)(n:H b=none)(hx:b∉ex):∃ sl,h1.get? b=some { ob with slots:=sl }:=by
 by_cases hb:b∈fs
 ·exact u.slot b ob q n hb hx
 ·exact⟨ob.slots,u.keep b ob q n hb hx⟩
theorem Un.kept(k:∀ b u,h.get? b=some u->h'.get? b=some u):Un fs ex H H h h' :=
 ⟨fun b ob q _ _ _=>k b ob q,fun b ob q _ _ _=>⟨ob.slots,k b ob q⟩,fun _ _ _ n _=>n,fun b ob q _=>⟨ob,k b ob q⟩,fun _ _ q=>q,fun _ _ _ q=>q,fun _ ps q=>⟨#[],by rw [q];simp⟩⟩
theorem Un.refl:Un fs ex H H h h:=Un.kept fun _ _ q=>q
theorem Un.laid(k:∀ b u,h.get? b=some u->h'.get? b=some u)(hp:h.objs.size<=a)(hn:H a=none):Un fs ex H (upd H a o) h h' where
 keep:=fun b u q _ _ _=>k b u q
 slot:=fun b u q _ _ _=>⟨u.slots,k b u q⟩
 free:=fun b u q n _=>by rw [aj (eF (iC (cy q) hp))];exact n
 there:=fun b u q _=>⟨u,k b u q⟩
 tups:=fun b xs q=>by rw [aj (a9 q hn)];exact q
 frzs:=fun b u xs q=>by rw [aj (a9 q hn)];exact q
 tbls:=fun b ps q=>⟨#[],by rw [aj (a9 q hn),q];simp⟩
theorem Un.write(mu:Aw (H x))(he:e=x\/H e=some (.own x))(k:∀ b u,b≠e->h.get? b=some u->h'.get? b=some u)(zP:∃ u,h'.get? e=some u):Un fs ex H (upd H x o) h h':=by
 have hx:∀ b,H b=none->b≠x:=fun b n z=>by subst z;rw [n]at mu;exact mu
 have hb:∀ b,H b=none->b≠e:=fun b n z=>by
  subst z;rcases he with r |r
  ·exact hx b n r
  ·rw [n]at r;cases r
 have hm:∀ b u,H b=some u->¬ Aw (some u)->b≠x:=fun b u q nm z=>by subst z;rw [q]at mu;exact nm mu
 refine⟨fun b u q n _ _=>k b u (hb b n) q,fun b u q n _ _=>⟨u.slots,k b u (hb b n) q⟩,fun b u q n _=>by rw [aj (hx b n)];exact n,fun b u q _=>?_,
  fun b xs q=>by rw [aj (hm b _ q fun z=>z)];exact q,fun b u xs q=>by rw [aj (hm b _ q fun z=>z)];exact q,fun b ps q=>⟨#[],by rw [aj (hm b _ q fun z=>z),q];simp⟩⟩
 by_cases wP:b=e
 ·subst wP;exact zP
 ·exact⟨u,k b u wP q⟩
end
def Gj(h:Heap)(H:Hp):List Addr:=(List.range h.objs.size).filter fun a=>(H a).isSome
def dY(h:Heap)(H:Hp):Heap:=PySem.W.hideAll h (Gj h H)
theorem OM(h:Heap)(H:Hp):(dY h H).objs.size=h.objs.size:=PySem.W.hideAll_size _ _
theorem Pp{h:Heap}{H:Hp}{b:Addr}{o:Obj}(e:h.get? b=some o)(n:H b=none):(dY h H).get? b=some o :=
 PySem.W.hideAll_get _ e fun hm=>by
  have q:(H b).isSome=true:=(List.mem_filter.mp hm).2;rw [n]at q;simp at q
theorem Fw{h:Heap}{H:Hp}{b:Addr}{o:Obj}(e:(dY h H).get? b=some o):h.get? b=some o/\H b=none:=by
 have e':h.get? b=some o:=PySem.W.of_hideAll (Gj h H) e;refine⟨e',?_⟩;cases q:H b with
 |none=>rfl
 |some x =>
  have hm:b∈Gj h H:=List.mem_filter.mpr ⟨AL.mpr (cy e'),by simp [q]⟩
  have z:(dY h H).get? b=none:=PySem.W.hideAll_none (Gj h H) hm;rw [z]at e;cases e
end L2
namespace L2
open PySem PySem.Spec PyProof.Rows
structure Av(K:aq)(mg:Str->Option Value)(base:Heap):Prop where
 kin:K.In base
 glob:base.Ns mainGlobals mg
 blt:∃ mb,base.Ns builtinsNs mb/\∀ x:Str,x≠"__name__"->mb x=bootBuiltins x
 nolimit:base.NoLimit
structure Cx where
 prog:Program
 w:World
 K:aq
 mg:Str->Option Value
 base:Heap
 A:Around
 N:List Str
 s_0:Shared
 H_0:Hp
 env:Env
 outer:List Env
 stack:List Env
 ex:List Addr
 fn:Str->Bool
 calm:Bool
 pn:List (Addr×Obj)
 xe:Value->Shared->Prop
def b9(l:List Env):List Addr:=l.filterMap (·.frame)
abbrev Cx.fs(X:Cx):List Addr:=b9 X.outer
def za(sc:Scope)(x:Str):Prop:=sc.names.lookup x=some .local\/sc.names.lookup x=some .cell\/sc.names.lookup x=some .free
def ER(sc:Scope)(x:Str):Prop:=sc.names.lookup x=some .local\/sc.names.lookup x=some .cell
def Gy(env:Env)(h:Heap)(m:Str->Option Value)(x:Str)(u:Value):Prop :=
 (env.kindOf x=some .local/\m x=some u)\/((env.kindOf x=some .cell\/env.kindOf x=some .free)/\∃ c,env.cells.lookup x=some c/\h.IsCell c (some u))
structure Cx.Ok(X:Cx):Prop where
 mod:Av X.K X.mg X.base
 kind:X.env.scope.kind=.function
 glob:X.env.globals=mainGlobals
 blt:X.env.builtins=builtinsNs
 above:X.s_0.heap.objs.size<=X.env.locals
 inj:∀ x y c,X.env.cells.lookup x=some c->X.env.cells.lookup y=some c->x=y
 has:∀ x,(X.env.kindOf x=some .cell\/X.env.kindOf x=some .free)->∃ c,X.env.cells.lookup x=some c
 cab:∀ x c,X.fn x=true->X.env.cells.lookup x=some c->X.s_0.heap.objs.size<=c
 hd:X.calm=true->X.A.handled=none
 frames:X.A.frames=some X.stack
 stk:X.stack=X.outer\/(X.stack=X.env::X.outer/\X.env.frame=some X.env.locals)
 exf:∀ b∈X.ex,b≠X.env.locals/\∀ x c,X.env.cells.lookup x=some c->c≠b
 bs:∀ b o,X.base.get? b=some o->X.s_0.heap.get? b=some o/\X.H_0 b=none
 bsz:X.base.objs.size<=X.s_0.heap.objs.size
 noex:∀ b o,X.base.get? b=some o->b∉X.ex
 exfs:∀ b∈X.ex,b∉X.fs
 funs:X.s_0.heap.FunFrames X.base X.outer
 frf:∀ b∈X.fs,X.H_0 b=none
structure Inv(X:Cx)(pins:List (Addr×Obj))(σ:List (Option V))(H:Hp)(s:Shared):Prop where
 ok:X.Ok
 os:s.os=X.s_0.os
 bare:AllBare s.gens
 base:Un X.fs X.ex X.H_0 H X.s_0.heap s.heap
 loc:∃ m,s.heap.Ns X.env.locals m/\∀ (i:Nat)(x:Str)(v:V),X.N[i]?=some x->σ[i]?=some (some v)->za X.env.scope x->∃ u,RelV v u/\Gy X.env s.heap m x u
 cell:∀ x c,X.env.cells.lookup x=some c->∃ v,s.heap.IsCell c v
 free:H X.env.locals=none
 freeC:∀ x c,X.env.cells.lookup x=some c->H c=none
 pin:∀ p∈X.pn++pins,s.heap.get? p.1=some p.2/\H p.1=none/\p.1≠X.env.locals/\p.1∉X.fs/\∀ v,p.2.data≠.cell v
 hok:HOk X.prog X.w H s.heap
 len:σ.length=X.N.length
section
variable{X:Cx}{pins:List (Addr×Obj)}{σ:List (Option V)}{H H':Hp}{s:Shared}{h':Heap}
theorem Cx.Ok.nofr(ok:X.Ok){b:Addr}{o:Obj}(e:X.base.get? b=some o):b∉X.fs:=fun hb=>by
 have:=(ok.funs.mem hb).1;rw [e]at this;cases this
theorem Inv.bs(I:Inv X pins σ H s):∀ b o,X.base.get? b=some o->s.heap.get? b=some o/\H b=none:=fun b o e =>
 ⟨I.base.keep b o (I.ok.bs b o e).1 (I.ok.bs b o e).2 (I.ok.nofr e) (I.ok.noex b o e),I.base.free b o (I.ok.bs b o e).1 (I.ok.bs b o e).2 (I.ok.noex b o e)⟩
theorem Inv.bk(I:Inv X pins σ H s):∀ b o,X.base.get? b=some o->s.heap.get? b=some o:=fun b o e=>(I.bs b o e).1
theorem Inv.mod(I:Inv X pins σ H s):Av X.K X.mg X.base:=I.ok.mod
theorem Inv.kIn(I:Inv X pins σ H s):X.K.In s.heap:=I.ok.mod.kin.keeps I.bk
theorem Inv.nolimit(I:Inv X pins σ H s):s.heap.NoLimit:=I.ok.mod.nolimit.keeps I.bk
theorem Inv.fr(I:Inv X pins σ H s):∃ m,Fr X.base X.env.locals s.heap m :=
 let ⟨m,hn,_⟩:=I.loc
 ⟨m,hn,I.bk,iD I.ok.bsz I.ok.above⟩
theorem Inv.lt(I:Inv X pins σ H s):X.env.locals<s.heap.objs.size:=by obtain⟨_,hn,_⟩:=I.loc;exact hn.lt
theorem Inv.sz(I:Inv X pins σ H s):X.s_0.heap.objs.size<=s.heap.objs.size:=iD I.ok.above (vS I.lt)
theorem Inv.nofs(I:Inv X pins σ H s){a:Addr}(h:s.heap.objs.size<=a):a∉X.fs:=fun hb=>by
 obtain⟨_,o,ho,_⟩:=I.ok.funs.mem hb;exact absurd (iC (cy ho) (iD I.sz h)) (ik _)
theorem Inv.cne(I:Inv X pins σ H s):∀ x c,X.env.cells.lookup x=some c->c≠X.env.locals:=fun x c e z=>by
 obtain⟨v,o,ho,hd⟩:=I.cell x c e;obtain⟨m,⟨o',es,ep,kR,wS,_⟩,_⟩:=I.loc;rw [z,kR]at ho;cases ho;rw [wS]at hd;cases hd
theorem Inv.funs(I:Inv X pins σ H s):s.heap.FunFrames X.base X.outer:=by
 have all:∀ (l:List Env),(∀ b∈b9 l,b∈X.fs)->X.s_0.heap.FunFrames X.base l->s.heap.FunFrames X.base l:=by
  intro l
  induction l with
  |nil=>intro _ _;trivial
  |cons env r ih =>
   intro hs hl;obtain⟨hk,⟨L,o,hf,hn,ho,hd⟩,hr⟩:=hl;have hL:L∈X.fs:=hs L (by unfold b9;rw [zc,hf];exact cY)
   obtain⟨sl,e⟩:=I.base.slot L o ho (I.ok.frf L hL) hL fun z=>I.ok.exfs L z hL;exact⟨hk,⟨L,_,hf,hn,e,hd⟩,ih (fun b hb=>hs b (by unfold b9;rw [zc,hf];exact dj _ hb)) hr⟩
 exact all X.outer (fun _ hb=>hb) I.ok.funs
theorem Inv.stack(I:Inv X pins σ H s):s.heap.FunFrames X.base X.stack:=by
 rcases I.ok.stk with e |⟨e,hf⟩
 ·rw [e];exact I.funs
 ·rw [e];obtain⟨m,hn,_⟩:=I.loc;refine .cons (by rw [I.ok.kind];decide) hf hn ?_ I.funs
  exact AM (iD I.ok.bsz I.ok.above)
theorem Inv.stkSub(I:Inv X pins σ H s):∀ b∈b9 X.stack,b∈X.env.locals::X.fs:=fun b hb=>by
 rcases I.ok.stk with e |⟨e,hf⟩
 ·rw [e]at hb;exact dj _ hb
 ·rw [e]at hb;unfold b9 at hb;rw [zc,hf]at hb;exact hb
theorem Inv.stkFree(I:Inv X pins σ H s):∀ b∈b9 X.stack,H b=none:=fun b hb=>by
 rcases bv.mp (I.stkSub b hb)with e |hb
 ·rw [e];exact I.free
 ·obtain⟨_,o,ho,_⟩:=I.ok.funs.mem hb;exact I.base.free b o ho (I.ok.frf b hb) fun z=>I.ok.exfs b z hb
theorem Inv.step{g':Array GenState}{t':Nat}{d':Drawn}{ch:List Addr}(I:Inv X pins σ H s)
  (kQ:∀ b∈ch,(b∈X.ex\/X.s_0.heap.objs.size<=b)/\b≠X.env.locals/\(∀ x c,X.env.cells.lookup x=some c->c≠b)/\∀ p∈X.pn++pins,p.1≠b)
  (keep:∀ b o,b≠X.env.locals->b∉X.fs->b∉ch->s.heap.get? b=some o->H b=none->h'.get? b=some o)
  (slot:∀ b o,b≠X.env.locals->b∈X.fs->b∉ch->s.heap.get? b=some o->H b=none->∃ sl,h'.get? b=some { o with slots:=sl })(free:∀ b o,b∉ch->s.heap.get? b=some o->H b=none->H' b=none)
  (there:∀ b o,b∉ch->s.heap.get? b=some o->∃ o',h'.get? b=some o')
  (tups:∀ b xs,H b=some (.tup xs)->H' b=some (.tup xs))(frzs:∀ b o u,H b=some (.frz o u)->H' b=some (.frz o u))(tbls:∀ b ps,H b=some (.tbl ps)->∃ cZ,H' b=some (.tbl (ps++cZ)))
  (ns:∀ m,s.heap.Ns X.env.locals m->h'.Ns X.env.locals m)(hok:HOk X.prog X.w H' h')(hg:AllBare g') :
  Inv X pins σ H' { s with heap:=h',gens:=g',drawn:=d',toks:=t' }:=by
 have Ac:∀ b o,X.s_0.heap.get? b=some o->b≠X.env.locals:=fun b o e=>eF (iC (cy e) I.ok.above);have xQ:∀ b o,X.s_0.heap.get? b=some o->b∉X.ex->b∉ch:=fun b o e hx hb=>by
  rcases(kQ b hb).1 with z |z
  ·exact hx z
  ·exact absurd (iC (cy e) z) (ik _)
 have uU:∀ x c,X.env.cells.lookup x=some c->∀ v,s.heap.IsCell c v->h'.IsCell c v:=fun x c e v ⟨o,ho,hd⟩=>by
  have lS:c∉ch:=fun z=>(kQ c z).2.2.1 x c e rfl;by_cases hc:c∈X.fs
  ·obtain⟨sl,q⟩:=slot c o (I.cne x c e) hc lS ho (I.freeC x c e);exact⟨_,q,hd⟩
  ·exact⟨o,keep c o (I.cne x c e) hc lS ho (I.freeC x c e),hd⟩
 refine⟨I.ok,I.os,hg,⟨fun b o e n hb hx=>?_,fun b o e n hb hx=>?_,fun b o e n hx=>?_,fun b o e hx=>?_,fun b xs e=>tups b xs (I.base.tups b xs e),fun b o xs e=>frzs b o xs (I.base.frzs b o xs e),fun b ps e=>?_⟩,?_,fun x c e=>?_,?_,fun x c e=>?_,fun p hp=>?_,hok,I.len⟩
 ·exact keep b o (Ac b o e) hb (xQ b o e hx) (I.base.keep b o e n hb hx) (I.base.free b o e n hx)
 ·obtain⟨sl,e1⟩:=I.base.slot b o e n hb hx;obtain⟨tY,e2⟩:=slot b _ (Ac b o e) hb (xQ b o e hx) e1 (I.base.free b o e n hx);exact⟨tY,e2⟩
 ·obtain⟨o',e1⟩:=I.base.there b o e hx;exact free b o' (xQ b o e hx) e1 (I.base.free b o e n hx)
 ·obtain⟨o',e1⟩:=I.base.there b o e hx;exact there b o' (xQ b o e hx) e1
 ·obtain⟨m1,e1⟩:=I.base.tbls b ps e;obtain⟨m2,e2⟩:=tbls b _ e1;exact⟨m1++m2,by rw [e2,Array.append_assoc]⟩
 ·obtain⟨m,hn,hl⟩:=I.loc;refine⟨m,ns m hn,fun i x v e1 e2 e3=>?_⟩;obtain⟨u,r,l⟩:=hl i x v e1 e2 e3;refine⟨u,r,?_⟩;rcases l with l |⟨k,c,e,z⟩
  ·exact .inl l
  ·exact .inr ⟨k,c,e,uU x c e _ z⟩
 ·obtain⟨v,z⟩:=I.cell x c e;exact⟨v,uU x c e v z⟩
 ·obtain⟨m,⟨o,_,_,ho,_⟩,_⟩:=I.loc;exact free _ o (fun z=>(kQ _ z).2.1 rfl) ho I.free
 ·obtain⟨v,o,ho,hd⟩:=I.cell x c e;exact free c o (fun z=>(kQ c z).2.2.1 x c e rfl) ho (I.freeC x c e)
 ·obtain⟨e,n,ne,nf,d⟩:=I.pin p hp;have lS:p.1∉ch:=fun z=>(kQ p.1 z).2.2.2 p hp rfl;exact⟨keep p.1 p.2 ne nf lS e n,free p.1 p.2 lS e n,ne,nf,d⟩
theorem Inv.un{t':Nat}(I:Inv X pins σ H s)(u:Un X.fs [] H H' s.heap h')(hok:HOk X.prog X.w H' h'):Inv X pins σ H' { s with heap:=h',toks:=t' }:=by
 obtain⟨m,⟨o,es,ep,ho,r⟩,_⟩:=id I.loc;obtain⟨sl,hL⟩:=u.any ho I.free (by simp)
 exact I.step (g':=s.gens) (d':=s.drawn) (ch:=[]) (fun _ z=>nomatch z) (fun b o _ hb _ e n=>u.keep b o e n hb (by simp)) (fun b o _ hb _ e n=>u.slot b o e n hb (by simp)) (fun b o _ e n=>u.free b o e n (by simp)) (fun b o _ e=>u.there b o e (by simp)) u.tups u.frzs u.tbls (fun m' hm=>by
  obtain⟨o',FQ,JI,kR,r'⟩:=hm;rw [ho]at kR;cases kR;exact⟨_,FQ,JI,hL,r'⟩) hok I.bare
theorem Inv.call{g':Array GenState}{t':Nat}{d':Drawn}{ch:List Addr}(I:Inv X pins σ H s)(u:Un (b9 X.stack) ch H H' s.heap h')(hok:HOk X.prog X.w H' h')(hg:AllBare g')
  (kQ:∀ b∈ch,(b∈X.ex\/X.s_0.heap.objs.size<=b)/\b≠X.env.locals/\(∀ x c,X.env.cells.lookup x=some c->c≠b)/\∀ p∈X.pn++pins,p.1≠b) :
  Inv X pins σ H' { s with heap:=h',gens:=g',drawn:=d',toks:=t' }:=by
 obtain⟨m,⟨o,es,ep,ho,r⟩,_⟩:=id I.loc;obtain⟨sl,hL⟩:=u.any ho I.free fun z=>(kQ _ z).2.1 rfl;exact I.step (ch:=ch) kQ (fun b o hL hb hc e n=>u.keep b o e n (fun z=>(bv.mp (I.stkSub b z)).elim hL hb) hc) (fun b o _ _ hc e n=>u.any e n hc) (fun b o hc e n=>u.free b o e n hc) (fun b o hc e=>u.there b o e hc) u.tups u.frzs u.tbls (fun m' hm=>by
  obtain⟨o',FQ,JI,kR,r'⟩:=hm;rw [ho]at kR;cases kR;exact⟨_,FQ,JI,hL,r'⟩) hok hg
theorem Inv.turned{t':Nat}{it:Addr}(I:Inv X pins σ H s)(k:∀ b o,b≠it->s.heap.get? b=some o->h'.get? b=some o)(hn:H it=none)(hL:it≠X.env.locals)
  (h1:it∈X.ex\/X.s_0.heap.objs.size<=it)(h2:∀ x c,X.env.cells.lookup x=some c->c≠it)(h3:∀ p∈X.pn++pins,p.1≠it):Inv X pins σ H { s with heap:=h',toks:=t' }:=by
 have vj:∀ b u,H b=some u->b≠it:=fun b u e z=>by rw [z,hn]at e;cases e
 refine I.step (g':=s.gens) (d':=s.drawn) (ch:=[it]) (fun b hb=>?_) (fun b o _ _ hc e _=>k b o (fun z=>hc (by simp [z])) e) (fun b o _ _ hc e _=>⟨o.slots,k b o (fun z=>hc (by simp [z])) e⟩) (fun _ _ _ _ n=>n)
  (fun b o hc e=>⟨o,k b o (fun z=>hc (by simp [z])) e⟩) (fun _ _ e=>e) (fun _ _ _ e=>e) (fun b ps e=>⟨#[],by rw [e];simp⟩) (fun m hm=>?_) (fun b u e=>?_) I.bare
 ·have e:b=it:=by simpa using hb
  subst e;exact⟨h1,hL,h2,h3⟩
 ·obtain⟨o,es,ep,ho,r⟩:=hm;exact⟨o,es,ep,k _ o (Ne.symm hL) ho,r⟩
 ·refine(I.hok b u e).stay (fun c v hc q=>k c v ?_ q) (fun _ q=>q) fun _ _ q=>q;rcases hc with z |z
  ·rw [z];exact vj b u e
  ·exact vj c _ z
theorem Inv.tok(I:Inv X pins σ H s)(t:Nat):Inv X pins σ H { s with toks:=t }:=I.un (h':=s.heap) (t':=t) Un.refl I.hok
theorem Inv.kept{t':Nat}(I:Inv X pins σ H s)(k:∀ b u,s.heap.get? b=some u->h'.get? b=some u):Inv X pins σ H { s with heap:=h',toks:=t' }:=I.un (Un.kept k) (I.hok.kept k)
theorem Inv.laid{a:Addr}{o:HO}{t':Nat}(I:Inv X pins σ H s)(k:∀ b u,s.heap.get? b=some u->h'.get? b=some u)(hp:s.heap.objs.size<=a)(new:ObjOk X.prog X.w (upd H a o) h' a o) :
  Inv X pins σ (upd H a o) { s with heap:=h',toks:=t' }:=I.un (Un.laid k hp (I.hok.fresh hp)) (I.hok.laid k hp new)
theorem Inv.write{x e:Addr}{o:HO}{t':Nat}(I:Inv X pins σ H s)(mu:Aw (H x))(he:e=x\/H e=some (.own x))(k:∀ b u,b≠e->s.heap.get? b=some u->h'.get? b=some u)(zP:∃ u,h'.get? e=some u)
  (new:ObjOk X.prog X.w (upd H x o) h' x o):Inv X pins σ (upd H x o) { s with heap:=h',toks:=t' }:=I.un (Un.write mu he k zP) (I.hok.write mu he k zP new)
theorem Inv.weak{σ':List (Option V)}(I:Inv X pins σ H s)(hl:σ'.length=σ.length)(w:∀ (i:Nat) v,σ'[i]?=some (some v)->σ[i]?=some (some v)):Inv X pins σ' H s :=
 ⟨I.ok,I.os,I.bare,I.base,let ⟨m,hn,Ku⟩:=I.loc;⟨m,hn,fun i x v e1 e2 e3=>Ku i x v e1 (w i v e2) e3⟩,I.cell,I.free,I.freeC,I.pin,I.hok,hl.trans I.len⟩
theorem Inv.pins_of{iS:List (Addr×Obj)}(I:Inv X pins σ H s)(h:∀ p∈iS,s.heap.get? p.1=some p.2/\H p.1=none/\p.1≠X.env.locals/\p.1∉X.fs/\∀ v,p.2.data≠.cell v):Inv X iS σ H s :=
 ⟨I.ok,I.os,I.bare,I.base,I.loc,I.cell,I.free,I.freeC,fun p hp=>(dy.mp hp).elim (fun z=>I.pin p (jX _ z)) (h p),I.hok,I.len⟩
theorem Ix{N:List Str}(hN:N.Nodup){i j:Nat}{x:Str}(a:N[i]?=some x)(b:N[j]?=some x):i=j:=by
 obtain⟨h1,e1⟩:=ee.mp a;obtain⟨h2,e2⟩:=ee.mp b;exact(List.getElem_inj hN).mp (e1.trans e2.symm)
theorem Iq{M:Model}{A:Around}{E:Value->Shared->Prop}{i:Nat}{x:Str}{v:V}{u:Value}{Q:Unit->Shared->Prop}(I:Inv X pins σ H s)(hN:X.N.Nodup)(hi:X.N[i]?=some x)(hx:ER X.env.scope x)(r:RelV v u)
  (h:∀ s',Inv X pins (σ.set i (some v)) H s'->(∃ a,Heap.SameBut a s.heap s'.heap/\(a=X.env.locals\/X.env.cells.lookup x=some a))->Q () s')(hf:autoParam (X.fn x=true\/X.env.scope.names.lookup x=some .local) aF._auto_1):wpAny M A (storeName X.env x u) Q E s:=by
 obtain⟨m,hn,hl⟩:=id I.loc;have wR:(X.env.scope.kind==.class ||(X.env.scope.kind==.module&&X.env.locals != X.env.globals))=false:=by rw [I.ok.kind];rfl
 have QO:i<σ.length:=by rw [I.len];exact(ee.mp hi).1
 have cne:=I.cne;have lr:∀ {a:Addr}{h':Heap},(∃ o,s.heap.get? a=some o/\H a=none)->Heap.SameBut a s.heap h'->HOk X.prog X.w H h':=fun{a h'} ha hs b ob e=>by
  obtain⟨_,_,eD⟩:=ha;refine(I.hok b ob e).stay (fun c w' hc q=>(hs.2 c ?_).trans q) (fun _ q=>q) fun _ _ q=>q;rintro rfl;rcases hc with rfl |hc
  ·rw [eD]at e;cases e
  ·rw [eD]at hc;cases hc
 rcases hx with hk |hk
 ·refine wpAny_storeName_local hk hn (fun h' QT hs=>?_) wR;obtain⟨oL,_,_,zS,_⟩:=id hn;refine h _ ⟨I.ok,I.os,I.bare,⟨fun b o e n hb hx=>?_,fun b o e n hb hx=>?_,I.base.free,fun b o e hx=>?_,I.base.tups,I.base.frzs,I.base.tbls⟩,⟨_,QT,fun j y v' e1 e2 e3=>?_⟩,fun y c e=>?_,I.free,I.freeC,fun p hp=>?_,lr ⟨oL,zS,I.free⟩ hs,by simpa using I.len⟩ ⟨_,hs,.inl rfl⟩
  ·exact(hs.2 b (eF (iC (cy e) I.ok.above))).trans (I.base.keep b o e n hb hx)
  ·obtain⟨sl,e1⟩:=I.base.slot b o e n hb hx;exact⟨sl,(hs.2 b (eF (iC (cy e) I.ok.above))).trans e1⟩
  ·obtain⟨o',e1⟩:=I.base.there b o e hx;exact⟨o',(hs.2 b (eF (iC (cy e) I.ok.above))).trans e1⟩
  ·by_cases hj:j=i
   ·subst hj;rw [hi]at e1;cases e1;rw [AN QO]at e2;cases e2;exact⟨u,r,.inl ⟨hk,by simp⟩⟩
   ·rw [EW (Ne.symm hj)]at e2;obtain⟨u',r',q⟩:=hl j y v' e1 e2 e3;refine⟨u',r',?_⟩;rcases q with⟨k,e⟩ |⟨k,c,e,z⟩
    ·refine .inl ⟨k,?_⟩;have:y≠x:=fun e=>hj (Ix hN e1 (e ▸ hi));simp [this,e]
    ·exact .inr ⟨k,c,e,z.sameBut hs (cne y c e)⟩
  ·obtain⟨w',z⟩:=I.cell y c e;exact⟨w',z.sameBut hs (cne y c e)⟩
  ·obtain⟨e,n,ne,nf,d⟩:=I.pin p hp;exact⟨(hs.2 p.1 ne).trans e,n,ne,nf,d⟩
 ·have Ca:X.fn x=true:=by
   rcases hf with z |z
   ·exact z
   ·rw [z]at hk;cases hk
  obtain⟨c,hc⟩:=I.ok.has x (.inl hk);obtain⟨w',z⟩:=I.cell x c hc;refine wpAny_storeName_cell I.ok.kind hk hc z (fun h' QG hs=>?_);obtain⟨oc,QV,KJ⟩:=id z;refine h { s with heap:=h' } ⟨I.ok,I.os,I.bare,⟨fun b o e n hb hx=>?_,fun b o e n hb hx=>?_,I.base.free,fun b o e hx=>?_,I.base.tups,I.base.frzs,I.base.tbls⟩,⟨m,hn.sameBut hs (Ne.symm (cne x c hc)),fun j y v' e1 e2 e3=>?_⟩,fun y c' e=>?_,I.free,I.freeC,fun p hp=>?_,lr ⟨oc,QV,I.freeC x c hc⟩ hs,by simpa using I.len⟩ ⟨c,hs,.inr hc⟩
  ·exact(hs.2 b (eF (iC (cy e) (I.ok.cab x c Ca hc)))).trans (I.base.keep b o e n hb hx)
  ·obtain⟨sl,e1⟩:=I.base.slot b o e n hb hx;exact⟨sl,(hs.2 b (eF (iC (cy e) (I.ok.cab x c Ca hc)))).trans e1⟩
  ·obtain⟨o',e1⟩:=I.base.there b o e hx;exact⟨o',(hs.2 b (eF (iC (cy e) (I.ok.cab x c Ca hc)))).trans e1⟩
  ·by_cases hj:j=i
   ·subst hj;rw [hi]at e1;cases e1;rw [AN QO]at e2;cases e2;exact⟨u,r,.inr ⟨.inl hk,c,hc,QG⟩⟩
   ·rw [EW (Ne.symm hj)]at e2;obtain⟨u',r',q⟩:=hl j y v' e1 e2 e3;refine⟨u',r',?_⟩;rcases q with q |⟨k,c',e,z'⟩
    ·exact .inl q
    ·refine .inr ⟨k,c',e,z'.sameBut hs ?_⟩;rintro rfl;exact hj (Ix hN e1 (I.ok.inj _ _ _ e hc ▸ hi))
  ·by_cases QH:c'=c
   ·subst QH;exact⟨_,QG⟩
   ·obtain⟨w2,z2⟩:=I.cell y c' e;exact⟨w2,z2.sameBut hs QH⟩
  ·obtain⟨e,n,ne,nf,d⟩:=I.pin p hp;refine⟨(hs.2 p.1 ?_).trans e,n,ne,nf,d⟩;intro q;rw [q,QV]at e;have q':oc=p.2:=Option.some.inj e;exact d w' (by rw [<-q'];exact KJ)
theorem Fh{M:Model}{A:Around}{E:Value->Shared->Prop}{i:Nat}{x:Str}{v:V}{u:Value}{Q:Unit->Shared->Prop}(I:Inv X pins σ H s)(hN:X.N.Nodup)(hi:X.N[i]?=some x)(hx:ER X.env.scope x)(r:RelV v u)
  (h:∀ s',Inv X pins (σ.set i (some v)) H s'->Q () s')(hf:autoParam (X.fn x=true\/X.env.scope.names.lookup x=some .local) aF._auto_1):wpAny M A (storeName X.env x u) Q E s :=
 Iq I hN hi hx r (fun s' I' _=>h s' I') hf
theorem Inv.call'{s':Shared}{ch:List Addr}(I:Inv X pins σ H s)(ho:s'.os=s.os)(u:Un (b9 X.stack) ch H H' s.heap s'.heap)(hok:HOk X.prog X.w H' s'.heap)(hg:AllBare s'.gens)
  (kQ:∀ b∈ch,(b∈X.ex\/X.s_0.heap.objs.size<=b)/\b≠X.env.locals/\(∀ x c,X.env.cells.lookup x=some c->c≠b)/\∀ p∈X.pn++pins,p.1≠b):Inv X pins σ H' s':=by
 obtain⟨h',g',d',t',o'⟩:=s';have e:o'=s.os:=ho;subst e;exact I.call (g':=g') (t':=t') (d':=d') u hok hg kQ
end
abbrev XK:=Value->Option Addr->Hp->Prop
abbrev St:=List (Option V)
abbrev VK:=V->Hp->Prop
abbrev TE:=St->Hp->VK->Prop
abbrev TT:=St->Hp->(Bool->Hp->Prop)->Prop
abbrev TA:=St->Hp->(List V->Hp->Prop)->Prop
structure dH where
 nx:St->Hp->Prop
 rt:VK
 bk:St->Hp->Prop:=fun _ _=>False
 ct:St->Hp->Prop:=fun _ _=>False
abbrev TS:=dH->St->Hp->Prop
def EP(X:Cx)(pins:List (Addr×Obj))(σ:St)(Q:VK)(u:Value)(s':Shared):Prop:=∃ v H',Inv X pins σ H' s'/\RelV v u/\Q v H'
def TP(X:Cx)(pins:List (Addr×Obj))(σ:St)(Q:Bool->Hp->Prop)(b:Bool)(s':Shared):Prop:=∃ H',Inv X pins σ H' s'/\Q b H'
def AP(X:Cx)(pins:List (Addr×Obj))(σ:St)(Q:List V->Hp->Prop)(us:List Value)(s':Shared):Prop:=∃ vs H',Inv X pins σ H' s'/\Vals vs us/\Q vs H'
def SP(X:Cx)(pins:List (Addr×Obj))(D:dH)(f:Flow)(s':Shared):Prop :=
 match f with
 |.next=>∃ σ' H',Inv X pins σ' H' s'/\D.nx σ' H'
 |.brk=>∃ σ' H',Inv X pins σ' H' s'/\D.bk σ' H'
 |.cont=>∃ σ' H',Inv X pins σ' H' s'/\D.ct σ' H'
 |.ret u=>∃ v σ' H',Inv X pins σ' H' s'/\RelV v u/\D.rt v H'
def PE(X:Cx)(e:Expr)(t:TE):Prop :=
 ∀ (pins:List (Addr×Obj))(s:Shared)(σ:St)(H:Hp)(Q:VK),Inv X pins σ H s->t σ H Q->wpAny (model X.prog X.w) X.A (eval e X.env) (EP X pins σ Q) X.xe s
def PT(X:Cx)(e:Expr)(t:TT):Prop :=
 ∀ (pins:List (Addr×Obj))(s:Shared)(σ:St)(H:Hp)(Q:Bool->Hp->Prop),Inv X pins σ H s->t σ H Q->wpAny (model X.prog X.w) X.A (isTrue e X.env (eval e X.env)) (TP X pins σ Q) X.xe s
def PW(X:Cx)(e:Expr)(t:TT):Prop :=
 ∀ (ig:Sem Value)(pins:List (Addr×Obj))(s:Shared)(σ:St)(H:Hp)(Q:Bool->Hp->Prop),Inv X pins σ H s->t σ H Q->wpAny (model X.prog X.w) X.A (isTrue e X.env ig) (TP X pins σ Q) X.xe s
theorem PW.pt{X:Cx}{e:Expr}{t:TT}(h:PW X e t):PT X e t:=h _
def PA(X:Cx)(es:List Expr)(t:TA):Prop :=
 ∀ (pos:Pos)(pins:List (Addr×Obj))(s:Shared)(σ:St)(H:Hp)(Q:List V->Hp->Prop),Inv X pins σ H s->t σ H Q->wpAny (model X.prog X.w) X.A (spliced (backTo pos (starEach es X.env))) (AP X pins σ Q) X.xe s
def PS(X:Cx)(st:Stmt)(t:TS):Prop :=
 ∀ (pins:List (Addr×Obj))(s:Shared)(σ:St)(H:Hp)(D:dH),Inv X pins σ H s->t D σ H->wpAny (model X.prog X.w) X.A (exec st X.env) (SP X pins D) X.xe s
def PSs(X:Cx)(st:List Stmt)(t:TS):Prop :=
 ∀ (pins:List (Addr×Obj))(s:Shared)(σ:St)(H:Hp)(D:dH),Inv X pins σ H s->t D σ H->wpAny (model X.prog X.w) X.A (execs st X.env) (SP X pins D) X.xe s
theorem aP{α:Type}{t:Sem α}{Q Q':α->Shared->Prop}{M:Model}{A:Around}{E:Value->Shared->Prop}{s:Shared}(h:wpAny M A t Q E s)(hQ:∀ a s,Q a s->Q' a s):wpAny M A t Q' E s:=ax h hQ fun _ _ x=>x
end L2
namespace L2
open PySem PySem.Spec PyProof.Rows
section
variable{X:Cx}
theorem bin{a b:Expr}{ta tb:TE}(ha:PE X a ta)(hb:PE X b tb){pins:List (Addr×Obj)}{s:Shared}{σ:St}{H:Hp}{R:V->V->Hp->Prop}(I:Inv X pins σ H s)(h:ta σ H fun x H1=>tb σ H1 fun y H2=>R x y H2)
  {α:Type}{Q:α->Shared->Prop}{f:Value->Value->Sem α}
  (hf:∀ v u s2 x y H2,Inv X pins σ H2 s2->RelV x v->RelV y u->R x y H2->wpAny (model X.prog X.w) X.A (f v u) Q X.xe s2) :
  wpAny (model X.prog X.w) X.A (eval a X.env) (fun v s₁=>wpAny (model X.prog X.w) X.A (eval b X.env) (fun u s₂=>wpAny (model X.prog X.w) X.A (f v u) Q X.xe s₂) X.xe s₁) X.xe s:=by
 refine aP (ha pins s σ H _ I h) fun v s1 ⟨x,H1,I1,r1,q1⟩=>?_;refine aP (hb pins s1 σ H1 _ I1 q1) fun u s2 ⟨y,H2,I2,r2,q2⟩=>?_;exact hf v u s2 x y H2 I2 r1 r2 q2
def EA(i:Nat):TE:=fun σ H Q=>∃ v,σ[i]?=some (some v)/\Q v H
def tC(v:V):TE:=fun _ H Q=>Q v H
theorem pc{i:Nat}{x:Str}{pos:Pos}(hN:X.N[i]?=some x)(hv:za X.env.scope x)(hd:(x==("__debug__" : Str))=false:=by decide)(jh:(x==("__classdict__" : Str))=false:=by decide):PE X (.Name x pos) (EA i):=by
 intro pins s σ H Q I h;obtain⟨v,e,h⟩:=h;obtain⟨m,hn,hl⟩:=I.loc;obtain⟨u,r,l⟩:=hl i x v hN e hv;have fin:EP X pins σ Q u s:=⟨v,H,I,r,h⟩;rcases l with⟨hk,hm⟩ |⟨hk,c,hc,hcell⟩
 ·exact cj (aX I.ok.kind hk hn hm fin) hd
 ·rcases hk with hk |hk
  ·exact cj (wpAny_loadName_cell I.ok.kind hk hc hcell fin) hd
  ·exact cj (wpAny_loadName_free I.ok.kind hk hc hcell fin jh) hd
theorem bx{i j pos}:PE X (.Constant (.int i) j pos) (tC (.int i)):=fun _ _ _ H _ I h=>wpAny_Constant_int ⟨.int i,H,I.tok _,⟨_,rfl⟩,h⟩
theorem dF{b j pos}:PE X (.Constant (.bool b) j pos) (tC (.bl b)):=fun _ _ _ H _ I h=>Constant_bool ⟨.bl b,H,I,rfl,h⟩
def Gl(X:Cx)(x:Str):Prop:=X.env.kindOf x=some .globalImplicit
theorem ma{E:Value->Shared->Prop}{pins:List (Addr×Obj)}{s:Shared}{σ:St}{H:Hp}{x:Str}{u:Value}{pos:Pos}{Q:Value->Shared->Prop}(I:Inv X pins σ H s)(hg:Gl X x)(hm:X.mg x=some u)(h:Q u s)
  (hd:(x==("__debug__" : Str))=false:=by decide):wpAny (model X.prog X.w) X.A (eval (.Name x pos) X.env) Q E s :=
 Calls.Name_function_global I.ok.kind hg (Calls.loadGlobal_global (by rw [I.ok.glob];exact I.mod.glob.keeps I.bk) hm h) hd
theorem Bj{E:Value->Shared->Prop}{pins:List (Addr×Obj)}{s:Shared}{σ:St}{H:Hp}{x:Str}{u:Value}{pos:Pos}{Q:Value->Shared->Prop}(I:Inv X pins σ H s)(hg:Gl X x)(hm:X.mg x=none)(hv:bootBuiltins x=some u)(h:Q u s)
  (hn:x≠"__name__":=by decide)(hd:(x==("__debug__" : Str))=false:=by decide):wpAny (model X.prog X.w) X.A (eval (.Name x pos) X.env) Q E s:=by
 obtain⟨mb,h1,h2⟩:=I.mod.blt;exact Calls.Name_function_global I.ok.kind hg (Calls.loadGlobal_builtin (by rw [I.ok.glob];exact I.mod.glob.keeps I.bk) hm (by rw [I.ok.blt];exact h1.keeps I.bk) ((h2 x hn).trans hv) h) hd
theorem Bg{x:Str}{v:V}{u:Value}{pos:Pos}(hg:Gl X x)(hm:X.mg x=some u)(r:RelV v u)(hd:(x==("__debug__" : Str))=false:=by decide):PE X (.Name x pos) (tC v) :=
 fun _ _ _ H _ I h=>ma I hg hm ⟨v,H,I,r,h⟩ hd
variable{a b:Expr}{ta tb:TE}{pos:Pos}
def PC(X:Cx)(op:CmpOp)(a b:Expr)(t:TE):Prop :=
 ∀ (pins:List (Addr×Obj))(s:Shared)(σ:St)(H:Hp)(Q:VK),Inv X pins σ H s->t σ H Q ->
  wpAny (model X.prog X.w) X.A (eval a X.env) (fun v s₁=>wpAny (model X.prog X.w) X.A (eval b X.env) (fun u s₂=>wpAny (model X.prog X.w) X.A (compareOp op v u) (EP X pins σ Q) X.xe s₂) X.xe s₁) X.xe s
def tB(t:TE):TT:=fun σ H Q=>t σ H fun x H1=>∃ c,x=.bl c/\Q c H1
theorem FH{op:CmpOp}{t:TE}(h:PC X op a b t)(h1:behindInMarks op b=false:=by first |exact nobehind _ (by decide) (by decide) |rfl):PT X (.Compare a [op] [b] pos) (tB t):=by
 intro pins s σ H Q I hw;refine wpAny_isTrue_Compare1 (aP (h pins s σ H _ I hw) fun v s1 h1=>aP h1 fun u s2 h2=>aP h2 fun c s3 ⟨x,H1,I1,r1,q1⟩=>?_) h1;obtain⟨d,rfl,q⟩:=q1;cases r1;exact df ⟨H1,I1,q⟩
theorem zD{e:Expr}{t:TE}(h:PE X e t)(he:autoParam (∀ ig,isTrue e X.env ig=(do let v <-ig;standAt e.pos;holding [v] (truthy v))) aI._auto_1):PT X e (tB t):=by
 intro pins s σ H Q I hw;refine isTrue_plain (aP (h pins s σ H _ I hw) fun v s1 ⟨x,H1,I1,r1,q1⟩=>?_) (he _);obtain⟨d,rfl,q⟩:=q1;cases r1;exact df ⟨H1,I1,q⟩
variable{tA Gg:TT}{d8:List Expr}
def Mh(t u:TT):TT:=fun σ H Q=>t σ H fun c H1=>if c=true then u σ H1 Q else Q false H1
def tOr(t u:TT):TT:=fun σ H Q=>t σ H fun c H1=>if c=true then Q true H1 else u σ H1 Q
def Mp(t:TT):TT:=fun σ H Q=>t σ H fun c H1=>Q (!c) H1
theorem Fu(ha:PT X a tA):PW X (.BoolOp .And [a] pos) tA:=by
 intro wh pins s σ H Q I h;refine isTrue_and (aP (ha pins s σ H Q I h) fun c s1 e=>?_);cases c with
 |true=>exact isTrue_and_nil e
 |false=>exact e
theorem FG(ha:PT X a tA):PW X (.BoolOp .Or [a] pos) tA:=by
 intro wh pins s σ H Q I h;refine isTrue_or (aP (ha pins s σ H Q I h) fun c s1 e=>?_);cases c with
 |false=>exact isTrue_or_nil e
 |true=>exact e
theorem Bk(ha:PT X a tA)(hb:PW X (.BoolOp .And (b::d8) pos) Gg):PW X (.BoolOp .And (a::b::d8) pos) (Mh tA Gg):=by
 intro wh pins s σ H Q I h;refine isTrue_and (aP (ha pins s σ H _ I h) fun c s1 ⟨H1,I1,q1⟩=>?_);cases c with
 |true=>exact hb wh pins s1 σ H1 Q I1 q1
 |false=>exact⟨H1,I1,q1⟩
theorem jz(ha:PT X a tA)(hb:PW X (.BoolOp .Or (b::d8) pos) Gg):PW X (.BoolOp .Or (a::b::d8) pos) (tOr tA Gg):=by
 intro wh pins s σ H Q I h;refine isTrue_or (aP (ha pins s σ H _ I h) fun c s1 ⟨H1,I1,q1⟩=>?_);cases c with
 |true=>exact⟨H1,I1,q1⟩
 |false=>exact hb wh pins s1 σ H1 Q I1 q1
theorem Jv(ha:PT X a tA):PT X (.UnaryOp .Not a pos) (Mp tA):=by
 intro pins s σ H Q I h;exact isTrue_not (ha pins s σ H (fun c H1=>Q (!c) H1) I h)
def Eg(ta tb:TE):TE:=fun σ H Q=>ta σ H fun x H1=>∃ c,x=.bl c/\if c=true then tb σ H1 Q else Q (.bl false) H1
def Eu(ta:TE):TE:=fun σ H Q=>ta σ H fun x H1=>∃ c,x=.bl c/\Q (.bl (!c)) H1
theorem FE{op}{t:TE}(h:PE X a t):PE X (.BoolOp op [a] pos) t:=fun pins s σ H Q I hw=>BoolOp_one (h pins s σ H Q I hw)
theorem Bl(ha:PE X a ta)(hb:PE X (.BoolOp .And (b::d8) pos) tb):PE X (.BoolOp .And (a::b::d8) pos) (Eg ta tb):=by
 intro pins s σ H Q I h;refine BoolOp_and (aP (ha pins s σ H _ I h) fun v s1 ⟨x,H1,I1,r1,q1⟩=>?_);obtain⟨c,rfl,q1⟩:=q1;cases r1;refine df ?_;cases c with
 |true=>exact hb pins s1 σ H1 Q I1 q1
 |false=>exact⟨.bl false,H1,I1,rfl,q1⟩
theorem oZ(ha:PE X a ta):PE X (.UnaryOp .Not a pos) (Eu ta):=by
 intro pins s σ H Q I h;refine UnaryOp_ (aP (ha pins s σ H _ I h) fun v s1 ⟨x,H1,I1,r1,q1⟩=>?_);obtain⟨c,rfl,q1⟩:=q1;cases r1;exact not_of (df ⟨.bl (!c),H1,I1,rfl,q1⟩)
def tIf(t:TT)(ta tb:TE):TE:=fun σ H Q=>t σ H fun c H1=>if c=true then ta σ H1 Q else tb σ H1 Q
theorem oX{c:Expr}(hc:PT X c tA)(ha:PE X a ta)(hb:PE X b tb):PE X (.IfExp c a b pos) (tIf tA ta tb):=by
 intro pins s σ H Q I h;refine wpAny_IfExp (aP (hc pins s σ H _ I h) fun d s1 ⟨H1,I1,q1⟩=>?_);cases d with
 |true=>exact ha pins s1 σ H1 Q I1 q1
 |false=>exact hb pins s1 σ H1 Q I1 q1
end
end L2
namespace L2
open PySem PySem.Spec PyProof.Rows
def SqL(K:aq)(H:Hp)(a:Addr)(xs:List V):Prop :=
 Rd H a (.lst xs) \/
  ∃ (o:Obj)(its:Array Value)(n:Nat),K.lookup a=some o/\o.cls=.type "list"/\o.dict=none/\o.data=.seq its n/\its.size<=sizeLine/\Vals xs its.toList
def SqT(K:aq)(H:Hp)(a:Addr)(xs:List V):Prop :=
 Rd H a (.tup xs) \/
  ∃ (o:Obj)(its:Array Value)(n:Nat),K.lookup a=some o/\o.cls=.type "tuple"/\o.data=.seq its n/\its.size<=sizeLine/\Vals xs its.toList
noncomputable def Jx:Value->Option V
 |.none=>some .non
 |.bool b=>some (.bl b)
 |.int i _=>some (.int i)
 |.str x _=>some (.str x)
 |.bytes b _=>some (.byt b)
 |.float b _=>some (.flt b)
 |.ref a=>some (.ref a)
 |.type n=>some (.ty n)
 |_=>none
theorem RelV.abs{x:V}{u:Value}(r:RelV x u):Jx u=some x:=by
 cases x with
 |non=>cases r;rfl
 |bl _=>cases r;rfl
 |int _=>obtain⟨t,rfl⟩:=r;rfl
 |str _=>obtain⟨t,rfl⟩:=r;rfl
 |byt _=>obtain⟨t,rfl⟩:=r;rfl
 |flt _=>obtain⟨t,rfl⟩:=r;rfl
 |ref _=>cases r;rfl
 |ty _=>cases r;rfl
theorem RelV.inj{x y:V}{u:Value}(r:RelV x u)(q:RelV y u):x=y:=Option.some.inj (r.abs.symm.trans q.abs)
theorem Vals.inj:∀ {xs ys:List V}{us:List Value},Vals xs us->Vals ys us->xs=ys
 |_,_,_,.nil,.nil=>rfl
 |_,_,_,.cons r t,.cons r' t'=>by rw [r.inj r',Vals.inj t t']
section
variable{X:Cx}{pins:List (Addr×Obj)}{σ:St}{H:Hp}{s:Shared}{a:Addr}{xs ys:List V}
theorem SqL.of{K:aq}(h:H a=some (.lst xs)):SqL K H a xs:=.inl (.inl h)
theorem SqT.of{K:aq}(h:H a=some (.tup xs)):SqT K H a xs:=.inl (.inl h)
theorem Inv.list(I:Inv X pins σ H s)(h:SqL X.K H a xs):∃ its:List Value,Vals xs its/\PlainL s.heap a its.toArray/\xs.length<=sizeLine:=by
 rcases h with h |⟨o,its,n,hk,hc,hd,hs,hz,r⟩
 ·obtain⟨z,its,n,r,e⟩:=h.ok I.hok;exact⟨its,r,⟨_,n,e,rfl,rfl,rfl⟩,z⟩
 ·refine⟨its.toList,r,⟨o,n,I.kIn a o hk,hc,hd,by simpa using hs⟩,?_⟩
  have e:=r.length;simp only [AK]at e;omega
theorem Inv.tuple(I:Inv X pins σ H s)(h:SqT X.K H a xs):∃ its:List Value,Vals xs its/\IsTup s.heap a its.toArray/\xs.length<=sizeLine:=by
 rcases h with h |⟨o,its,n,hk,hc,hs,hz,r⟩
 ·obtain⟨z,its,r,p⟩:=h.ok I.hok;exact⟨its,r,p,z⟩
 ·refine⟨its.toList,r,⟨o,I.kIn a o hk,hc,n,by simpa using hs⟩,?_⟩
  have e:=r.length;simp only [AK]at e;omega
theorem Inv.list_inj(I:Inv X pins σ H s)(h:SqL X.K H a xs)(h':SqL X.K H a ys):xs=ys:=by
 obtain⟨its,r,⟨o,n,e,_,_,d⟩,_⟩:=I.list h;obtain⟨its',r',⟨o',n',e',_,_,d'⟩,_⟩:=I.list h';rw [e]at e';cases e';rw [d]at d';injection d' with d1 _
 have:its=its':=by simpa using au Array.toList d1
 subst this;exact r.inj r'
theorem Inv.tuple_inj(I:Inv X pins σ H s)(h:SqT X.K H a xs)(h':SqT X.K H a ys):xs=ys:=by
 obtain⟨its,r,⟨o,e,_,n,d⟩,_⟩:=I.tuple h;obtain⟨its',r',⟨o',e',_,n',d'⟩,_⟩:=I.tuple h';rw [e]at e';cases e';rw [d]at d';injection d' with d1 _
 have:its=its':=by simpa using au Array.toList d1
 subst this;exact r.inj r'
end
abbrev Cx.wish(X:Cx)(E:Value->Shared->Prop):Cx:={ X with xe:=E }
abbrev Cx.nox(X:Cx):Cx:=X.wish fun _ _=>False
theorem Cx.Ok.wish{X:Cx}(ok:X.Ok)(E:Value->Shared->Prop):(X.wish E).Ok :=
 ⟨ok.mod,ok.kind,ok.glob,ok.blt,ok.above,ok.inj,ok.has,ok.cab,ok.hd,ok.frames,ok.stk,ok.exf,ok.bs,ok.bsz,ok.noex,ok.exfs,ok.funs,ok.frf⟩
theorem Cx.Ok.unwish{X:Cx}{E:Value->Shared->Prop}(ok:(X.wish E).Ok):X.Ok :=
 ⟨ok.mod,ok.kind,ok.glob,ok.blt,ok.above,ok.inj,ok.has,ok.cab,ok.hd,ok.frames,ok.stk,ok.exf,ok.bs,ok.bsz,ok.noex,ok.exfs,ok.funs,ok.frf⟩
section
variable{X:Cx}{pins:List (Addr×Obj)}{σ:St}{H:Hp}{s:Shared}{E:Value->Shared->Prop}
theorem Inv.wish(I:Inv X pins σ H s)(E:Value->Shared->Prop):Inv (X.wish E) pins σ H s:=⟨I.ok.wish E,I.os,I.bare,I.base,I.loc,I.cell,I.free,I.freeC,I.pin,I.hok,I.len⟩
theorem Inv.unwish(I:Inv (X.wish E) pins σ H s):Inv X pins σ H s:=⟨I.ok.unwish,I.os,I.bare,I.base,I.loc,I.cell,I.free,I.freeC,I.pin,I.hok,I.len⟩
theorem SP.unwish{D:dH}{f:Flow}{s':Shared}(h:SP (X.wish E) pins D f s'):SP X pins D f s':=by
 cases f with
 |next=>obtain⟨σ',H',I,q⟩:=h;exact⟨σ',H',I.unwish,q⟩
 |brk=>obtain⟨σ',H',I,q⟩:=h;exact⟨σ',H',I.unwish,q⟩
 |cont=>obtain⟨σ',H',I,q⟩:=h;exact⟨σ',H',I.unwish,q⟩
 |ret u=>obtain⟨v,σ',H',I,r,q⟩:=h;exact⟨v,σ',H',I.unwish,r,q⟩
theorem PSs.nox{st:List Stmt}{t:TS}(h:PSs X.nox st t):PSs X st t:=fun pins s σ H D I hw =>
 ax (h pins s σ H D (I.wish _) hw) (fun _ _ q=>q.unwish) fun _ _ z=>False.elim z
end
section
variable{X:Cx}{st:Stmt}{d8:List Stmt}{t u:TS}{e:Expr}{te:TE}{pos:Pos}
def Es:TS:=fun D σ H=>D.nx σ H
def Mr(t u:TS):TS:=fun D σ H=>t { D with nx:=u D } σ H
theorem il:PSs X [] Es:=fun _ _ σ H _ I h=>dU ⟨σ,H,I,h⟩
theorem aN(h1:PS X st t)(h2:PSs X d8 u):PSs X (st::d8) (Mr t u):=by
 intro pins s σ H D I h;refine cG (aP (h1 pins s σ H { D with nx:=u D } I h) fun f s1 q=>?_)
 cases f with
 |next =>
  obtain⟨σ',H',I',q⟩:=q;exact h2 pins s1 σ' H' D I' q
 |ret v=>exact q
 |brk=>exact q
 |cont=>exact q
theorem bg(h1:PS X st t):PSs X [st] t:=by
 intro pins s σ H D I h;refine cG (aP (h1 pins s σ H D I h) fun f s1 q=>?_);cases f with
 |next=>exact dU q
 |ret v=>exact q
 |brk=>exact q
 |cont=>exact q
theorem Inv.quiet{pins:List (Addr×Obj)}{σ:St}{H:Hp}{s:Shared}(I:Inv X pins σ H s):interactive X.env=false:=by simp [interactive,I.ok.kind]
def Em(te:TE):TS:=fun D σ H=>te σ H fun _ H1=>D.nx σ H1
theorem gR(he:PE X e te)(hs:autoParam (swapsWith e none pos.line X.env=pure false) aR._auto_1):PS X (.Expr e pos) (Em te):=by
 intro pins s σ H D I h;exact wpAny_Expr_any (aP (he pins s σ H _ I h) fun v s1 ⟨x,H1,I1,r1,q1⟩=>⟨σ,H1,I1,q1⟩) I.quiet hs
def Mq(te:TE):TS:=fun D σ H=>te σ H D.rt
theorem dJ(he:PE X e te):PS X (.Return (some e) pos) (Mq te):=by
 intro pins s σ H D I h;exact wpAny_Return_some (aP (he pins s σ H _ I h) fun v s1 ⟨x,H1,I1,r1,q1⟩=>⟨x,σ,H1,I1,r1,q1⟩)
def Mn(c:TT)(t u:TS):TS:=fun D σ H=>c σ H fun b H1=>if b=true then t D σ H1 else u D σ H1
theorem bZ{c:Expr}{a b:List Stmt}{tc:TT}(hc:PT X c tc)(ha:PSs X a t)(hb:PSs X b u):PS X (.If c a b pos) (Mn tc t u):=by
 intro pins s σ H D I h;refine wpAny_If (aP (hc pins s σ H _ I h) fun d s1 ⟨H1,I1,q1⟩=>?_);cases d with
 |true=>exact ha pins s1 σ H1 D I1 q1
 |false=>exact hb pins s1 σ H1 D I1 q1
end
abbrev TG:=V->St->Hp->(St->Hp->Prop)->Prop
abbrev uE:=List V->St->Hp->(St->Hp->Prop)->Prop
def PG(X:Cx)(gj:Expr)(t:TG):Prop :=
 ∀ (pins:List (Addr×Obj))(s:Shared)(σ:St)(H:Hp)(v:V)(u:Value)(Q:St->Hp->Prop),Inv X pins σ H s->RelV v u->t v σ H Q ->
  wpAny (model X.prog X.w) X.A (assign gj X.env u) (fun _ s'=>∃ σ' H',Inv X pins σ' H' s'/\Q σ' H') X.xe s
def Ay(X:Cx)(ts:List Expr)(t:uE):Prop :=
 ∀ (pins:List (Addr×Obj))(s:Shared)(σ:St)(H:Hp)(vs:List V)(us:List Value)(Q:St->Hp->Prop),Inv X pins σ H s->Vals vs us->t vs σ H Q ->
  wpAny (model X.prog X.w) X.A (assignInOrder ((assignEach ts X.env).map (·.2)) us) (fun _ s'=>∃ σ' H',Inv X pins σ' H' s'/\Q σ' H') X.xe s
abbrev mD:=V->V->V->Hp->(Hp->Prop)->Prop
def vO(X:Cx)(t:mD):Prop :=
 ∀ (pins:List (Addr×Obj))(s:Shared)(σ:St)(H:Hp)(o i v:V)(ov iv u:Value)(Q:Hp->Prop),Inv X pins σ H s->RelV o ov->RelV i iv->RelV v u->t o i v H Q ->
  wpAny (model X.prog X.w) X.A (setItem ov iv u) (fun _ s'=>∃ H',Inv X pins σ H' s'/\Q H') X.xe s
abbrev EU:=V->V->Hp->VK->Prop
def NB(X:Cx)(op:Operator)(t:EU):Prop :=
 ∀ (pins:List (Addr×Obj))(s:Shared)(σ:St)(H:Hp)(x y:V)(v u:Value)(Q:VK),Inv X pins σ H s->RelV x v->RelV y u->t x y H Q ->
  wpAny (model X.prog X.w) X.A (inplaceOp op v u) (EP X pins σ Q) X.xe s
section
variable{X:Cx}{pos:Pos}
def iH(i:Nat):TG:=fun v σ H Q=>Q (σ.set i (some v)) H
theorem eT{i:Nat}{x:Str}(hN:X.N.Nodup)(hi:X.N[i]?=some x)(hx:ER X.env.scope x)(hf:autoParam (X.fn x=true\/X.env.scope.names.lookup x=some .local) aF._auto_1):PG X (.Name x pos) (iH i):=by
 intro pins s σ H v u Q I r h;exact yV (Fh I hN hi hx r (fun s' I'=>⟨_,H,I',h⟩) hf)
def JR:uE:=fun vs σ H Q=>vs=[]/\Q σ H
def BM(t:TG)(u:uE):uE:=fun vs σ H Q=>∃ v r,vs=v::r/\t v σ H fun σ' H'=>u r σ' H' Q
theorem wc:Ay X [] JR:=by
 intro pins s σ H vs us Q I r h;obtain⟨e,h⟩:=h;subst e;cases r;exact assignInOrder_nil ⟨σ,H,I,h⟩
theorem kr{e:Expr}{es:List Expr}{t:TG}{u:uE}(h1:PG X e t)(h2:Ay X es u)
  (hs:autoParam ((assignEach (e::es) X.env).map (·.2)=assign e X.env::(assignEach es X.env).map (·.2)) aR._auto_1):Ay X (e::es) (BM t u):=by
 intro pins s σ H vs us Q I r h;obtain⟨v,vr,e1,h⟩:=h;subst e1;cases r with
 |cons r rr =>
  rw [hs];refine assignInOrder_cons (aP (h1 pins s σ H _ _ _ I r h) fun _ s1 ⟨σ1,H1,I1,q1⟩=>?_);exact h2 pins s1 σ1 H1 _ _ Q I1 rr q1
def BN(K:aq)(n:Nat)(t:uE):TG:=fun v σ H Q=>∃ a xs,v=.ref a/\SqT K H a xs/\xs.length=n/\t xs σ H Q
theorem zA{es:List Expr}{k:Nat}{t:uE}{n:Nat}(hc:X.calm=true)(h:Ay X es t)
  (hn:autoParam ((assignEach es X.env).length=n) aR._auto_1)(cp:autoParam ((assignEach es X.env).findIdx? (·.1)=none) aR._auto_1):PG X (.Tuple es k pos) (BN X.K n t):=by
 intro pins s σ H v u Q I r hw;obtain⟨a,xs,e1,hq,hl,hw⟩:=hw;subst e1;cases r;obtain⟨its,rv,ht,hz⟩:=I.tuple hq;refine assign_Tuple_tuple (I.ok.hd hc) ht (by simp [hn,<-hl,rv.length]) cp fun h' hx=>?_
 have I1:Inv X pins σ H { s with heap:=h' }:=I.kept (t':=s.toks) fun b o e=>hx b o (eF (cy e)) e
 exact h pins _ σ H xs _ Q I1 (by simpa using rv) hw
def JS(to ti:TE)(t:mD):TG:=fun v σ H Q=>to σ H fun o H1=>ti σ H1 fun i H2=>t o i v H2 fun H3=>Q σ H3
theorem yl{o i:Expr}{to ti:TE}{t:mD}(ho:PE X o to)(hi:PE X i ti)(hs:vO X t)
  (ha:autoParam (∀ v,assign (.Subscript o i pos) X.env v=(do
    let ov <-holding [v] (eval o X.env)
    let iv <-holding [v,ov] (eval i X.env)
    standAt pos
    holding [v,ov,iv] (setItem ov iv v)
    release [v,ov,iv] [])) aI._auto_1):PG X (.Subscript o i pos) (JS to ti t):=by
 intro pins s σ H v u Q I r h;rw [ha];refine aa (bw (aP (ho pins s σ H _ I h) fun ov s1 ⟨x,H1,I1,r1,q1⟩=>?_));refine aa (bw (aP (hi pins s1 σ H1 _ I1 q1) fun iv s2 ⟨y,H2,I2,r2,q2⟩=>?_));refine aa (bo (aa (bw (aP (hs pins s2 σ H2 x y v ov iv u _ I2 r1 r2 r q2) fun _ s3 ⟨H3,I3,q3⟩=>?_))));exact wpAny_release ⟨σ,H3,I3,q3⟩
def ug(te:TE)(g:TG):TS:=fun D σ H=>te σ H fun x H1=>g x σ H1 D.nx
theorem yr{tg e:Expr}{te:TE}{g:TG}(he:PE X e te)(hg:PG X tg g)(hs:autoParam (swapsWithSole [tg] e pos.line X.env=pure false) aR._auto_1)(hw:autoParam (swappedStores [tg] e X.env=pure none) aR._auto_1)
  (h1:autoParam ((assignEach [tg] X.env).map (·.2)=[assign tg X.env]) aR._auto_1):PS X (.Assign [tg] e pos) (ug te g):=by
 intro pins s σ H D I h;refine wpAny_Assign_stores (aP (he pins s σ H _ I h) fun v s1 ⟨x,H1,I1,r1,q1⟩=>?_) hs hw;rw [h1];exact aP (hg pins s1 σ H1 x v _ I1 r1 q1) fun _ s2 q=>q
theorem di{i:Nat}{x:Str}{e:Expr}{te:TE}{eW:Pos}(hN:X.N.Nodup)(hi:X.N[i]?=some x)(hx:ER X.env.scope x)(he:PE X e te)(hs:autoParam (swapsWith e (some (.Name x eW)) pos.line X.env=pure false) aR._auto_1)(hf:autoParam (X.fn x=true\/X.env.scope.names.lookup x=some .local) aF._auto_1) :
  PS X (.Assign [.Name x eW] e pos) (ug te (iH i)):=by
 intro pins s σ H D I h;refine wpAny_Assign_Name (aP (he pins s σ H _ I h) fun v s1 ⟨y,H1,I1,r1,q1⟩=>?_) hs;exact Fh I1 hN hi hx r1 (fun s2 I2=>⟨_,H1,I2,q1⟩) hf
def Eh(to ti te:TE)(uj:V->V->Hp->VK->Prop)(Gi:EU)(uu:mD):TS:=fun D σ H=>to σ H fun o H1=>ti σ H1 fun i H2=>uj o i H2 fun x H3=>te σ H3 fun y H4=>Gi x y H4 fun z H5=>uu o i z H5 fun H6=>D.nx σ H6
def Ax(X:Cx)(t:V->V->Hp->VK->Prop):Prop :=
 ∀ (pins:List (Addr×Obj))(s:Shared)(σ:St)(H:Hp)(o i:V)(ov iv:Value)(Q:VK),Inv X pins σ H s->RelV o ov->RelV i iv->t o i H Q ->
  wpAny (model X.prog X.w) X.A (getItem ov iv) (EP X pins σ Q) X.xe s
theorem PB{o i e:Expr}{to ti te:TE}{uj:V->V->Hp->VK->Prop}{Gi:EU}{uu:mD}{op:Operator}{dN:Pos}(ho:PE X o to)(hi:PE X i ti)(hg:Ax X uj)(he:PE X e te)(hp:NB X op Gi)(hs:vO X uu)
  (ha:∀ ov iv new,augStore i ov iv new=(do holding [new,ov,iv] (setItem ov iv new);release [new,ov,iv] [];pure .next):=by intros;rfl):PS X (.AugAssign (.Subscript o i dN) op e pos) (Eh to ti te uj Gi uu):=by
 intro pins s σ H D I h;refine wpAny_AugAssign_SubscriptAny (aP (ho pins s σ H _ I h) fun ov s1 ⟨x1,H1,I1,r1,q1⟩=>?_) ha;refine aP (hi pins s1 σ H1 _ I1 q1) fun iv s2 ⟨x2,H2,I2,r2,q2⟩=>?_;refine aP (hg pins s2 σ H2 x1 x2 ov iv _ I2 r1 r2 q2) fun ir s3 ⟨x3,H3,I3,r3,q3⟩=>?_;refine aP (he pins s3 σ H3 _ I3 q3) fun v s4 ⟨x4,H4,I4,r4,q4⟩=>?_;refine aP (hp pins s4 σ H4 x3 x4 ir v _ I4 r3 r4 q4) fun new s5 ⟨x5,H5,I5,r5,q5⟩=>?_;exact aP (hs pins s5 σ H5 x1 x2 x5 ov iv new _ I5 r1 r2 r5 q5) fun _ s6 ⟨H6,I6,q6⟩=>⟨σ,H6,I6,q6⟩
def ipI(f:Int->Int->Int):EU:=fun x y H Q=>∃ i j,x=.int i/\y=.int j/\Q (.int (f i j)) H
theorem ou:NB X .Add (ipI fun i j=>i+j):=by
 intro pins s σ H x y v u Q I r1 r2 h;obtain⟨i,j,e1,e2,q⟩:=h;subst e1;subst e2;obtain⟨t,rfl⟩:=r1;obtain⟨t',rfl⟩:=r2;exact iadd_int ⟨.int _,H,I.tok _,⟨_,rfl⟩,q⟩
end
section
variable{X:Cx}{pos:Pos}
def Jq(c:TT)(tb:TS):TS:=fun D σ H=>∃ W:Nat->St->Hp->Prop,(∃ m,W m σ H)/\∀ m σ H,W m σ H ->
 c σ H fun b H1=>if b=true then ∃ N:St->Hp->Prop,(∀ σ' H',N σ' H'->∃ m',m' < m/\W m' σ' H')/\tb { D with nx:=N,ct:=N,bk:=D.nx } σ H1 else D.nx σ H1
theorem Fo{c:Expr}{body:List Stmt}{tc:TT}{tb:TS}(hp:PassesOwn (model X.prog X.w) X.A X.env X.xe)(hc:PT X c tc)(hb:PSs X body tb):PS X (.While c body [] pos) (Jq tc tb):=by
 intro pins s σ H D I h;obtain⟨W,⟨m0,w0⟩,turn⟩:=h;refine wpAny_While (codeAny_whileLoop (fun n s'=>∃ σ' H',Inv X pins σ' H' s'/\W n σ' H') ?_ m0 ⟨σ,H,I,w0⟩);rintro n s1 ⟨σ1,H1,I1,w1⟩;refine cR hp (aP (hc pins s1 σ1 H1 _ I1 (turn n σ1 H1 w1)) fun b s2 ⟨H2,I2,q2⟩=>?_);cases b with
 |true =>
  obtain⟨N,hN,q2⟩:=q2;rw [ae rfl];refine cR hp (aP (hb pins s2 σ1 H2 _ I2 q2) fun f s3 q3=>?_);cases f with
  |next =>
   obtain⟨σ3,H3,I3,n3⟩:=q3;obtain⟨m',hm,w3⟩:=hN σ3 H3 n3;exact⟨m',hm,σ3,H3,I3,w3⟩
  |cont =>
   obtain⟨σ3,H3,I3,n3⟩:=q3;obtain⟨m',hm,w3⟩:=hN σ3 H3 n3;exact⟨m',hm,σ3,H3,I3,w3⟩
  |brk=>exact q3
  |ret v=>exact q3
 |false =>
  rw [ac fh];exact dU ⟨σ1,H2,I2,q2⟩
end
structure It where
 go:Nat->Hp->Prop
 yld:Nat->Hp->V->Hp->Prop
 stop:Nat->Hp->Prop
def eJ(X:Cx)(pins:List (Addr×Obj))(H:Hp)(b:Addr):Prop :=
 H b=none/\b≠X.env.locals/\b∉X.fs/\(b∈X.ex\/X.s_0.heap.objs.size<=b)/\(∀ x c,X.env.cells.lookup x=some c->c≠b)/\∀ p∈X.pn++pins,p.1≠b
theorem Inv.fpOk{X:Cx}{pins:List (Addr×Obj)}{σ:St}{H H':Hp}{s:Shared}{b:Addr}(I:Inv X pins σ H s)(hb:s.heap.objs.size<=b)(hn:H' b=none):eJ X pins H' b:=by
 refine⟨hn,kn (iC I.lt hb),I.nofs hb,.inr (iD I.sz hb),fun x c e z=>?_,fun p hp z=>?_⟩
 ·obtain⟨v,q⟩:=I.cell x c e;exact absurd (iC q.lt (by rw [z];exact hb)) (ik _)
 ·exact absurd (iC (cy (I.pin p hp).1) (by rw [z];exact hb)) (ik _)
structure iY(P:Program)(w:World)(K:aq)(tg:Expr)(J:It)(fp:List Addr)(it:Addr)(tn:Nat->Heap->Prop):Prop where
 mem:it∈fp
 obj:∀ i h,tn i h->∀ b∈fp,∃ o,h.get? b=some o/\∀ v,o.data≠.cell v
 keep:∀ i h h',tn i h->(∀ b∈fp,∀ o,h.get? b=some o->h'.get? b=some o)->tn i h'
 item:∀ (X:Cx),X.prog=P->X.w=w->X.K=K->X.calm=true->∀ (i:Nat)(pins:List (Addr×Obj))(s:Shared)(σ:St)(H:Hp)(E:Value->Shared->Prop),Inv X pins σ H s->(∀ b∈fp,eJ X pins H b)->tn i s.heap->J.go i H ->
  wpAny (model P w) X.A (pyNext (.ref it)) (fun r s1=>∃ u,r=some u /\
   wpAny (model P w) X.A (letOwnedTupleGo tg (.ref it) u) (fun _ s2=>∃ x H',Inv X pins σ H' s2/\RelV x u/\J.yld i H x H'/\tn (i+1) s2.heap/\∀ b∈fp,H' b=none) E s1) E s
 done:∀ (X:Cx),X.prog=P->X.w=w->X.K=K->X.calm=true->∀ (i:Nat)(pins:List (Addr×Obj))(s:Shared)(σ:St)(H:Hp)(E:Value->Shared->Prop),Inv X pins σ H s->(∀ b∈fp,eJ X pins H b)->tn i s.heap->J.stop i H ->
  wpAny (model P w) X.A (pyNext (.ref it)) (fun r s1=>r=none/\Inv X pins σ H s1) E s
 self:∀ (A:Around)(i:Nat)(s:Shared)(Q:Value->Shared->Prop)(E:Value->Shared->Prop),tn i s.heap->Q (.ref it) s->wpAny (model P w) A (pyIter (.ref it)) Q E s
abbrev TI:=St->Hp->(It->Hp->Prop)->Prop
def ES(X:Cx)(pins:List (Addr×Obj))(σ:St)(tg:Expr)(R:It->Hp->Prop)(F1:Value)(s2:Shared):Prop :=
 ∃ (it:Addr)(fp:List Addr)(tn:Nat->Heap->Prop)(J:It)(H':Hp),F1=.ref it/\Inv X pins σ H' s2/\iY X.prog X.w X.K tg J fp it tn/\tn 0 s2.heap/\(∀ b∈fp,eJ X pins H' b)/\R J H'
def PI(X:Cx)(tg iter:Expr)(wi:TI):Prop :=
 ∀ (pins:List (Addr×Obj))(s:Shared)(σ:St)(H:Hp)(R:It->Hp->Prop),Inv X pins σ H s->wi σ H R ->
  wpAny (model X.prog X.w) X.A (eval iter X.env) (fun v s1=>wpAny (model X.prog X.w) X.A (pyIter v) (ES X pins σ tg R) X.xe s1) X.xe s
theorem kM{M:Model}{A:Around}{E:Value->Shared->Prop}{s:Shared}{tg:Expr}{it:Addr}{u:Value}{o:Obj}{n:String}{vs:Array Value}{Q:Unit->Shared->Prop}(ho:s.heap.get? it=some o)(hc:o.cls=.type n)(hd:o.data=.fields vs)
  (hn:["enumerate","zip","dict_itemiterator","dict_reverseitemiterator","odict_iterator","itertools.zip_longest","itertools.pairwise"].contains n=false)(hQ:Q () s):wpAny M A (letOwnedTupleGo tg (.ref it) u) Q E s:=by
 unfold letOwnedTupleGo;cases tg<;>first
  |exact af hQ
  |(cases u<;>first
     |exact af hQ
     |(refine aa (wpAny_load ho ?_)
       rw [hc,hd];show wpAny M A (if (["enumerate","zip","dict_itemiterator","dict_reverseitemiterator","odict_iterator","itertools.zip_longest","itertools.pairwise"].contains n&&vs[0]?==some (rawInt _))=true then _ else _) Q E s;rw [ac (by intro h;rw [hn,Bool.false_and]at h;cases h)]
       exact af hQ))
def uz(K:aq)(a:Addr):It :=
 ⟨fun i H=>∃ xs x,SqL K H a xs/\xs[i]?=some x,fun i H x H'=>H'=H/\∀ xs,SqL K H a xs->xs[i]?=some x,fun i H=>∃ xs,SqL K H a xs/\xs.length<=i⟩
def As(K:aq)(a:Addr):It :=
 ⟨fun i H=>∃ xs x,SqT K H a xs/\xs[i]?=some x,fun i H x H'=>H'=H/\∀ xs,SqT K H a xs->xs[i]?=some x,fun i H=>∃ xs,SqT K H a xs/\xs.length<=i⟩
def qQ(lo:Int)(n:Nat):It:=⟨fun i _=>i<n,fun i H x H'=>H'=H/\x=.int (lo+i),fun i _=>n<=i⟩
theorem Zbs{P:Program}{w:World}{K:aq}{tg:Expr}(a it:Addr):iY P w K tg (uz K a) [it] it (fun i h=>h.IsListIter it a i) where
 mem:=by simp
 obj:=fun i h st b hb=>by
  have e:b=it:=by simpa using hb
  subst e;obtain⟨o,e,c,d⟩:=st;exact⟨o,e,fun v z=>by rw [d]at z;cases z⟩
 keep:=fun i h h' st k=>st.at fun o e=>k it (by simp) o e
 item:=by
  intro X hP hw hK hc i pins s σ H E I hf st hg;subst hP hw hK;obtain⟨xs,x,hq,hx⟩:=hg;obtain⟨its,rv,p,hz⟩:=I.list hq;obtain⟨u,hu,ru⟩:=rv.get hx;obtain⟨f0,f1,f2,f3,f4,f5⟩:=hf it (by simp)
  refine wpAny_pyNext_list_item st p.isList (x:=u) (by simpa using hu) fun h' jF sb=>?_
  have I1:Inv X pins σ H { s with heap:=h' }:=I.turned (t':=s.toks) (fun b o hb e=>(sb.2 b hb).trans e) f0 f1 f3 f4 f5
  obtain⟨o,e,c,d⟩:=id jF;exact⟨u,rfl,kM (s:={ s with heap:=h' }) e c d (by decide) ⟨x,H,I1,ru,⟨rfl,fun ys hy=>by rw [I.list_inj hy hq];exact hx⟩,jF,fun b hb=>(hf b hb).1⟩⟩
 done:=by
  intro X hP hw hK hc i pins s σ H E I hf st hg;subst hP hw hK;obtain⟨xs,hq,hx⟩:=hg;obtain⟨its,rv,p,hz⟩:=I.list hq;obtain⟨f0,f1,f2,f3,f4,f5⟩:=hf it (by simp)
  have hl:=rv.length;exact wpAny_pyNext_list_end (I.ok.hd hc) st p.isList (by simp;omega) fun h' eb=>⟨rfl,I.turned (t':=s.toks) (fun b o hb e=>eb b o hb e) f0 f1 f3 f4 f5⟩
 self:=fun _ _ _ _ _ st h=>wpAny_pyIter_listiter st h
theorem ZaL{P:Program}{w:World}{K:aq}{tg:Expr}(a it:Addr):iY P w K tg (As K a) [it] it (fun i h=>h.IsTupleIter it a i) where
 mem:=by simp
 obj:=fun i h st b hb=>by
  have e:b=it:=by simpa using hb
  subst e;obtain⟨o,e,c,d⟩:=st;exact⟨o,e,fun v z=>by rw [d]at z;cases z⟩
 keep:=fun i h h' st k=>st.at fun o e=>k it (by simp) o e
 item:=by
  intro X hP hw hK hc i pins s σ H E I hf st hg;subst hP hw hK;obtain⟨xs,x,hq,hx⟩:=hg;obtain⟨its,rv,p,hz⟩:=I.tuple hq;obtain⟨u,hu,ru⟩:=rv.get hx;obtain⟨f0,f1,f2,f3,f4,f5⟩:=hf it (by simp)
  refine wpAny_pyNext_tuple_item st (show s.heap.IsTuple a its.toArray from p) (x:=u) (by simpa using hu) fun h' jF sb=>?_
  have I1:Inv X pins σ H { s with heap:=h' }:=I.turned (t':=s.toks) (fun b o hb e=>(sb.2 b hb).trans e) f0 f1 f3 f4 f5
  obtain⟨o,e,c,d⟩:=id jF;exact⟨u,rfl,kM (s:={ s with heap:=h' }) e c d (by decide) ⟨x,H,I1,ru,⟨rfl,fun ys hy=>by rw [I.tuple_inj hy hq];exact hx⟩,jF,fun b hb=>(hf b hb).1⟩⟩
 done:=by
  intro X hP hw hK hc i pins s σ H E I hf st hg;subst hP hw hK;obtain⟨xs,hq,hx⟩:=hg;obtain⟨its,rv,p,hz⟩:=I.tuple hq;obtain⟨f0,f1,f2,f3,f4,f5⟩:=hf it (by simp)
  have hl:=rv.length;exact wpAny_pyNext_tuple_end (I.ok.hd hc) st (show s.heap.IsTuple a its.toArray from p) (by simp;omega) fun h' eb=>⟨rfl,I.turned (t':=s.toks) (fun b o hb e=>eb b o hb e) f0 f1 f3 f4 f5⟩
 self:=fun _ _ _ _ _ st h=>wpAny_pyIter_tupleiter st h
theorem Zbd{P:Program}{w:World}{K:aq}{tg:Expr}(it:Addr)(lo:Int)(n:Nat):iY P w K tg (qQ lo n) [it] it (fun i h=>IsRangeIter h it (lo+(i:Nat)*1) ((n:Int)-(i:Nat)) 1) where
 mem:=by simp
 obj:=fun i h st b hb=>by
  have e:b=it:=by simpa using hb
  subst e;exact⟨_,st,fun v z=>by
   have z':Data.fields _=Data.cell v:=z;cases z'⟩
 keep:=fun i h h' st k=>k it (by simp) _ st
 item:=by
  intro X hP hw hK hc i pins s σ H E I hf st hg;subst hP hw hK;obtain⟨f0,f1,f2,f3,f4,f5⟩:=hf it (by simp)
  have W:=Walks.range (prog:=X.prog) (w:=X.w) (I.ok.hd hc) it lo 1 n;refine W.item i s _ _ hg st fun v h' tk hv jF kk=>?_;obtain⟨t,rfl⟩:=hv;have I1:Inv X pins σ H { s with heap:=h',toks:=tk }:=I.turned (fun b o hb e=>kk b o (by simpa using hb) e) f0 f1 f3 f4 f5
  refine⟨_,rfl,kM (s:={ s with heap:=h',toks:=tk }) (n:="range_iterator") jF rfl rfl (by decide) ⟨.int (lo+i),H,I1,⟨t,?_⟩,⟨rfl,rfl⟩,jF,fun b hb=>(hf b hb).1⟩⟩
  rw [Int.mul_one]
 done:=by
  intro X hP hw hK hc i pins s σ H E I hf st hg;subst hP hw hK;obtain⟨f0,f1,f2,f3,f4,f5⟩:=hf it (by simp)
  exact wpAny_pyNext_range_end (I.ok.hd hc) st (by have:n<=i:=hg;omega) fun h' eb=>⟨rfl,I.turned (t':=s.toks) (fun b o hb e=>eb b o hb e) f0 f1 f3 f4 f5⟩
 self:=fun _ _ _ _ _ st h=>wpAny_pyIter_rangeiter st h
end L2
namespace L2
open PySem PySem.Spec PyProof.Rows
section
variable{X:Cx}{tg:Expr}
def vd(K:aq)(tl:TE):TI:=fun σ H R=>tl σ H fun x H1=>∃ a,x=.ref a/\(∃ xs,SqL K H1 a xs)/\R (uz K a) H1
def Lb(K:aq)(tl:TE):TI:=fun σ H R=>tl σ H fun x H1=>∃ a,x=.ref a/\(∃ xs,SqT K H1 a xs)/\R (As K a) H1
theorem qx{l:Expr}{tl:TE}(hl:PE X l tl):PI X tg l (vd X.K tl):=by
 intro pins s σ H R I h;refine aP (hl pins s σ H _ I h) fun v s1 ⟨x,H1,I1,r1,q1⟩=>?_;obtain⟨a,e,⟨xs,hq⟩,q⟩:=q1;subst e;cases r1;obtain⟨its,rv,p,hz⟩:=I1.list hq;refine wpAny_pyIter_list p.isList ?_;refine⟨s1.heap.objs.size,[s1.heap.objs.size],_,_,H1,rfl,I1.kept (t':=s1.toks) fun b o e=>dD _ e,Zbs a _,⟨_,fi _ rfl,rfl,rfl⟩,fun b hb=>?_,q⟩;have e:b=s1.heap.objs.size:=by simpa using hb
 subst e;exact I1.fpOk (bK _) (I1.hok.fresh (bK _))
theorem pr{l:Expr}{tl:TE}(hl:PE X l tl):PI X tg l (Lb X.K tl):=by
 intro pins s σ H R I h;refine aP (hl pins s σ H _ I h) fun v s1 ⟨x,H1,I1,r1,q1⟩=>?_;obtain⟨a,e,⟨xs,hq⟩,q⟩:=q1;subst e;cases r1;obtain⟨its,rv,p,hz⟩:=I1.tuple hq;refine wpAny_pyIter_tuple (show s1.heap.IsTuple a its.toArray from p) ?_;refine⟨s1.heap.objs.size,[s1.heap.objs.size],_,_,H1,rfl,I1.kept (t':=s1.toks) fun b o e=>dD _ e,ZaL a _,⟨_,fi _ rfl,rfl,rfl⟩,fun b hb=>?_,q⟩;have e:b=s1.heap.objs.size:=by simpa using hb
 subst e;exact I1.fpOk (bK _) (I1.hok.fresh (bK _))
theorem pB{pins:List (Addr×Obj)}{σ:St}{H:Hp}{s:Shared}{R:It->Hp->Prop}{E:Value->Shared->Prop}{lo hi:Int}{t u v:Tok}{tk:Nat}(I:Inv X pins σ H s)(h1:-(2 ^ 62)<=lo)(h2:lo<2 ^ 62)(h3:-(2 ^ 62)<=hi)(h4:hi<2 ^ 62)
  (q:R (qQ lo (hi-lo).toNat) H):wpAny (model X.prog X.w) X.A (pyIter (.ref s.heap.objs.size)) (ES X pins σ tg R) E { s with heap:=s.heap.push { cls:=.type "range",data:=.fields #[.int lo t,.int hi u,.int 1 v] },toks:=tk }:=by
 refine wpAny_pyIter_range (IsRange.new ..) (small_one h1 h2 h3 h4) ?_;have I1:Inv X pins σ H { s with heap:=s.heap.push { cls:=.type "range",data:=.fields #[.int lo t,.int hi u,.int 1 v] },toks:=tk }:=I.kept fun b o e=>dD _ e
 refine⟨(s.heap.push { cls:=.type "range",data:=.fields #[.int lo t,.int hi u,.int 1 v] }).objs.size,[(s.heap.push { cls:=.type "range",data:=.fields #[.int lo t,.int hi u,.int 1 v] }).objs.size],_,_,H,rfl,
  I1.kept (t':=tk) fun b o e=>dD _ e,Zbd _ lo (hi-lo).toNat,?_,fun b hb=>?_,q⟩
 ·have e1:lo+((0:Nat):Int)*1=lo:=by simp
  have e2:(((hi-lo).toNat:Nat):Int)-((0:Nat):Int)=Builtin.Range.rangeSize lo hi 1:=by rw [rangeSize_one];split<;>omega
  show IsRangeIter _ _ (lo+((0:Nat):Int)*1) ((((hi-lo).toNat:Nat):Int)-((0:Nat):Int)) 1;rw [e1,e2];exact fi _ rfl
 ·have e:b=(s.heap.push { cls:=.type "range",data:=.fields #[.int lo t,.int hi u,.int 1 v] }).objs.size:=by simpa using hb
  subst e;exact I1.fpOk (bK _) (I1.hok.fresh (bK _))
def CO(ta:TA):TI:=fun σ H R=>ta σ H fun vs H1=>∃ j:Int,vs=[.int j]/\-(2 ^ 62)<=j/\j<2 ^ 62/\R (qQ 0 j.toNat) H1
theorem AY{a:Expr}{ta:TA}{p pos:Pos}(hg:Gl X "range")(hm:X.mg "range" = none)(ha:PA X [a] ta)(hs:autoParam (starEach [a] X.env=[(false,eval a X.env)]) aR._auto_1):PI X tg (.Call (.Name "range" p) [a] [] pos) (CO ta):=by
 intro pins s σ H R I h;refine Call_ (Bj I hg hm boot_range (PyProof.Rows.callWith_type1 (aP (ha pos pins s σ H _ I h) fun us s1 ⟨vs,H1,I1,r1,q1⟩=>?_) hs rfl));obtain⟨j,e,q1,q2,q⟩:=q1;subst e;cases r1 with
 |cons r rr =>
  cases rr;obtain⟨t,rfl⟩:=r;exact call_range_1 (pB I1 (by omega) (by omega) q1 q2 (by simpa using q))
def Mm(wi:TI)(g:TG)(tb:TS):TS:=fun D σ H=>wi σ H fun J H1=>∃ W:Nat->Nat->St->Hp->Prop,(∃ m,W 0 m σ H1)/\∀ i m σ H,W i m σ H ->
 (J.stop i H/\D.nx σ H)\/(J.go i H/\∃ N:St->Hp->Prop,(∀ σ' H',N σ' H'->∃ m',m' < m/\W (i+1) m' σ' H')/\∀ x H',J.yld i H x H'->g x σ H' fun σ2 H2=>tb { D with nx:=N,ct:=N,bk:=D.nx } σ2 H2)
def zx(fp:List Addr)(h:Heap):List (Addr×Obj):=fp.filterMap fun b=>(h.get? b).map fun o=>(b,o)
theorem Ff{fp:List Addr}{h:Heap}{b:Addr}{o:Obj}(hb:b∈fp)(e:h.get? b=some o):(b,o)∈zx fp h:=List.mem_filterMap.mpr ⟨b,hb,by rw [e];rfl⟩
theorem Zbi{fp:List Addr}{h:Heap}{p:Addr×Obj}(hp:p∈zx fp h):p.1∈fp/\h.get? p.1=some p.2:=by
 obtain⟨b,hb,e⟩:=List.mem_filterMap.mp hp;cases q:h.get? b with
 |none=>rw [q]at e;cases e
 |some o =>
  rw [q]at e;have e':(b,o)=p:=Option.some.inj e;subst e';exact⟨hb,q⟩
theorem Inv.pinned{pins:List (Addr×Obj)}{σ:St}{H:Hp}{s:Shared}{fp:List Addr}(I:Inv X pins σ H s)(hf:∀ b∈fp,eJ X pins H b)(ho:∀ b∈fp,∃ o,s.heap.get? b=some o/\∀ v,o.data≠.cell v):Inv X (pins++zx fp s.heap) σ H s :=
 I.pins_of fun p hp=>(dy.mp hp).elim (fun z=>I.pin p (ko _ z)) fun z=>by
  obtain⟨hb,e⟩:=Zbi z;obtain⟨f0,f1,f2,_⟩:=hf p.1 hb;obtain⟨o,e',d⟩:=ho p.1 hb;rw [e]at e';cases e';exact⟨e,f0,f1,f2,d⟩
theorem Inv.unpinned{pins pl:List (Addr×Obj)}{σ:St}{H:Hp}{s:Shared}(I:Inv X (pins++pl) σ H s):Inv X pins σ H s:=I.pins_of fun p hp=>I.pin p (ko _ (jX _ hp))
theorem lH{iter:Expr}{body:List Stmt}{wi:TI}{g:TG}{tb:TS}{pos:Pos}(hp:PassesOwn (model X.prog X.w) X.A X.env X.xe)(hc:X.calm=true)(hi:PI X tg iter wi)(hg:PG X tg g)(hb:PSs X body tb)
  (hs:autoParam (∀ x,foldedSetIterable iter X.env x=pure x) aI._auto_1):PS X (.For tg iter body [] pos) (Mm wi g tb):=by
 intro pins s σ H D I h;refine wpAny_For (aP (hi pins s σ H _ I h) fun v s1 h1=>aP h1 fun F1 s2 h2=>?_) hs;obtain⟨it,fp,tn,J,H2,e,I2,T,ub,f2,W,⟨m0,w0⟩,turn⟩:=h2;subst e;have ic:∀ {H':Hp},(∀ b∈fp,H' b=none)->∀ b∈fp,eJ X pins H' b:=fun hn b hb=>⟨hn b hb,(f2 b hb).2⟩;refine codeAny_forLoop_any (fun n s'=>∃ i σ' H',Inv X pins σ' H' s'/\tn i s'.heap/\(∀ b∈fp,H' b=none)/\W i n σ' H') ?_ m0 ⟨0,σ,H2,I2,ub,fun b hb=>(f2 b hb).1,w0⟩;rintro n s3 ⟨i,σ3,H3,I3,Ai,BJ,w3⟩;rcases turn i n σ3 H3 w3 with⟨stop,qn⟩ |⟨go,N,hN,step⟩
 ·refine cR hp (aP (T.done X rfl rfl rfl hc i pins s3 σ3 H3 X.xe I3 (ic BJ) Ai stop) fun r s4 ⟨hr,I4⟩=>?_);subst hr;exact dU ⟨σ3,H3,I4,qn⟩
 ·refine cR hp (aP (T.item X rfl rfl rfl hc i pins s3 σ3 H3 X.xe I3 (ic BJ) Ai go) fun r s4 ⟨u,hr,h4⟩=>?_);subst hr;refine cR hp (aP h4 fun _ s5 zz=>?_);obtain⟨x,H5,I5,r5,y5,uc,fr5⟩:=zz;have I5':=I5.pinned (ic fr5) (T.obj _ _ uc);refine cR hp (aP (hg _ s5 σ3 H5 x u _ I5' r5 (step x H5 y5)) fun _ s6 ⟨σ6,H6,I6,q6⟩=>?_);refine cR hp (aP (hb _ s6 σ6 H6 _ I6 q6) fun f s7 q7=>?_);have again:∀ {σ7:St}{H7:Hp},Inv X (pins++zx fp s5.heap) σ7 H7 s7->N σ7 H7->∃ m,m<n/\∃ i σ' H',Inv X pins σ' H' s7/\tn i s7.heap/\(∀ b∈fp,H' b=none)/\W i m σ' H':=fun{σ7 H7} I7 n7=>by
   obtain⟨m',hm,w7⟩:=hN σ7 H7 n7;refine⟨m',hm,i+1,σ7,H7,I7.unpinned,T.keep _ _ _ uc fun b hb o e=>(I7.pin (b,o) (ko _ (ko _ (Ff hb e)))).1,fun b hb=>?_,w7⟩;obtain⟨o,e,d⟩:=T.obj _ _ uc b hb;exact(I7.pin (b,o) (ko _ (ko _ (Ff hb e)))).2.1
  cases f with
  |next=>obtain⟨σ7,H7,I7,n7⟩:=q7;exact again I7 n7
  |cont=>obtain⟨σ7,H7,I7,n7⟩:=q7;exact again I7 n7
  |brk=>obtain⟨σ7,H7,I7,q7⟩:=q7;exact⟨σ7,H7,I7.unpinned,q7⟩
  |ret v=>obtain⟨x7,σ7,H7,I7,r7,q7⟩:=q7;exact⟨x7,σ7,H7,I7.unpinned,r7,q7⟩
end
theorem FB{K:aq}{a:Addr}{xs:List V}{g:TG}{tb:TS}{D:dH}{σ:St}{H:Hp}(Pv:Nat->St->Hp->Prop)(h0:Pv 0 σ H)(hl:∀ i σ H,i<=xs.length->Pv i σ H->SqL K H a xs)
  (hs:∀ i x σ H,xs[i]?=some x->Pv i σ H->g x σ H fun σ2 H2=>tb { D with nx:=Pv (i+1),ct:=Pv (i+1),bk:=D.nx } σ2 H2)(hd:∀ σ H,Pv xs.length σ H->D.nx σ H) :
  ∃ W:Nat->Nat->St->Hp->Prop,(∃ m,W 0 m σ H)/\∀ i m σ H,W i m σ H ->
   ((uz K a).stop i H/\D.nx σ H)\/((uz K a).go i H/\∃ N:St->Hp->Prop,(∀ σ' H',N σ' H'->∃ m',m' < m/\W (i+1) m' σ' H')/\∀ x H',(uz K a).yld i H x H'->g x σ H' fun σ2 H2=>tb { D with nx:=N,ct:=N,bk:=D.nx } σ2 H2):=by
 refine⟨fun i m σ H=>m=xs.length-i/\i<=xs.length/\Pv i σ H,⟨xs.length,by simp,fj _,h0⟩,?_⟩
 rintro i m σ H ⟨rfl,hi,p⟩;have q:=hl i σ H hi p;by_cases cc:i<xs.length
 ·refine .inr ⟨⟨xs,xs[i],q,by simp [cc]⟩,Pv (i+1),fun σ' H' p'=>⟨xs.length-(i+1),by omega,rfl,cc,p'⟩,fun x H' y=>?_⟩
  obtain⟨e,y⟩:=y;subst e;exact hs i x σ _ (y xs q) p
 ·have e:i=xs.length:=by omega
  subst e;exact .inl ⟨⟨xs,q,bK _⟩,hd σ H p⟩
theorem PL{K:aq}{a:Addr}{xs:List V}{g:TG}{tb:TS}{D:dH}{σ:St}{H:Hp}(Pv:Nat->St->Hp->Prop)(h0:Pv 0 σ H)(hl:∀ i σ H,i<=xs.length->Pv i σ H->SqT K H a xs)
  (hs:∀ i x σ H,xs[i]?=some x->Pv i σ H->g x σ H fun σ2 H2=>tb { D with nx:=Pv (i+1),ct:=Pv (i+1),bk:=D.nx } σ2 H2)(hd:∀ σ H,Pv xs.length σ H->D.nx σ H) :
  ∃ W:Nat->Nat->St->Hp->Prop,(∃ m,W 0 m σ H)/\∀ i m σ H,W i m σ H ->
   ((As K a).stop i H/\D.nx σ H)\/((As K a).go i H/\∃ N:St->Hp->Prop,(∀ σ' H',N σ' H'->∃ m',m' < m/\W (i+1) m' σ' H')/\∀ x H',(As K a).yld i H x H'->g x σ H' fun σ2 H2=>tb { D with nx:=N,ct:=N,bk:=D.nx } σ2 H2):=by
 refine⟨fun i m σ H=>m=xs.length-i/\i<=xs.length/\Pv i σ H,⟨xs.length,by simp,fj _,h0⟩,?_⟩
 rintro i m σ H ⟨rfl,hi,p⟩;have q:=hl i σ H hi p;by_cases cc:i<xs.length
 ·refine .inr ⟨⟨xs,xs[i],q,by simp [cc]⟩,Pv (i+1),fun σ' H' p'=>⟨xs.length-(i+1),by omega,rfl,cc,p'⟩,fun x H' y=>?_⟩
  obtain⟨e,y⟩:=y;subst e;exact hs i x σ _ (y xs q) p
 ·have e:i=xs.length:=by omega
  subst e;exact .inl ⟨⟨xs,q,bK _⟩,hd σ H p⟩
theorem Zbp{lo:Int}{n:Nat}{g:TG}{tb:TS}{D:dH}{σ:St}{H:Hp}(Pv:Nat->St->Hp->Prop)(h0:Pv 0 σ H)
  (hs:∀ i σ H,i<n->Pv i σ H->g (.int (lo+i)) σ H fun σ2 H2=>tb { D with nx:=Pv (i+1),ct:=Pv (i+1),bk:=D.nx } σ2 H2)(hd:∀ σ H,Pv n σ H->D.nx σ H) :
  ∃ W:Nat->Nat->St->Hp->Prop,(∃ m,W 0 m σ H)/\∀ i m σ H,W i m σ H ->
   ((qQ lo n).stop i H/\D.nx σ H)\/((qQ lo n).go i H/\∃ N:St->Hp->Prop,(∀ σ' H',N σ' H'->∃ m',m' < m/\W (i+1) m' σ' H')/\∀ x H',(qQ lo n).yld i H x H'->g x σ H' fun σ2 H2=>tb { D with nx:=N,ct:=N,bk:=D.nx } σ2 H2):=by
 refine⟨fun i m σ H=>m=n-i/\i<=n/\Pv i σ H,⟨n,by simp,fj _,h0⟩,?_⟩
 rintro i m σ H ⟨rfl,hi,p⟩;by_cases cc:i<n
 ·refine .inr ⟨cc,Pv (i+1),fun σ' H' p'=>⟨n-(i+1),by omega,rfl,cc,p'⟩,fun x H' y=>?_⟩
  obtain⟨e,y⟩:=y;subst e y;exact hs i σ _ cc p
 ·have e:i=n:=by omega
  subst e;exact .inl ⟨bK _,hd σ H p⟩
theorem Jd{c:TT}{tb:TS}{D:dH}{σ:St}{H:Hp}(Pv:St->Hp->Prop)(μ:St->Hp->Nat)(h0:Pv σ H)
  (hs:∀ σ H,Pv σ H->c σ H fun b H1=>if b=true then tb { D with nx:=fun σ' H'=>Pv σ' H'/\μ σ' H' < μ σ H,ct:=fun σ' H'=>Pv σ' H'/\μ σ' H' < μ σ H,bk:=D.nx } σ H1 else D.nx σ H1)
  (mono:∀ σ H Q Q',(∀ b H1,Q b H1->Q' b H1)->c σ H Q->c σ H Q'):Jq c tb D σ H:=by
 refine⟨fun m σ H=>m=μ σ H/\Pv σ H,⟨_,rfl,h0⟩,?_⟩;rintro m σ H ⟨rfl,p⟩;refine mono σ H _ _ (fun b H1 q=>?_) (hs σ H p);cases b with
 |true=>exact⟨_,fun σ' H' ⟨p',l⟩=>⟨_,l,rfl,p'⟩,q⟩
 |false=>exact q
end L2
namespace L2
open PySem PySem.Spec PyProof.Rows
abbrev R2:=V->V->Hp->VK->Prop
def iB(X:Cx)(f:Value->Value->Sem Value)(r:R2):Prop :=
 ∀ (pins:List (Addr×Obj))(s:Shared)(σ:St)(H:Hp)(x y:V)(v u:Value)(Q:VK),Inv X pins σ H s->RelV x v->RelV y u->r x y H Q ->
  wpAny (model X.prog X.w) X.A (f v u) (EP X pins σ Q) X.xe s
def GX(X:Cx)(f:Value->Sem Value)(r:V->Hp->VK->Prop):Prop :=
 ∀ (pins:List (Addr×Obj))(s:Shared)(σ:St)(H:Hp)(x:V)(v:Value)(Q:VK),Inv X pins σ H s->RelV x v->r x H Q ->
  wpAny (model X.prog X.w) X.A (f v) (EP X pins σ Q) X.xe s
def jk(X:Cx)(f:Value)(r:List V->Hp->VK->Prop):Prop :=
 ∀ (pins:List (Addr×Obj))(s:Shared)(σ:St)(H:Hp)(xs:List V)(us:List Value)(Q:VK),Inv X pins σ H s->Vals xs us->r xs H Q ->
  wpAny (model X.prog X.w) X.A (call f us) (EP X pins σ Q) X.xe s
def GV(X:Cx)(r:V->Hp->(Bool->Hp->Prop)->Prop):Prop :=
 ∀ (pins:List (Addr×Obj))(s:Shared)(σ:St)(H:Hp)(x:V)(v:Value)(Q:Bool->Hp->Prop),Inv X pins σ H s->RelV x v->r x H Q ->
  wpAny (model X.prog X.w) X.A (truthy v) (TP X pins σ Q) X.xe s
def Gh(r:R2)(ta tb:TE):TE:=fun σ H Q=>ta σ H fun x H1=>tb σ H1 fun y H2=>r x y H2 Q
def tUn(r:V->Hp->VK->Prop)(ta:TE):TE:=fun σ H Q=>ta σ H fun x H1=>r x H1 Q
def rI(C:Int->Int->Prop)(g:Int->Int->V):R2:=fun x y H Q=>∃ i j,x=.int i/\y=.int j/\C i j/\Q (g i j) H
def vq(g:Int->Int->V):R2:=fun x y H Q=>∃ i j,x=.int i/\y=.int j/\Q (g i j) H
def rU(g:Int->V):V->Hp->VK->Prop:=fun x H Q=>∃ i,x=.int i/\Q (g i) H
section
variable{X:Cx}{a b c:Expr}{ta tb tc:TE}{pos:Pos}
theorem wp(ha:PE X a ta)(hb:PE X b tb){pins:List (Addr×Obj)}{s:Shared}{σ:St}{H:Hp}{R:V->V->Hp->Prop}(I:Inv X pins σ H s)
  (h:ta σ H fun x H1=>tb σ H1 fun y H2=>R x y H2){Q:Value->Shared->Prop}{f:Value->Value->Sem Value}
  (hf:∀ v u s2 x y H2,Inv X pins σ H2 s2->RelV x v->RelV y u->R x y H2->wpAny (model X.prog X.w) X.A (f v u) Q X.xe s2) :
  wpAny (model X.prog X.w) X.A (eval a X.env) (fun v s₁=>wpAny (model X.prog X.w) X.A (eval b X.env) (fun u s₂=>wpAny (model X.prog X.w) X.A (f v u) Q X.xe s₂) X.xe s₁) X.xe s:=by
 refine aP (ha pins s σ H _ I h) fun v s1 ⟨x,H1,I1,r1,q1⟩=>?_;refine aP (hb pins s1 σ H1 _ I1 q1) fun u s2 ⟨y,H2,I2,r2,q2⟩=>?_;exact hf v u s2 x y H2 I2 r1 r2 q2
theorem aZ{op:Operator}{r:R2}(ho:iB X (binaryOp op) r)(ha:PE X a ta)(hb:PE X b tb):PE X (.BinOp a op b pos) (Gh r ta tb):=by
 intro pins s σ H Q I h;exact wpAny_BinOp (wp ha hb I h fun v u s2 x y H2 I2 rx ry q=>ho pins s2 σ H2 x y v u Q I2 rx ry q)
theorem lg{op:UnaryOp}{r:V->Hp->VK->Prop}(ho:GX X (unaryOp op) r)(ha:PE X a ta):PE X (.UnaryOp op a pos) (tUn r ta):=by
 intro pins s σ H Q I h;exact UnaryOp_ (aP (ha pins s σ H _ I h) fun v s1 ⟨x,H1,I1,r1,q1⟩=>ho pins s1 σ H1 x v Q I1 r1 q1)
theorem Rm{f:Value->Value->Sem Value}{C:Int->Int->Prop}{g:Int->Int->Int}
  (rule:∀ (i j:Int)(t u:Tok)(s:Shared)(Q:Value->Shared->Prop)(E:Value->Shared->Prop),C i j->Q (.int (g i j) s.toks) { s with toks:=s.toks+1 }->wpAny (model X.prog X.w) X.A (f (.int i t) (.int j u)) Q E s) :
  iB X f (rI C fun i j=>.int (g i j)):=by
 intro pins s σ H x y v u Q I rx ry h;obtain⟨i,j,rfl,rfl,hc,q⟩:=h;obtain⟨t,rfl⟩:=rx;obtain⟨t',rfl⟩:=ry;exact rule i j t t' s _ _ hc ⟨.int (g i j),H,I.tok _,⟨_,rfl⟩,q⟩
theorem Dy{f:Value->Value->Sem Value}{g:Int->Int->Int}
  (rule:∀ (i j:Int)(t u:Tok)(s:Shared)(Q:Value->Shared->Prop)(E:Value->Shared->Prop),Q (.int (g i j) s.toks) { s with toks:=s.toks+1 }->wpAny (model X.prog X.w) X.A (f (.int i t) (.int j u)) Q E s) :
  iB X f (vq fun i j=>.int (g i j)):=by
 intro pins s σ H x y v u Q I rx ry h;obtain⟨i,j,rfl,rfl,q⟩:=h;obtain⟨t,rfl⟩:=rx;obtain⟨t',rfl⟩:=ry;exact rule i j t t' s _ _ ⟨.int (g i j),H,I.tok _,⟨_,rfl⟩,q⟩
theorem tJ{f:Value->Value->Sem Value}{g:Int->Int->Bool}
  (rule:∀ (i j:Int)(t u:Tok)(s:Shared)(Q:Value->Shared->Prop)(E:Value->Shared->Prop),Q (.bool (g i j)) s->wpAny (model X.prog X.w) X.A (f (.int i t) (.int j u)) Q E s) :
  iB X f (vq fun i j=>.bl (g i j)):=by
 intro pins s σ H x y v u Q I rx ry h;obtain⟨i,j,rfl,rfl,q⟩:=h;obtain⟨t,rfl⟩:=rx;obtain⟨t',rfl⟩:=ry;exact rule i j t t' s _ _ ⟨.bl (g i j),H,I,rfl,q⟩
def CMul(i j:Int):Prop:=(-(2 ^ 64)<i/\i<2 ^ 64)\/(-(2 ^ 64)<j/\j<2 ^ 64)
theorem CMul.ok{i j:Int}(h:CMul i j):IntMulOk i j:=by
 rcases h with⟨h1,h2⟩ |⟨h1,h2⟩
 ·exact .of_left (intBits_le_64 h1 h2)
 ·exact .of_right (intBits_le_64 h1 h2)
theorem kI:iB X (binaryOp .Add) (vq fun i j=>.int (i+j)):=Dy fun _ _ _ _ _ _ _ q=>add_int q
theorem uN:iB X (binaryOp .Sub) (vq fun i j=>.int (i-j)):=Dy fun _ _ _ _ _ _ _ q=>sub_int q
theorem zC:iB X (binaryOp .Mult) (rI CMul fun i j=>.int (i*j)):=Rm fun _ _ _ _ _ _ _ hc q=>mul_int q hc.ok
theorem unI{f:Value->Sem Value}{g:Int->Int}
  (rule:∀ (i:Int)(t:Tok)(s:Shared)(Q:Value->Shared->Prop)(E:Value->Shared->Prop),Q (.int (g i) s.toks) { s with toks:=s.toks+1 }->wpAny (model X.prog X.w) X.A (f (.int i t)) Q E s) :
  GX X f (rU fun i=>.int (g i)):=by
 intro pins s σ H x v Q I rx h;obtain⟨i,rfl,q⟩:=h;obtain⟨t,rfl⟩:=rx;exact rule i t s _ _ ⟨.int (g i),H,I.tok _,⟨_,rfl⟩,q⟩
theorem FD:GX X (unaryOp .USub) (rU fun i=>.int (-i)):=unI fun _ _ _ _ _ q=>neg_int q
end
noncomputable def DW:V->V->Bool
 |.non,.non=>true |.non,.int _=>true |.int _,.non=>true |.non,.bl _=>true |.bl _,.non=>true |.non,.str _=>true |.str _,.non=>true
 |.int _,.int _=>true |.bl _,.bl _=>true |.str _,.str _=>true |.byt _,.byt _=>true
 |.int _,.str _=>true |.str _,.int _=>true |.bl _,.str _=>true |.str _,.bl _=>true
 |_,_=>false
def rEq:R2:=fun x y H Q=>DW x y=true/\Q (.bl (decide (x=y))) H
def rNe:R2:=fun x y H Q=>DW x y=true/\Q (.bl (!decide (x=y))) H
theorem PY{i j:Int}:decide (V.int i=V.int j)=(i==j):=by
 rw [EY];simp
theorem nI{i j:Bool}:decide (V.bl i=V.bl j)=(i==j):=by
 rw [EY];simp
theorem P1{i j:Str}:decide (V.str i=V.str j)=(i==j):=by
 rw [EY];simp
theorem PP{i j:Array UInt8}:decide (V.byt i=V.byt j)=(i.toList==j.toList):=by
 rw [EY];cases i;cases j;simp
section
variable{X:Cx}{a b c:Expr}{ta tb tc:TE}{pos:Pos}
theorem eX{pins:List (Addr×Obj)}{σ:St}{H:Hp}{s:Shared}{Q:VK}{k k':Bool}(I:Inv X pins σ H s)(q:Q (.bl k) H)(e:k=k'):EP X pins σ Q (.bool k') s:=by
 subst e;exact⟨.bl k,H,I,rfl,q⟩
theorem iQ:iB X (compareOp .Eq) rEq:=by
 intro pins s σ H x y v u Q I rx ry h;obtain⟨hs,q⟩:=h;cases x with
 |non =>
  cases rx;cases y with
  |non=>cases ry;exact PySem.EqNone.eq_none_none (eX I q (by simp))
  |bl j=>cases ry;exact PySem.EqNone.eq_none_bool (eX I q (by simp))
  |int j=>obtain⟨t',rfl⟩:=ry;exact PySem.EqNone.eq_none_int (eX I q (by simp))
  |str j=>obtain⟨t',rfl⟩:=ry;exact PySem.EqNone.eq_none_str (eX I q (by simp))
  |_=>exact absurd (show false=true from hs) fh
 |bl i =>
  cases rx;cases y with
  |non=>cases ry;exact PySem.EqNone.eq_bool_none (eX I q (by simp))
  |bl j=>cases ry;exact eq_bool (eX I q nI)
  |str j=>obtain⟨t',rfl⟩:=ry;exact PySem.EqMixed.eq_bool_str (eX I q (by simp))
  |_=>exact absurd (show false=true from hs) fh
 |int i =>
  obtain⟨t,rfl⟩:=rx;cases y with
  |non=>cases ry;exact PySem.EqNone.eq_int_none (eX I q (by simp))
  |int j=>obtain⟨t',rfl⟩:=ry;exact eq_int (eX I q PY)
  |str j=>obtain⟨t',rfl⟩:=ry;exact PySem.EqMixed.eq_int_str (eX I q (by simp))
  |_=>exact absurd (show false=true from hs) fh
 |str i =>
  obtain⟨t,rfl⟩:=rx;cases y with
  |non=>cases ry;exact PySem.EqNone.eq_str_none (eX I q (by simp))
  |bl j=>cases ry;exact PySem.EqMixed.eq_str_bool (eX I q (by simp))
  |int j=>obtain⟨t',rfl⟩:=ry;exact PySem.EqMixed.eq_str_int (eX I q (by simp))
  |str j=>obtain⟨t',rfl⟩:=ry;exact eq_str (eX I q P1)
  |_=>exact absurd (show false=true from hs) fh
 |byt i =>
  obtain⟨t,rfl⟩:=rx;cases y with
  |byt j=>obtain⟨t',rfl⟩:=ry;exact PySem.W.eq_bytes (eX I q PP)
  |_=>exact absurd (show false=true from hs) fh
 |_=>cases y<;>exact absurd (show false=true from hs) fh
theorem dZ:iB X (compareOp .NotEq) rNe:=by
 intro pins s σ H x y v u Q I rx ry h;obtain⟨hs,q⟩:=h;cases x with
 |non =>
  cases rx;cases y with
  |non=>cases ry;exact PySem.EqNone.ne_none_none (eX I q (by simp))
  |bl j=>cases ry;exact PySem.EqNone.ne_none_bool (eX I q (by simp))
  |int j=>obtain⟨t',rfl⟩:=ry;exact PySem.EqNone.ne_none_int (eX I q (by simp))
  |str j=>obtain⟨t',rfl⟩:=ry;exact PySem.EqNone.ne_none_str (eX I q (by simp))
  |_=>exact absurd (show false=true from hs) fh
 |bl i =>
  cases rx;cases y with
  |non=>cases ry;exact PySem.EqNone.ne_bool_none (eX I q (by simp))
  |bl j=>cases ry;exact ne_bool (eX I q (au not nI))
  |str j=>obtain⟨t',rfl⟩:=ry;exact PySem.EqMixed.ne_bool_str (eX I q (by simp))
  |_=>exact absurd (show false=true from hs) fh
 |int i =>
  obtain⟨t,rfl⟩:=rx;cases y with
  |non=>cases ry;exact PySem.EqNone.ne_int_none (eX I q (by simp))
  |int j=>obtain⟨t',rfl⟩:=ry;exact ne_int (eX I q (au not PY))
  |str j=>obtain⟨t',rfl⟩:=ry;exact PySem.EqMixed.ne_int_str (eX I q (by simp))
  |_=>exact absurd (show false=true from hs) fh
 |str i =>
  obtain⟨t,rfl⟩:=rx;cases y with
  |non=>cases ry;exact PySem.EqNone.ne_str_none (eX I q (by simp))
  |bl j=>cases ry;exact PySem.EqMixed.ne_str_bool (eX I q (by simp))
  |int j=>obtain⟨t',rfl⟩:=ry;exact PySem.EqMixed.ne_str_int (eX I q (by simp))
  |str j=>obtain⟨t',rfl⟩:=ry;exact ne_str (eX I q (au not P1))
  |_=>exact absurd (show false=true from hs) fh
 |byt i =>
  obtain⟨t,rfl⟩:=rx;cases y with
  |byt j=>obtain⟨t',rfl⟩:=ry;exact PySem.W.ne_bytes (eX I q (au not PP))
  |_=>exact absurd (show false=true from hs) fh
 |_=>cases y<;>exact absurd (show false=true from hs) fh
theorem vo:iB X (compareOp .Lt) (vq fun i j=>.bl (decide (i<j))):=tJ fun _ _ _ _ _ _ _ q=>lt_int q
theorem oU:iB X (compareOp .LtE) (vq fun i j=>.bl (decide (i<=j))):=tJ fun _ _ _ _ _ _ _ q=>le_int q
theorem kZ:iB X (compareOp .Gt) (vq fun i j=>.bl (decide (j<i))):=tJ fun _ _ _ _ _ _ _ q=>gt_int q
theorem vn:iB X (compareOp .GtE) (vq fun i j=>.bl (decide (j<=i))):=tJ fun _ _ _ _ _ _ _ q=>ge_int q
theorem eS(b:Expr){op:CmpOp}(h:op≠.In:=by decide)(h2:op≠.NotIn:=by decide):behindInMarks op b=false:=by
 have e1:(op==CmpOp.In)=false:=by cases op<;>first |rfl |exact absurd rfl h
 have e2:(op==CmpOp.NotIn)=false:=by cases op<;>first |rfl |exact absurd rfl h2
 cases b<;>simp [behindInMarks,e1,e2]
theorem wa{op:CmpOp}{r:R2}(ho:iB X (compareOp op) r)(ha:PE X a ta)(hb:PE X b tb)(hm:behindInMarks op b=false):PE X (.Compare a [op] [b] pos) (Gh r ta tb):=by
 intro pins s σ H Q I h;exact wpAny_Compare1 (wp ha hb I h fun v u s2 x y H2 I2 rx ry q=>ho pins s2 σ H2 x y v u Q I2 rx ry q) hm
def Ey(t:TE):TT:=fun σ H Q=>t σ H fun x H'=>∃ k,x=.bl k/\Q k H'
theorem gq{op:CmpOp}{r:R2}(ho:iB X (compareOp op) r)(ha:PE X a ta)(hb:PE X b tb)(hm:behindInMarks op b=false):PT X (.Compare a [op] [b] pos) (Ey (Gh r ta tb)):=by
 intro pins s σ H Q I h;refine wpAny_isTrue_Compare1 (aP (ha pins s σ H _ I h) fun v s1 ⟨x,H1,I1,r1,q1⟩=>aP (hb pins s1 σ H1 _ I1 q1) fun u s2 ⟨y,H2,I2,r2,q2⟩ =>
  aP (ho pins s2 σ H2 x y v u _ I2 r1 r2 q2) fun c s3 ⟨z,H3,I3,r3,k,e,q3⟩=>?_) hm
 subst e;cases r3;exact df ⟨H3,I3,q3⟩
def Az(K:aq)(x:V)(H:Hp)(k:Bool):Prop :=
 match x with
 |.non=>k=false
 |.bl b=>k=b
 |.int i=>k=(i != 0)
 |.str y=>y.length<=sizeLine/\k=((y.length:Int) != 0)
 |.byt y=>y.size<=sizeLine/\k=((y.size:Int) != 0)
 |.ref p=>(∃ xs,SqL K H p xs/\k = !xs.isEmpty)\/(∃ xs,SqT K H p xs/\k = !xs.isEmpty)\/∃ ah,H p=some (.dK ah)/\k = !ah.isEmpty
 |_=>False
theorem ZaN{κ:Type}{ah:List (κ×V)}{vs:List (κ×Value)}(r:KV ah vs):(!vs.isEmpty) = !ah.isEmpty:=by
 cases r<;>rfl
theorem NV{xs:List V}{its:List Value}(r:Vals xs its):(!its.toArray.isEmpty) = !xs.isEmpty:=by
 cases r<;>simp
theorem zy:(sizeLine:Nat)<2 ^ 63:=by rw [ak];decide
theorem yR:GV X (fun x H Q=>∃ k,Az X.K x H k/\Q k H):=by
 intro pins s σ H x v Q I rx h;obtain⟨k,e,q⟩:=h;have hl:=zy;have hs:sizeLine=16777216:=ak;cases x with
 |non =>
  cases rx;have e':k=false:=e;subst e';exact truthy_none ⟨H,I,q⟩
 |bl b =>
  cases rx;have e':k=b:=e;subst e';exact df ⟨H,I,q⟩
 |int i =>
  obtain⟨t,rfl⟩:=rx;have e':k=(i != 0):=e;subst e';exact PySem.P.truthy_int ⟨H,I,q⟩
 |str y =>
  obtain⟨t,rfl⟩:=rx;obtain⟨hy,e'⟩:y.length<=sizeLine/\k=((y.length:Int) != 0):=e;subst e';exact PySem.P.truthy_str (by omega) ⟨H,I.tok _,q⟩
 |byt y =>
  obtain⟨t,rfl⟩:=rx;obtain⟨hy,e'⟩:y.size<=sizeLine/\k=((y.size:Int) != 0):=e;subst e';exact PySem.W.truthy_bytes (by omega) ⟨H,I.tok _,q⟩
 |ref p =>
  cases rx;have e':(∃ xs,SqL X.K H p xs/\k = !xs.isEmpty)\/(∃ xs,SqT X.K H p xs/\k = !xs.isEmpty)\/∃ ah,H p=some (.dK ah)/\k = !ah.isEmpty:=e;rcases e' with⟨xs,hx,e'⟩ |⟨xs,hx,e'⟩ |⟨ah,hx,e'⟩
  ·subst e';obtain⟨its,r,pl,hz⟩:=I.list hx;have bO:=r.length;exact wpAny_truthy_list pl.isList (by simp only [fY];omega) ⟨H,I.tok _,by rw [NV r];exact q⟩
  ·subst e';obtain⟨its,r,pl,hz⟩:=I.tuple hx;have bO:=r.length;exact truthy_tuple pl (by simp only [fY];omega) ⟨H,I.tok _,by rw [NV r];exact q⟩
  ·subst e';obtain⟨hz,hS,vs,r,m⟩:ah.length<=sizeLine/\(p==sysModules)=false/\∃ vs,KV ah vs/\s.heap.DictOf (gS X.prog X.w) p vs:=I.hok p _ hx;have bO:ah.length=vs.length:=Paired.length r;exact wpAny_truthy_dict hS m (by omega) ⟨H,I.tok _,by rw [ZaN r];exact q⟩
 |_=>exact(show False from e).elim
theorem pz(ha:PE X a ta)(he:∀ ig,isTrue a X.env ig=(do let v <-ig;standAt a.pos;holding [v] (truthy v))) :
  PT X a (fun σ H Q=>ta σ H fun x H'=>∃ k,Az X.K x H' k/\Q k H'):=by
 intro pins s σ H Q I h;exact isTrue_plain (aP (ha pins s σ H _ I h) fun v s1 ⟨x,H1,I1,r1,q1⟩=>yR pins s1 σ H1 x v Q I1 r1 q1) (he _)
theorem EF{x:V}{us:List Value}(r:Vals [x] us):∃ u,us=[u]/\RelV x u:=by
 cases r with
 |cons r1 r2=>cases r2;exact⟨_,rfl,r1⟩
end
end L2
namespace L2
open PySem PySem.Spec PyProof.Rows
structure ObjM(h:Heap)(x dx C:Addr)(mA:Str->Option Value):Prop where
 obj:h.get? x=some (PySem.W.instObj C dx)
 ns:h.Ns1 dx mA
 ne:dx≠x
theorem OV{h:Heap}{dx:Addr}{mA:Str->Option Value}(n:h.Ns1 dx mA):∃ od,h.get? dx=some od/\∀ name,PySem.W.lookIn name od=some (mA name):=by
 obtain⟨o,es,ep,ho,hd,hk,_,hm⟩:=n;refine⟨o,ho,fun name=>?_⟩;have e:=hm name;unfold nsFind findBy at e;rw [<-Array.find?_toList]at e;unfold PySem.W.lookIn;rw [hd];dsimp only;split
 ·rename_i y q;rw [q]at e;exact au some e
 ·rename_i q;rw [q]at e;have a:es.toList.any (·.refKey)=false:=by
   rw [List.any_eq_false];intro y hy;obtain⟨z,t,Kt⟩:=hk y (Array.mem_toList_iff.mp hy);simp [DictEntry.refKey,Kt]
  have a':¬ es.toList.any (·.refKey)=true:=by rw [a];exact fh
  rw [ac a'];exact au some e
theorem ObjM.look{h:Heap}{x dx C:Addr}{mA:Str->Option Value}(I:ObjM h x dx C mA):∃ od,PySem.W.InstAt h x (PySem.W.instObj C dx) C (some od)/\∀ name,PySem.W.lookIn name od=some (mA name) :=
 let ⟨od,ho,hl⟩:=OV I.ns
 ⟨od,⟨I.obj,rfl,rfl,ho⟩,hl⟩
section
variable{prog:Program}{w:World}{A:Around}{E:Value->Shared->Prop}{s:Shared}{K:aq}{x dx C f:Addr}{mA:Str->Option Value}{name:Str}{v:Value}
theorem su{JJ:Bool}{Q:Value->Shared->Prop}(X:K.In s.heap)(I:ObjM s.heap x dx C mA)(hg:PySem.W.plainGet K C name=true)(hh:PySem.W.hasDictIn K C=true)
  (ha:PySem.W.findIn K (.ref C) name=some none)(hv:mA name=some v)(hv':PySem.W.handedIn v=true)(h:Q v { s with toks:=s.toks+1 }) :
  wpAny (model prog w) A (getAttr (.ref x) name JJ) Q E s:=by
 obtain⟨od,J,hl⟩:=I.look;exact PySem.W.get_value X J (G0 hg).1 (PySem.W.findObj_own hh ha rfl (by rw [hl,hv])) hv' h
theorem nZ{pl:Sem Bool}{Q:Value×List Value->Shared->Prop}(X:K.In s.heap)(I:ObjM s.heap x dx C mA)(hg:PySem.W.plainGet K C name=true)
  (hf:PySem.W.findIn K (.ref C) name=some (some (.ref f)))(ht:PySem.W.isFn K (.ref f)=true)(hv:mA name=none)(h:Q (.ref f,[.ref x]) s) :
  wpAny (model prog w) A (getMethod (.ref x) name pl) Q E s:=by
 obtain⟨od,J,hl⟩:=I.look;exact PySem.W.method_fn X J (G0 hg).1 (G0 hg).2 hf (aG.mp ht) (by show(PySem.W.lookIn name od).map (·.isSome)=some false;rw [hl,hv];rfl) h
theorem tW{ns:List Str}{Q:Unit->Shared->Prop}(X:K.In s.heap)(I:ObjM s.heap x dx C mA)
  (hs:PySem.W.findIn K (.ref C) "__setattr__" = some (some (.builtin "object.__setattr__")))(hp:PySem.W.plainOver K C=true)(ht:PySem.W.takerIn K C name=some none)(hh:PySem.W.hasDictIn K C=true)
  (hw:PySem.Within mA ns)(hsz:ns.length<=sizeLine)
  (h:∀ h',ObjM h' x dx C (fun y=>if y=name then some v else mA y)->Heap.SameBut dx s.heap h'->Q () { s with heap:=h',toks:=s.toks+2 }) :
  wpAny (model prog w) A (setAttr (.ref x) name v) Q E s:=by
 obtain⟨od,J,hl⟩:=I.look;refine PySem.W.set_plain X J hs (PySem.W.osa_open (s:={ s with toks:=s.toks+1 }) (r:=none) X J hp ht fun b=>?_)
 obtain⟨cd,hc,wS⟩:=PySem.W.any_some hh;have hx:s.heap.get? x=some ⟨.ref C,some dx,.plain,#[]⟩:=I.obj;refine aa (af (aa (aa (wpAny_loadPart hx (aa (PySem.W.Looks.here (s:={ s with toks:=s.toks+1 }) (PySem.W.looks_clsIn X hc) ?_))))))
 rw [wS];refine af (a:=some dx) (aa (af (aa ?_)));refine wpAny_nsSet1 (s:={ s with toks:=s.toks+1 }) I.ns fun h' QU hs2=>?_
 obtain⟨oD,esD,epD,hoD,hdD,hcD⟩:=QU.count (PySem.Within.cons name v hw);refine aa (wpAny_lookBehind hoD (by rw [hdD];exact pastItsLine_dict (iD hcD (by rw [gB];omega))) ?_)
 exact af (h _ ⟨(hs2.2 _ (Ne.symm I.ne)).trans I.obj,QU,I.ne⟩ hs2)
theorem oF{R:Result->Shared->Prop}{vs:List Value}{kw:List (Str×Value)}(X:K.In s.heap)(hm:PySem.W.makesIn K C=true)
  (hi:PySem.W.findIn K (.ref C) "__init__" = some (some (.ref f)))(hf:PySem.W.typeIn K (.ref f)=some (.type "function"))
  (h:codeAny (model prog w) (A.under (.builtin "type.__call__" ⟨.ref C::vs,kw⟩)) (.call (.ref f) ⟨.ref (s.heap.objs.size+1)::vs,kw⟩) (PySem.W.InitBack (s.heap.objs.size+1) R)
    { s with heap:=(s.heap.push PySem.W.emptyDict).push (PySem.W.instObj C s.heap.objs.size) }) :
  codeAny (model prog w) A (.call (.ref C) ⟨vs,kw⟩) R s:=by
 obtain⟨hh,g,d,t,os⟩:=s;exact PySem.W.make_core (PySem.W.makes_of X hm) (G5 X hi) (fun self=>PySem.W.bind_fn X self hf) (.inl rfl) h
end
noncomputable def dv(f:Str)(v:V):List (Str×V)->List (Str×V)
 |[]=>[(f,v)]
 |(g,x)::r=>if g=f then(g,v)::r else(g,x)::dv f v r
theorem NG(f g:Str)(v:V):∀ fs:List (Str×V),(dv f v fs).lookup g=if g=f then some v else fs.lookup g
 |[]=>by
  show List.lookup g [(f,v)]=_;by_cases h:g=f
  ·have hb:(g==f)=true:=aG.mpr h;simp only [List.lookup,hb,ae h]
  ·have hb:(g==f)=false:=aO.mpr h;simp only [List.lookup,hb,ac h]
 |(k,x)::r=>by
  have ih:=NG f g v r;rw [show dv f v ((k,x)::r)=(if k=f then(k,v)::r else(k,x)::dv f v r)from rfl];by_cases hk:k=f
  ·rw [ae hk];by_cases h:g=k
   ·have hb:(g==k)=true:=aG.mpr h;simp only [List.lookup,hb,ae (h.trans hk)]
   ·have hb:(g==k)=false:=aO.mpr h;simp only [List.lookup,hb,ac (fun e:g=f=>h (e.trans hk.symm))]
  ·rw [ac hk];by_cases h:g=k
   ·have hb:(g==k)=true:=aG.mpr h;simp only [List.lookup,hb,ac (fun e:g=f=>hk (h.symm.trans e))]
   ·have hb:(g==k)=false:=aO.mpr h;simp only [List.lookup,hb];exact ih
theorem IF(f:Str)(v:V):∀ fs:List (Str×V),f∈(dv f v fs).map (·.1)/\∀ g,g∈fs.map (·.1)->g∈(dv f v fs).map (·.1)
 |[]=>⟨by simp [dv],fun g h=>by simp at h⟩
 |(k,x)::r=>by
  obtain⟨i1,i2⟩:=IF f v r;rw [show dv f v ((k,x)::r)=(if k=f then(k,v)::r else(k,x)::dv f v r)from rfl];by_cases hk:k=f
  ·rw [ae hk];subst hk;exact⟨by simp,fun g h=>by simpa using h⟩
  ·rw [ac hk];refine⟨?_,fun g h=>?_⟩
   ·rw [ei];exact dj _ i1
   ·rw [ei]at h ⊢;rcases bv.mp h with e |e
    ·exact bv.mpr (.inl e)
    ·exact dj _ (i2 g e)
theorem NF(f:Str)(v:V):∀ fs:List (Str×V),(dv f v fs).length<=fs.length+1
 |[]=>by simp [dv]
 |(k,x)::r=>by
  have ih:=NF f v r;rw [show dv f v ((k,x)::r)=(if k=f then(k,v)::r else(k,x)::dv f v r)from rfl];by_cases hk:k=f
  ·rw [ae hk,gB,gB];omega
  ·rw [ac hk,gB,gB];omega
theorem RelO.some_of{v:V}{o:Option Value}(r:RelO (some v) o):∃ u,o=some u/\RelV v u:=by
 cases o with
 |none=>exact(show False from r).elim
 |some u=>exact⟨u,rfl,r⟩
theorem RelO.none_of{o:Option Value}(r:RelO none o):o=none:=by
 cases o with
 |none=>rfl
 |some u=>exact(show False from r).elim
theorem ON{v:V}{u:Value}(r:RelV v u):PySem.W.handedIn u=true:=by
 cases v with
 |non=>cases (show u=Value.none from r);rfl
 |bl b=>cases (show u=Value.bool b from r);rfl
 |int i=>obtain⟨t,e⟩:=(show ∃ t,u=Value.int i t from r);cases e;rfl
 |str x=>obtain⟨t,e⟩:=(show ∃ t,u=Value.str x t from r);cases e;rfl
 |byt b=>obtain⟨t,e⟩:=(show ∃ t,u=Value.bytes b t from r);cases e;rfl
 |flt b=>obtain⟨t,e⟩:=(show ∃ t,u=Value.float b t from r);cases e;rfl
 |ref a=>cases (show u=Value.ref a from r);rfl
 |ty n=>cases (show u=Value.type n from r);rfl
section
variable{P:Program}{w:World}{H H':Hp}{h h':Heap}{a C dx:Addr}{fs uZ:List (Str×V)}
theorem IP(hok:HOk P w H h)(e:H a=some (.ins C dx fs)):∃ mA,ObjM h a dx C mA/\(∀ f,RelO (fs.lookup f) (mA f))/\PySem.Within mA (fs.map (·.1))/\fs.length<=1000/\H dx=some (.own a):=by
 obtain⟨d,z,ne,ob,mA,n,r,q⟩:=(show ObjOk P w H h a (.ins C dx fs)from hok a _ e);exact⟨mA,⟨ob,n,ne⟩,r,q,z,d⟩
end
structure Cls(K:aq)(C:Addr):Prop where
 pg:PySem.W.plainGet K C Str.empty=true
 hd:PySem.W.hasDictIn K C=true
 po:PySem.W.plainOver K C=true
 sa:PySem.W.findIn K (.ref C) "__setattr__" = some (some (.builtin "object.__setattr__"))
theorem Cls.get{K:aq}{C:Addr}(c:Cls K C)(f:Str):PySem.W.plainGet K C f=true:=c.pg
def NoAttr(K:aq)(C:Addr)(f:Str):Prop:=PySem.W.findIn K (.ref C) f=some none
theorem NoAttr.taker{K:aq}{C:Addr}{f:Str}(n:NoAttr K C f):PySem.W.takerIn K C f=some none:=by
 unfold PySem.W.takerIn;rw [show PySem.W.findIn K (.ref C) f=some none from n];rfl
structure aQ(K:aq)(C:Addr)(m:Str)(f:Addr):Prop where
 at_:PySem.W.findIn K (.ref C) m=some (some (.ref f))
 fn:PySem.W.isFn K (.ref f)=true
 kp:PySem.W.keepIn K (.ref f)=true
section
variable{X:Cx}{pins:List (Addr×Obj)}{σ:St}{H:Hp}{s:Shared}{a C dx:Addr}{fs:List (Str×V)}{f:Str}{v:V}{A:Around}{E:Value->Shared->Prop}
theorem Oa{b:Bool}{Q:Value->Shared->Prop}(I:Inv X pins σ H s)(e:H a=some (.ins C dx fs))(c:Cls X.K C)(n:NoAttr X.K C f)(l:fs.lookup f=some v)
  (h:∀ u s',Inv X pins σ H s'->RelV v u->Q u s'):wpAny (model X.prog X.w) A (getAttr (.ref a) f b) Q E s:=by
 obtain⟨mA,O,r,_,_,_⟩:=IP I.hok e;obtain⟨u,hu,ru⟩:=RelO.some_of (v:=v) (o:=mA f) (by rw [<-l];exact r f)
 exact su I.kIn O (c.get f) c.hd n hu (ON ru) (h u _ (I.tok _) ru)
theorem Ic{m:Str}{g:Addr}{pl:Sem Bool}{Q:Value×List Value->Shared->Prop}(I:Inv X pins σ H s)(e:H a=some (.ins C dx fs))(c:Cls X.K C)(k:aQ X.K C m g)(l:fs.lookup m=none)
  (h:Q (.ref g,[.ref a]) s):wpAny (model X.prog X.w) A (getMethod (.ref a) m pl) Q E s:=by
 obtain⟨mA,O,r,_,_,_⟩:=IP I.hok e;have hn:mA m=none:=RelO.none_of (by rw [<-l];exact r m)
 exact nZ I.kIn O (c.get m) k.at_ k.fn hn h
theorem N5{y:V}{u:Value}{Q:Unit->Shared->Prop}(I:Inv X pins σ H s)(e:H a=some (.ins C dx fs))(c:Cls X.K C)(n:NoAttr X.K C f)(hl:fs.length<1000)(ry:RelV y u)
  (h:∀ s',Inv X pins σ (upd H a (.ins C dx (dv f y fs))) s'->Q () s'):wpAny (model X.prog X.w) A (setAttr (.ref a) f u) Q E s:=by
 obtain⟨mA,O,r,wi,_,ho⟩:=IP I.hok e;have hz:(fs.map (·.1)).length<=sizeLine:=by rw [aT,ak];omega
 refine tW I.kIn O c.sa c.po n.taker c.hd wi hz fun h' O' sb=>h _ ?_;have hd:∃ o,h'.get? dx=some o:=by obtain⟨o,_,_,e',_⟩:=O'.ns;exact⟨o,e'⟩
 refine I.write (x:=a) (e:=dx) (by rw [e];exact True.intro) (.inr ho) (fun b q hb z=>(sb.2 b hb).trans z) hd ?_
 refine⟨by rw [aj O.ne];exact ho,?_,O.ne,O'.obj,_,O'.ns,fun g=>?_,fun g hg=>?_⟩
 ·have:=NF f y fs;omega
 ·show RelO ((dv f y fs).lookup g) (if g=f then some u else mA g);rw [NG];by_cases q:g=f
  ·rw [ae q,ae q];exact ry
  ·rw [ac q,ac q];exact r g
 ·by_cases q:g=f
  ·rw [q];exact(IF f y fs).1
  ·refine(IF f y fs).2 g (wi g fun z=>hg ?_);show(if g=f then some u else mA g)=none;rw [ac q];exact z
theorem Inv.made(I:Inv X pins σ H s):Inv X pins σ (upd (upd H s.heap.objs.size (.own (s.heap.objs.size+1))) (s.heap.objs.size+1) (.ins C s.heap.objs.size []))
  { s with heap:=(s.heap.push PySem.W.emptyDict).push (PySem.W.instObj C s.heap.objs.size) }:=by
 have e1:(s.heap.push PySem.W.emptyDict).get? s.heap.objs.size=some PySem.W.emptyDict:=fi s.heap rfl;have e2:((s.heap.push PySem.W.emptyDict).push (PySem.W.instObj C s.heap.objs.size)).get? (s.heap.objs.size+1)=some (PySem.W.instObj C s.heap.objs.size):=by
  have:=fi (s.heap.push PySem.W.emptyDict) (o:=PySem.W.instObj C s.heap.objs.size) rfl
  rwa [kq]at this
 have e3:(s.heap.push PySem.W.emptyDict).Ns s.heap.objs.size (fun _=>none):=⟨PySem.W.emptyDict,#[],_,e1,rfl,(fun e he=>absurd he (by simp)),fun _=>rfl⟩
 have I1:=I.laid (a:=s.heap.objs.size) (o:=.own (s.heap.objs.size+1)) (h':=s.heap.push PySem.W.emptyDict) (t':=s.toks) (fun b u q=>dD _ q) (bK _) ⟨_,e1⟩;refine I1.laid (a:=s.heap.objs.size+1) (o:=.ins C s.heap.objs.size []) (t':=s.toks) (fun b u q=>dD _ q) (vT (kq _ _)) ?_;have ne:s.heap.objs.size≠s.heap.objs.size+1:=eF (EZ _);refine⟨by rw [aj ne,Z2j],fj _,ne,e2,fun _=>none,(Heap.Ns1.of_empty e3).at fun o q=>dD _ q,fun _=>True.intro,fun y hy=>absurd rfl hy⟩
theorem O9{prog:Program}{w:World}{env:Env}{e:Expr}{f:Str}{pos:Pos}{s:Shared}{Q:Value->Shared->Prop}(hb:attributeBase e f env (eval e env)=eval e env)
  (h:wpAny (model prog w) A (eval e env) (fun o s₁=>wpAny (model prog w) A (getAttr o f true) Q E s₁) E s):wpAny (model prog w) A (eval (.Attribute e f pos) env) Q E s :=
 Attribute_any_ h (by rw [arm_eval_Attribute,hb])
end
def En(K:aq)(ta:TE)(f:Str):TE:=fun σ H Q=>ta σ H fun x H1=>∃ a C dx fs v,x=.ref a/\H1 a=some (.ins C dx fs)/\Cls K C/\NoAttr K C f/\fs.lookup f=some v/\Q v H1
def L5(K:aq)(ta tv:TE)(f:Str):TS:=fun D σ H=>tv σ H fun y H1=>ta σ H1 fun x H2=>∃ a C dx fs,x=.ref a/\H2 a=some (.ins C dx fs)/\Cls K C/\NoAttr K C f/\fs.length<1000 /\
 D.nx σ (upd H2 a (.ins C dx (dv f y fs)))
def Aq(X:Cx)(op:Operator)(rd:V->V->Hp->VK->Prop):Prop :=
 ∀ (pins:List (Addr×Obj))(s:Shared)(σ:St)(H:Hp)(x y:V)(u v:Value)(Q:VK),Inv X pins σ H s->RelV x u->RelV y v->rd x y H Q->wpAny (model X.prog X.w) X.A (inplaceOp op u v) (EP X pins σ Q) X.xe s
def tS(K:aq)(ta tv:TE)(rd:V->V->Hp->VK->Prop)(f:Str):TS:=fun D σ H=>ta σ H fun x H1=>∃ a C dx fs v,x=.ref a/\H1 a=some (.ins C dx fs)/\Cls K C/\NoAttr K C f/\fs.lookup f=some v /\
 tv σ H1 fun y H2=>rd v y H2 fun z H3=>∃ eN uZ,H3 a=some (.ins C eN uZ)/\uZ.length<1000/\D.nx σ (upd H3 a (.ins C eN (dv f z uZ)))
section
variable{X:Cx}{o e value:Expr}{f:Str}{pos eW dN:Pos}{ta tv:TE}
theorem bq(he:PE X e ta)(hb:attributeBase e f X.env (eval e X.env)=eval e X.env):PE X (.Attribute e f pos) (En X.K ta f):=by
 intro pins s σ H Q I h;refine O9 hb (aP (he pins s σ H _ I h) fun u s1 zz=>?_);obtain⟨x,H1,I1,rx,a,C,dx,fs,v,ex,ea,c,n,l,q⟩:=zz;subst ex;obtain rfl:u=Value.ref a:=rx;exact Oa I1 ea c n l fun u' s2 I2 ru=>⟨v,H1,I2,ru,q⟩
theorem gr(ha:PE X o ta)(hv:PE X value tv)(hs:swapsWith value (some (.Attribute o f eW)) pos.line X.env=pure false):PS X (.Assign [.Attribute o f eW] value pos) (L5 X.K ta tv f):=by
 intro pins s σ H D I h;refine cq (aP (hv pins s σ H _ I h) fun u s1 ⟨y,H1,I1,ry,q⟩=>aP (ha pins s1 σ H1 _ I1 q) fun ov s2 zz=>?_) hs;obtain⟨x,H2,I2,rx,a,C,dx,fs,ex,ea,c,n,l,q2⟩:=zz;subst ex;obtain rfl:ov=Value.ref a:=rx;exact N5 I2 ea c n l ry fun s3 I3=>⟨σ,_,I3,q2⟩
theorem Zbg{op:Operator}{rd:V->V->Hp->VK->Prop}(ha:PE X o ta)(hv:PE X value tv)(hop:Aq X op rd):PS X (.AugAssign (.Attribute o f dN) op value pos) (tS X.K ta tv rd f):=by
 intro pins s σ H D I h;refine wpAny_AugAssign_AttributeAny (aP (ha pins s σ H _ I h) fun ov s1 zz=>?_);obtain⟨x,H1,I1,rx,a,C,dx,fs,v,ex,ea,c,n,l,q⟩:=zz;subst ex;obtain rfl:ov=Value.ref a:=rx;refine Oa I1 ea c n l fun u s2 I2 ru=>aP (hv pins s2 σ H1 _ I2 q) fun w3 s3 ⟨y,H2,I3,ry,q3⟩=>aP (hop pins s3 σ H2 v y u w3 _ I3 ru ry q3) fun w4 s4 zz=>?_;obtain⟨z,H3,I4,rz,eN,uZ,ea',l',q4⟩:=zz;exact N5 I4 ea' c n l' rz fun s5 I5=>⟨σ,_,I5,q4⟩
def LN:V->V->Hp->VK->Prop:=fun x y H Q=>∃ i j,x=.int i/\y=.int j/\Q (.int (i+j)) H
theorem xz:Aq X .Add LN:=by
 rintro pins s σ H x y u v Q I rx ry ⟨i,j,rfl,rfl,q⟩;obtain⟨t,rfl⟩:=(show ∃ t,u=Value.int i t from rx);obtain⟨t',rfl⟩:=(show ∃ t',v=Value.int j t' from ry);exact PyProof.Rows.iadd_int ⟨.int (i+j),H,I.tok _,⟨_,rfl⟩,q⟩
theorem vf{pl:Sem Bool}{m:Str}{cz:Pos}{args:List Expr}{pins:List (Addr×Obj)}{s:Shared}{σ:St}{H:Hp}{Q:Value->Shared->Prop}{te:TE}(he:PE X e te)(I:Inv X pins σ H s)
  (h:te σ H fun x H1=>∃ a C dx fs g,x=.ref a/\H1 a=some (.ins C dx fs)/\Cls X.K C/\aQ X.K C m g/\fs.lookup m=none /\
    ∀ s1,Inv X pins σ H1 s1->wpAny (model X.prog X.w) X.A (callWith pos (.ref g) [.ref a] (backTo pos (starEach args X.env)) (backToKw pos (keywordEach [] X.env))) Q X.xe s1)
  (ht:eval (.Call (.Attribute e m cz) args [] pos) X.env=(do
    let ov <-eval e X.env
    standAt cz.atName
    let (f,first) <-holding [ov] (getMethod ov m pl)
    callWith pos f first (backTo pos (starEach args X.env)) (backToKw pos (keywordEach [] X.env)))) :
  wpAny (model X.prog X.w) X.A (eval (.Call (.Attribute e m cz) args [] pos) X.env) Q X.xe s:=by
 refine G6 (pl:=pl) (aP (he pins s σ H _ I h) fun u s1 zz=>?_) ht;obtain⟨x,H1,I1,rx,a,C,dx,fs,g,ex,ea,c,k,l,q⟩:=zz;subst ex;obtain rfl:u=Value.ref a:=rx;exact Ic I1 ea c k l (q s1 I1)
end
section
variable{X:Cx}{pins:List (Addr×Obj)}{σ:St}{H:Hp}{s:Shared}{A:Around}{E:Value->Shared->Prop}{Q:Value->Shared->Prop}{c:Value}{b:Bool}
end
end L2
namespace L2
open PySem PySem.Spec PyProof.Rows
structure Room(k:Nat)(A:Around):Prop where
 hd:A.handled=none
 dp:A.depth+3*k+5<recursionLimit
 un:A.units+16*k+200<cLine
theorem Room.mono{j k:Nat}{A:Around}(r:Room k A)(h:j<=k):Room j A:=⟨r.hd,by have:=r.dp;omega,by have:=r.un;omega⟩
theorem Room.deeper{k:Nat}{A:Around}(r:Room (k+1) A)(env:Env):Room k (A.deeper env) :=
 ⟨r.hd,by have:=r.dp;show A.depth+1+3*k+5<_;omega,by have:=r.un;show A.units+3+16*k+200<_;omega⟩
theorem NW{A:Around}{C:Addr}{us:List Value}{kw:List (Str×Value)}:(A.under (.builtin "type.__call__" ⟨.ref C::us,kw⟩)).depth=A.depth+1:=by
 first |rfl |simp [Around.under,Code.weight,Code.isCreation,Code.isGuard,Code.isCaller,Code.frames,Code.isFrame,guardIds]
theorem ZaZ{A:Around}{C:Addr}{us:List Value}{kw:List (Str×Value)}:(A.under (.builtin "type.__call__" ⟨.ref C::us,kw⟩)).units=A.units+1:=by
 first |rfl |simp [Around.under,Code.cUnits,Code.frames,Code.isFrame]
theorem Room.make{k:Nat}{A:Around}(r:Room (k+1) A)(C:Addr)(us:List Value)(kw:List (Str×Value)):Room k (A.under (.builtin "type.__call__" ⟨.ref C::us,kw⟩)) :=
 ⟨r.hd,by have:=r.dp;rw [NW];omega,by have:=r.un;rw [ZaZ];omega⟩
theorem Room.depth{k:Nat}{A:Around}(r:Room k A):A.depth<recursionLimit:=by have:=r.dp;omega
theorem Room.units{k:Nat}{A:Around}(r:Room k A):A.units+64<cLine:=by have:=r.un;omega
theorem Room.units0{k:Nat}{A:Around}(r:Room k A):A.units<cLine:=by have:=r.un;omega
def Et:TA:=fun _ H Q=>Q [] H
def Ej(ta:TE)(tr:TA):TA:=fun σ H Q=>ta σ H fun x H1=>tr σ H1 fun xs H2=>Q (x::xs) H2
section
variable{X:Cx}{e:Expr}{es:List Expr}{te:TE}{t:TA}{pos:Pos}
theorem aD:PA X [] Et:=fun _ _ _ _ H Q I h=>Calls.spliced_nil ⟨[],H,I,.nil,h⟩
theorem ao(ha:PE X e te)(hr:PA X es t)(hs:autoParam (starEach (e::es) X.env=(false,eval e X.env)::starEach es X.env) aR._auto_1):PA X (e::es) (Ej te t):=by
 intro pos pins s σ H Q I h;rw [hs];show wpAny _ _ (spliced ((false,eval e X.env)::backTo pos (starEach es X.env))) _ _ s;refine Calls.spliced_cons (aP (ha pins s σ H _ I h) fun u s1 ⟨x,H1,I1,r1,q1⟩=>?_);exact aP (hr pos pins s1 σ H1 _ I1 q1) fun us s2 ⟨xs,H2,I2,r2,q2⟩=>⟨x::xs,H2,I2,.cons r1 r2,q2⟩
def Mt(t:TA):TE:=fun σ H Q=>t σ H fun xs H1=>xs.length<=sizeLine/\∀ p,H1 p=none->Q (.ref p) (upd H1 p (.tup xs))
def Mo(t:TA):TE:=fun σ H Q=>t σ H fun xs H1=>xs.length<=sizeLine/\∀ p,H1 p=none->Q (.ref p) (upd H1 p (.lst xs))
theorem qA{x1}(h:PA X es t):PE X (.Tuple es x1 pos) (Mt t):=by
 intro pins s σ H Q I hq;refine wpAny_Tuple_spliced (aP (h pos pins s σ H _ I hq) fun us s1 ⟨xs,H1,I1,r,z,q⟩=>⟨by rw [<-r.length];exact z,?_⟩)
 have hf:H1 s1.heap.objs.size=none:=I1.hok.fresh (bK _);refine⟨.ref s1.heap.objs.size,upd H1 s1.heap.objs.size (.tup xs),I1.laid (t':=s1.toks) (fun b u e=>dD _ e) (bK _) ?_,rfl,q _ hf⟩;exact⟨z,us,r,⟨_,fi _ rfl,rfl,_,rfl⟩⟩
theorem mL(h:PA X es t):PE X (.List es pos) (Mo t):=by
 intro pins s σ H Q I hq;refine wpAny_List_spliced (aP (h pos pins s σ H _ I hq) fun us s1 ⟨xs,H1,I1,r,z,q⟩=>⟨by rw [<-r.length];exact z,?_⟩)
 have hf:H1 s1.heap.objs.size=none:=I1.hok.fresh (bK _);refine⟨.ref s1.heap.objs.size,upd H1 s1.heap.objs.size (.lst xs),I1.laid (t':=s1.toks) (fun b u e=>dD _ e) (bK _) ?_,rfl,q _ hf⟩;exact⟨z,us,0,r,fi _ rfl⟩
end
abbrev Sp:=List V->Hp->VK->XK->Prop
abbrev jV:=List Env->Hp->Shared->XK->Value->Shared->Prop
structure Env0(P:Program)(w:World)(K:aq)(mg:Str->Option Value)(base:Heap)(A:Around)(outer:List Env)(s:Shared)(H:Hp):Prop where
 frames:A.frames=some outer
 mod:Av K mg base
 bs:∀ b o,base.get? b=some o->s.heap.get? b=some o/\H b=none
 bsz:base.objs.size<=s.heap.objs.size
 funs:s.heap.FunFrames base outer
 frf:∀ b∈b9 outer,H b=none
 hok:HOk P w H s.heap
 bare:AllBare s.gens
def CE(outer:List Env)(P:Program)(w:World)(H:Hp)(s:Shared)(Q:VK)(u:Value)(s':Shared):Prop :=
 ∃ v H',s'.os=s.os/\AllBare s'.gens/\Un (b9 outer) [] H H' s.heap s'.heap/\HOk P w H' s'.heap/\RelV v u/\Q v H'
def CR(CX:jV)(outer:List Env)(P:Program)(w:World)(H:Hp)(s:Shared)(Q:VK)(E:XK)(r:Result)(s':Shared):Prop :=
 match r with
 |.ok (.ret u)=>CE outer P w H s Q u s'
 |.ok _=>False
 |.error e=>CX outer H s E e s'
structure am(P:Program)(w:World)(K:aq)(mg:Str->Option Value)(base:Heap)(CX:jV)(k:Nat)(f:Addr)(fd:FuncData)(ps:List Str)(sp:Sp):Prop where
 len:∀ vs H Q E,sp vs H Q E->vs.length=ps.length
 run:∀ (A:Around)(outer:List Env)(s:Shared)(H:Hp)(args:Args)(us:List Value)(vs:List V)(Q:VK)(E:XK),Room k A->Env0 P w K mg base A outer s H->BindsTo s fd args (ps.zip us)->Vals vs us->sp vs H Q E ->
  codeAny (model P w) A (.call (.ref f) args) (CR CX outer P w H s Q E) s
theorem Env0.make{P:Program}{w:World}{K:aq}{mg:Str->Option Value}{base:Heap}{A:Around}{outer:List Env}{s:Shared}{H:Hp}(e:Env0 P w K mg base A outer s H)(C:Addr)(us:List Value)(kw:List (Str×Value)) :
  Env0 P w K mg base (A.under (.builtin "type.__call__" ⟨.ref C::us,kw⟩)) outer s H:=⟨by first |exact e.frames |(simpa [Around.under,Code.envs,Code.isFrame,pushEnvs]using e.frames),e.mod,e.bs,e.bsz,e.funs,e.frf,e.hok,e.bare⟩
section
variable{X:Cx}{pins:List (Addr×Obj)}{σ:St}{H:Hp}{s s':Shared}
theorem Inv.env0(I:Inv X pins σ H s):Env0 X.prog X.w X.K X.mg X.base X.A X.stack s H :=
 ⟨I.ok.frames,I.ok.mod,I.bs,iD I.ok.bsz I.sz,I.stack,I.stkFree,I.hok,I.bare⟩
theorem Inv.after{Q:VK}{u:Value}(I:Inv X pins σ H s)(h:CE X.stack X.prog X.w H s Q u s'):EP X pins σ Q u s':=by
 obtain⟨v,H',os,bare,un,hok,r,q⟩:=h;obtain⟨hh,g,d,t,os'⟩:=s';obtain rfl:os'=s.os:=os;exact⟨v,H',I.call (h':=hh) (g':=g) (d':=d) (t':=t) (ch:=[]) un hok bare (fun b z=>absurd z (by simp)),r,q⟩
end
def Ei(sp:Sp)(iq:List V)(E:XK)(t:TA):TE:=fun σ H Q=>t σ H fun vs H1=>sp (vs++iq) H1 Q E
def vJ(C:Addr)(m:Str)(sp:Sp)(iq:List V)(E:XK)(ta:TE)(t:TA):TE:=fun σ H Q=>ta σ H fun x H1=>∃ a dx fs,x=.ref a/\H1 a=some (.ins C dx fs)/\fs.lookup m=none /\
 t σ H1 fun vs H2=>sp (x::(vs++iq)) H2 Q E
def Ep(C:Addr)(sp:Sp)(iq:List V)(E:XK)(t:TA):TE:=fun σ H Q=>t σ H fun vs H1=>∀ x dx,H1 x=none->H1 dx=none->dx≠x ->
 sp (.ref x::(vs++iq)) (upd (upd H1 dx (.own x)) x (.ins C dx [])) (fun v H2=>v=.non/\Q (.ref x) H2) E
def Binds(K:aq)(fd:FuncData)(ps:List Str)(ds:List Value):Prop :=
 ∀ (s:Shared)(us:List Value),K.In s.heap->(us++ds).length=ps.length->BindsTo s fd ⟨us,[]⟩ (ps.zip (us++ds))
theorem Binds.all{K:aq}{fd:FuncData}{ps:List Str}(h:∀ us:List Value,us.length=ps.length->bindArgs fd ⟨us,[]⟩=pure (ps.zip us)):Binds K fd ps []:=fun s us _ hl=>by
 rw [jY]at hl ⊢;exact .of_eq (h us hl)
def jm(CX:jV)(X:Cx)(E:XK):Prop:=∀ (pins:List (Addr×Obj))(σ:St)(H:Hp)(s:Shared)(e:Value)(s':Shared),Inv X pins σ H s->CX X.stack H s E e s'->X.xe e s'
section
variable{X:Cx}{CX:jV}{k:Nat}{f C:Addr}{fd:FuncData}{ps:List Str}{sp:Sp}{iq:List V}{ds:List Value}{E:XK}{x m:Str}{p pos cz:Pos}{e o:Expr}{es:List Expr}{ta:TE}{t:TA}
theorem FJ{pins:List (Addr×Obj)}{σ:St}{H:Hp}{s:Shared}{Q:VK}{us:List Value}{vs:List V}(F:am X.prog X.w X.K X.mg X.base CX k f fd ps sp)(hr:Room k X.A)(hb:Binds X.K fd ps ds)(hd:Vals iq ds)(hx:jm CX X E)
  (I:Inv X pins σ H s)(r:Vals vs us)(h:sp (vs++iq) H Q E):wpAny (model X.prog X.w) X.A (call (.ref f) us) (EP X pins σ Q) X.xe s:=by
 have r2:Vals (vs++iq) (us++ds):=r.append hd;have hl:(us++ds).length=ps.length:=by rw [<-r2.length];exact F.len _ _ _ _ h
 refine jI (dz (F.run X.A X.stack s H ⟨us,[]⟩ (us++ds) (vs++iq) Q E hr I.env0 (hb s us I.kIn hl) r2 h) fun r s' hq=>?_);cases r with
 |error e=>exact hx pins σ H s e s' I hq
 |ok fl =>
  cases fl with
  |ret u=>exact I.after hq
  |next=>exact False.elim hq
  |brk=>exact False.elim hq
  |cont=>exact False.elim hq
theorem fO(F:am X.prog X.w X.K X.mg X.base CX k f fd ps sp)(hr:Room k X.A)(hg:Gl X x)(hm:X.mg x=some (.ref f))(hk:PySem.W.keepIn X.K (.ref f)=true)(hb:Binds X.K fd ps ds)(hd:Vals iq ds)(hx:jm CX X E)
  (ha:PA X (e::es) t)(gy:(x==("__debug__" : Str))=false:=by decide)(he:autoParam (starEach (e::es) X.env=(false,eval e X.env)::starEach es X.env) aR._auto_1)(i9:autoParam ((backTo pos (starEach es X.env)).any (·.1)=false) aR._auto_1) :
  PE X (.Call (.Name x p) (e::es) [] pos) (Ei sp iq E t):=by
 intro pins s σ H Q I h;refine aS (ma I hg hm ?_ gy);refine vU (h₀:=X.base) I.ok.mod.kin hk (aP (ha pos pins s σ H _ I h) fun us s1 ⟨vs,H1,I1,r,q⟩=>⟨I1.kIn,?_⟩) he i9;exact FJ F hr hb hd hx I1 r q
theorem ej{pl:Sem Bool}(he:PE X o ta)(c:Cls X.K C)(hm:aQ X.K C m f)(F:am X.prog X.w X.K X.mg X.base CX k f fd ps sp)(hr:Room k X.A)(hb:Binds X.K fd ps ds)(hd:Vals iq ds)(hx:jm CX X E)(ha:PA X (e::es) t)
  (cp:autoParam (starEach (e::es) X.env=(false,eval e X.env)::starEach es X.env) aR._auto_1)(i9:autoParam ((backTo pos (starEach es X.env)).any (·.1)=false) aR._auto_1)
  (ht:autoParam (eval (.Call (.Attribute o m cz) (e::es) [] pos) X.env=(do
    let ov <-eval o X.env
    standAt cz.atName
    let (f,first) <-holding [ov] (getMethod ov m pl)
    callWith pos f first (backTo pos (starEach (e::es) X.env)) (backToKw pos (keywordEach [] X.env)))) aR._auto_1) :
  PE X (.Call (.Attribute o m cz) (e::es) [] pos) (vJ C m sp iq E ta t):=by
 intro pins s σ H Q I h;refine G6 (pl:=pl) (aP (he pins s σ H _ I h) fun u s1 zz=>?_) ht;obtain⟨x,H1,I1,rx,a,dx,fs,ex,ea,l,q⟩:=zz;subst ex;obtain rfl:u=Value.ref a:=rx;refine Ic I1 ea c hm l ?_;refine vU (first:=[.ref a]) (h₀:=X.base) I.ok.mod.kin hm.kp (aP (ha pos pins s1 σ H1 _ I1 q) fun us s2 ⟨vs,H2,I2,r,q2⟩=>⟨I2.kIn,?_⟩) cp i9;exact FJ (us:=.ref a::us) (vs:=.ref a::vs) F hr hb hd hx I2 (.cons rfl r) q2
theorem Jc{pl:Sem Bool}(he:PE X o ta)(c:Cls X.K C)(hm:aQ X.K C m f)(F:am X.prog X.w X.K X.mg X.base CX k f fd ps sp)(hr:Room k X.A)(hb:Binds X.K fd ps ds)(hd:Vals iq ds)(hx:jm CX X E)
  (ht:autoParam (eval (.Call (.Attribute o m cz) [] [] pos) X.env=(do
    let ov <-eval o X.env
    standAt cz.atName
    let (f,first) <-holding [ov] (getMethod ov m pl)
    callWith pos f first (backTo pos (starEach [] X.env)) (backToKw pos (keywordEach [] X.env)))) aR._auto_1) :
  PE X (.Call (.Attribute o m cz) [] [] pos) (vJ C m sp iq E ta Et):=by
 intro pins s σ H Q I h;refine G6 (pl:=pl) (aP (he pins s σ H _ I h) fun u s1 zz=>?_) ht;obtain⟨x,H1,I1,rx,a,dx,fs,ex,ea,l,q⟩:=zz;subst ex;obtain rfl:u=Value.ref a:=rx;refine Ic I1 ea c hm l ?_;exact PySem.W.callWith_K0 (first:=[.ref a]) I1.kIn hm.kp (FJ (us:=[.ref a]) (vs:=[.ref a]) F hr hb hd hx I1 (.cons rfl .nil) q)
structure Mk(K:aq)(C f:Addr):Prop where
 makes:PySem.W.makesIn K C=true
 init:PySem.W.findIn K (.ref C) "__init__" = some (some (.ref f))
 fn:PySem.W.isFn K (.ref f)=true
 kp:PySem.W.keepIn K (.ref C)=true
theorem pM{pins:List (Addr×Obj)}{σ:St}{H:Hp}{s:Shared}{Q:VK}{us:List Value}{vs:List V}(M:Mk X.K C f)(F:am X.prog X.w X.K X.mg X.base CX k f fd ps sp)(hr:Room (k+1) X.A)(hb:Binds X.K fd ps ds)(hd:Vals iq ds)
  (hx:jm CX X E)(I:Inv X pins σ H s)(r:Vals vs us)
  (h:∀ x dx,H x=none->H dx=none->dx≠x->sp (.ref x::(vs++iq)) (upd (upd H dx (.own x)) x (.ins C dx [])) (fun v H2=>v=.non/\Q (.ref x) H2) E) :
  wpAny (model X.prog X.w) X.A (call (.ref C) us) (EP X pins σ Q) X.xe s:=by
 have hq:=h (s.heap.objs.size+1) s.heap.objs.size (I.hok.fresh (Nat.le_succ _)) (I.hok.fresh (bK _)) (eF (EZ _));have I2:=Inv.made (C:=C) I;have r2:Vals (V.ref (s.heap.objs.size+1)::(vs++iq)) (Value.ref (s.heap.objs.size+1)::(us++ds)):=.cons rfl (r.append hd);have hl:(Value.ref (s.heap.objs.size+1)::us++ds).length=ps.length:=by
  have e:=r2.length;rw [F.len _ _ _ _ hq]at e;exact e.symm
 refine jI (oF (f:=f) I.kIn M.makes M.init (aG.mp M.fn) (dz (F.run _ X.stack _ _ ⟨Value.ref (s.heap.objs.size+1)::us,[]⟩ (Value.ref (s.heap.objs.size+1)::(us++ds)) _ _ E (hr.make C us [])
  (I2.env0.make C us []) (hb _ (Value.ref (s.heap.objs.size+1)::us) I2.kIn hl) r2 hq) fun r s' Ck=>?_))
 cases r with
 |error e=>exact hx pins σ _ _ e s' I2 Ck
 |ok fl =>
  cases fl with
  |ret u =>
   obtain⟨v,H',I3,rv,ev,q3⟩:=I2.after Ck;subst ev;exact⟨rv,⟨V.ref (s.heap.objs.size+1),H',I3,rfl,q3⟩⟩
  |next=>exact False.elim Ck
  |brk=>exact False.elim Ck
  |cont=>exact False.elim Ck
theorem rq(M:Mk X.K C f)(F:am X.prog X.w X.K X.mg X.base CX k f fd ps sp)(hr:Room (k+1) X.A)(hg:Gl X x)(hm:X.mg x=some (.ref C))(hb:Binds X.K fd ps ds)(hd:Vals iq ds)(hx:jm CX X E)
  (ha:PA X (e::es) t)(gy:(x==("__debug__" : Str))=false:=by decide)(he:autoParam (starEach (e::es) X.env=(false,eval e X.env)::starEach es X.env) aR._auto_1)(i9:autoParam ((backTo pos (starEach es X.env)).any (·.1)=false) aR._auto_1) :
  PE X (.Call (.Name x p) (e::es) [] pos) (Ep C sp iq E t):=by
 intro pins s σ H Q I h;refine aS (ma I hg hm ?_ gy);refine vU (h₀:=X.base) I.ok.mod.kin M.kp (aP (ha pos pins s σ H _ I h) fun us s1 ⟨vs,H1,I1,r,q⟩=>⟨I1.kIn,?_⟩) he i9;exact pM M F hr hb hd hx I1 r q
end
section
variable{X:Cx}{CX:jV}{k:Nat}{f C:Addr}{fd:FuncData}{ps ks:List Str}{sp:Sp}{E:XK}{x m:Str}{p pos cz kpos:Pos}{e o:Expr}{es:List Expr}{kws:List Keyword}{te ta:TE}{t tk:TA}{nm:Option Str}
variable{g:List Value->List Value->List Value}{gV:List V->List V->List V}
end
structure cU(N P:List Str)(sc:Scope):Prop where
 kind:sc.kind=.function
 co:sc.isCoroutine=false
 gen:sc.isGenerator=false
 nd:N.Nodup
 pre:N.take P.length=P
 par:∀ x∈P,sc.names.lookup x=some .local\/sc.names.lookup x=some .cell
 nofree:∀ y∈sc.names,y.2≠.free
theorem OY{kindOf:Str->Option NameKind}{x:Str}:∀ {binds:List (Str×Value)}{m:Str->Option Value},(∀ v,(x,v)∉binds)->bindL kindOf binds m x=m x
 |[],_,_=>rfl
 |(n,v)::r,m,h=>by
  unfold bindL;rw [OY fun w hw=>h w (dj _ hw)];split
  ·have:x≠n:=by rintro rfl;exact h v cY
   simp [this]
  ·rfl
theorem OQ{kindOf:Str->Option NameKind}{x:Str}:∀ {binds:List (Str×Value)}{m:Str->Option Value},(∀ v,(x,v)∉binds)->bindC kindOf binds m x=m x
 |[],_,_=>rfl
 |(n,v)::r,m,h=>by
  unfold bindC;rw [OQ fun w hw=>h w (dj _ hw)];split
  ·rfl
  ·have:x≠n:=by rintro rfl;exact h v cY
   simp [this]
theorem IK{kindOf:Str->Option NameKind}{x:Str}{v:Value}:∀ {P:List Str}{vs:List Value}{i:Nat}{m:Str->Option Value},P.Nodup->P[i]?=some x->vs[i]?=some v->kindOf x=some .local ->
  bindL kindOf (P.zip vs) m x=some v
 |[],_,_,_,_,h,_,_=>by simp at h
 |_::_,[],_,_,_,_,h,_=>by simp at h
 |p::P,w::vs,0,m,nd,h1,h2,hk=>by
  simp at h1 h2;subst h1;subst h2;show bindL kindOf ((p,w)::P.zip vs) m p=_;unfold bindL;rw [OY fun v hv=>(lz.mp nd).1 (E2 hv).1,ae hk];simp
 |p::P,w::vs,i+1,m,nd,h1,h2,hk=>by
  show bindL kindOf ((p,w)::P.zip vs) m x=_;unfold bindL;exact IK (i:=i) (lz.mp nd).2 (by simpa using h1) (by simpa using h2) hk
theorem OO{kindOf:Str->Option NameKind}{x:Str}{v:Value}:∀ {P:List Str}{vs:List Value}{i:Nat}{m:Str->Option Value},P.Nodup->P[i]?=some x->vs[i]?=some v->kindOf x≠some .local ->
  bindC kindOf (P.zip vs) m x=some v
 |[],_,_,_,_,h,_,_=>by simp at h
 |_::_,[],_,_,_,_,h,_=>by simp at h
 |p::P,w::vs,0,m,nd,h1,h2,hk=>by
  simp at h1 h2;subst h1;subst h2;show bindC kindOf ((p,w)::P.zip vs) m p=_;unfold bindC;rw [OQ fun v hv=>(lz.mp nd).1 (E2 hv).1,ac hk];simp
 |p::P,w::vs,i+1,m,nd,h1,h2,hk=>by
  show bindC kindOf ((p,w)::P.zip vs) m x=_;unfold bindC;exact OO (i:=i) (lz.mp nd).2 (by simpa using h1) (by simpa using h2) hk
def start(N:List Str)(vs:List V):St:=vs.map some++List.replicate (N.length-vs.length) none
def j5(CX:jV)(P:Program)(w:World)(K:aq)(mg:Str->Option Value)(base:Heap)(N:List Str)(qual:Str)(scope:Scope)(f:Addr)(cd:Value)(A:Around)(outer:List Env)(s:Shared)(H:Hp)(E:XK):Cx where
 prog:=P
 w:=w
 K:=K
 mg:=mg
 base:=base
 A:=A.deeper (envOfC qual scope s.heap.objs.size f cd)
 N:=N
 s_0:=s
 H_0:=H
 env:=envOfC qual scope s.heap.objs.size f cd
 outer:=outer
 stack:=envOfC qual scope s.heap.objs.size f cd::outer
 ex:=[]
 calm:=true
 fn:=fun _=>true
 pn:=[]
 xe:=fun e s'=>wpAny (model P w) (A.deeper (envOfC qual scope s.heap.objs.size f cd)) (leaving (envOfC qual scope s.heap.objs.size f cd) e) (fun _ iu=>CX outer H s E e iu) (fun e' iu=>CX outer H s E e' iu) s'
theorem Pn{sc:Scope}{n:Nat}{x:Str}(h:sc.names.lookup x=some .cell):∃ c,(cellsFrom n sc.names []).lookup x=some c:=by
 have q:=PySem.W.cellsFrom_some sc.names n [] (.inl h);exact Option.isSome_iff_exists.mp q
theorem ZbJ{CX:jV}{P:Program}{w:World}{K:aq}{mg:Str->Option Value}{base:Heap}{N ps:List Str}{qual:Str}{scope:Scope}{f:Addr}{cd:Value}{A:Around}{outer:List Env}{s s1:Shared}{H:Hp}{E:XK}{us:List Value}{vs:List V}
  (S:cU N ps scope)(hd:A.handled=none)(e0:Env0 P w K mg base A outer s H)(hl:vs.length=ps.length)(r:Vals vs us)
  (x:InCallC s s.heap.objs.size (bindL (envOfC qual scope s.heap.objs.size f cd).kindOf (ps.zip us) fun _=>none) (cellsFrom (s.heap.objs.size+1) scope.names []) (bindC (envOfC qual scope s.heap.objs.size f cd).kindOf (ps.zip us) fun _=>none) s1) :
  Inv (j5 CX P w K mg base N qual scope f cd A outer s H E) [] (start N vs) H s1:=by
 have i9:ps.length<=N.length:=by have:=au List.length S.pre;rw [lW]at this;omega
 obtain⟨h1,tk,rfl,hk⟩:=x.done;have lT:∀ b:Addr,b∉(j5 CX P w K mg base N qual scope f cd A outer s H E).ex:=fun b z=>absurd (show b∈([]:List Addr)from z) (by simp)
 refine⟨⟨e0.mod,S.kind,rfl,rfl,bK _,fun y z c h1 h2=>?_,fun y hy=>?_,fun y c _ h=>?_,fun _=>hd,Around.frames_deeper e0.frames,.inr ⟨rfl,rfl⟩,fun b z=>absurd z (lT b),e0.bs,e0.bsz,fun b _ _=>lT b,fun b z=>absurd z (lT b),e0.funs,e0.frf⟩,
  rfl,e0.bare,Un.kept hk,⟨_,x.toInCall.ns,fun i y v h1 h2 h3=>?_⟩,fun y c h=>⟨_,x.cell y c h⟩,e0.hok.fresh (bK _),fun y c h=>?_,fun p hp=>absurd (show p∈([]:List (Addr×Obj))from hp) (by simp),e0.hok.kept hk,?_⟩
 ·exact name_of_addr x.apart (PySem.mem_of_lookup h1) (PySem.mem_of_lookup h2)
 ·have hy:scope.names.lookup y=some .cell\/scope.names.lookup y=some .free:=hy;rcases hy with hy |hy
  ·exact Pn hy
  ·exact absurd rfl (S.nofree _ (PySem.mem_of_lookup hy))
 ·exact vS (x.above y c (PySem.mem_of_lookup h))
 ·have hi:i<vs.length:=by
   unfold start at h2;by_cases hi:i<vs.length
   ·exact hi
   ·rw [uH (by simpa using hi)]at h2
    rw [List.getElem?_replicate]at h2;split at h2<;>cases h2
  have ha:vs[i]?=some v:=by
   unfold start at h2;rw [mI (by simpa using hi),dP]at h2
   cases e:vs[i]? with
   |none=>rw [e]at h2;cases h2
   |some a=>rw [e]at h2;cases h2;rfl
  obtain⟨u,hu,rv⟩:=r.get ha;have hp:ps[i]?=some y:=by
   rw [<-S.pre,List.getElem?_take_of_lt (by omega)];exact h1
  have Rc:ps.Nodup:=by rw [<-S.pre];exact S.nd.sublist (List.take_sublist _ _)
  refine⟨u,rv,?_⟩;rcases S.par y (gK hp)with k |k
  ·exact .inl ⟨k,IK Rc hp hu k⟩
  ·obtain⟨c,e⟩:=Pn (n:=s.heap.objs.size+1) k;refine .inr ⟨.inl k,c,e,?_⟩;have q:=x.cell y c e;rw [OO Rc hp hu (by show scope.names.lookup y≠_;rw [k];decide)]at q
   exact q
 ·exact e0.hok.fresh (vS (x.above y c (PySem.mem_of_lookup h)))
 ·unfold start;show _=N.length;rw [gC,aT,G7];omega
theorem nU{CX:jV}{P:Program}{w:World}{K:aq}{mg:Str->Option Value}{base:Heap}{k:Nat}{f:Addr}{name qual:Str}{params:Arguments}{body:List Stmt}{scope:Scope}{dV kV gU pm bp ct oc:Value}{an od:Option Addr}
  {jb:Array (Option Value)}{N ps:List Str}{sp:Sp}(lk:K.lookup f=some ⟨oc,od,.func (PySem.W.fnOf name qual params body scope dV kV gU pm an bp ct),jb⟩)(jh:PySem.W.codeIn K bp qual=true)(S:cU N ps scope)
  (len:∀ vs H Q E,sp vs H Q E->vs.length=ps.length)
  (gX:∀ (A:Around)(outer:List Env)(s:Shared)(H:Hp)(vs:List V)(Q:VK)(E:XK),Room k (A.deeper (envOfC qual scope s.heap.objs.size f bp))->sp vs H Q E ->
    ∃ t,PSs (j5 CX P w K mg base N qual scope f bp A outer s H E) body t/\t { nx:=fun _ H'=>Q .non H',rt:=Q } (start N vs) H) :
  am P w K mg base CX (k+1) f (PySem.W.fnOf name qual params body scope dV kV gU pm an bp ct) ps sp:=by
 refine⟨len,fun A outer s H args us vs Q E hr e0 hb r kb=>?_⟩;have hl:=len _ _ _ _ kb;have KX:K.In s.heap:=e0.mod.kin.keeps fun b o e=>(e0.bs b o e).1;have xM:s.heap.NoLimit:=e0.mod.nolimit.keeps fun b o e=>(e0.bs b o e).1;have oj:∀ y∈ps.zip us,scope.names.lookup y.1=some .local\/(scope.names.lookup y.1=some .cell/\((cellsFrom (s.heap.objs.size+1) scope.names []).lookup y.1).isSome=true):=fun⟨n,v⟩ hy=>by
  rcases S.par n (E2 hy).1 with q |q
  ·exact .inl q
  ·exact .inr ⟨q,PySem.W.cellsFrom_some _ _ _ (.inl q)⟩
 refine codeAny_call_function hr.depth (KX _ _ lk) rfl S.co S.gen rfl (PySem.W.codeRec_of KX jh) (hb _ _ _ _ ?_);refine wpAny_newFunctionEnv_cells S.kind oj fun env he s1 x=>?_;subst he;refine⟨xM.keeps x.toInCall.keep,codeAny_func ?_⟩;obtain⟨t,ht,hq⟩:=gX A outer s H vs Q E (hr.deeper _) kb;have I:Inv (j5 CX P w K mg base N qual scope f bp A outer s H E) [] (start N vs) H s1:=ZbJ S hr.hd e0 hl r x;refine ax (ht [] s1 (start N vs) H _ I hq) (fun fl s' hs=>?_) fun e s' hs=>hs;have fin:∀ {σ':St}{H':Hp}{v:V}{u:Value},Inv (j5 CX P w K mg base N qual scope f bp A outer s H E) [] σ' H' s'->RelV v u->Q v H'->CE outer P w H s Q u s' :=
  fun{σ' H' v u} J rv q=>⟨v,H',J.os,J.bare,J.base,J.hok,rv,q⟩
 cases fl with
 |ret u =>
  obtain⟨v,σ',H',J,rv,q⟩:=hs;exact fin J rv q
 |next =>
  obtain⟨σ',H',J,q⟩:=hs;exact fin (v:=V.non) (u:=Value.none) J rfl q
 |brk =>
  obtain⟨_,_,_,q⟩:=hs;exact False.elim q
 |cont =>
  obtain⟨_,_,_,q⟩:=hs;exact False.elim q
end L2
namespace L2
open PySem PySem.Spec PyProof.Rows
section
variable{X:Cx}{x:Str}{p pos:Pos}{e:Expr}{es:List Expr}{t:TA}{id T:String}{r:List V->Hp->VK->Prop}
def tCB(r:List V->Hp->VK->Prop)(t:TA):TE:=fun σ H Q=>t σ H fun vs H1=>r vs H1 Q
theorem l5(hc:jk X (.builtin id) r)(hg:Gl X x)(hm:X.mg x=none)(hv:bootBuiltins x=some (.builtin id))(ha:PA X (e::es) t)(hn:x≠"__name__":=by decide)(gy:(x==("__debug__" : Str))=false:=by decide)
  (he:autoParam (starEach (e::es) X.env=(false,eval e X.env)::starEach es X.env) aR._auto_1)(i9:autoParam ((backTo pos (starEach es X.env)).any (·.1)=false) aR._auto_1):PE X (.Call (.Name x p) (e::es) [] pos) (tCB r t):=by
 intro pins s σ H Q I h;refine aS (Bj I hg hm hv ?_ hn gy);exact PyProof.Rows.callWith_builtin1 (aP (ha pos pins s σ H _ I h) fun us s1 ⟨vs,H1,I1,r1,q1⟩=>hc pins s1 σ H1 vs us Q I1 r1 q1) he i9
end
end L2
namespace HT
open PySem PyProof.Rows
theorem nQ(A:Around)(s:Shared)(a:Int)(t:Tok)(c:Int)(u:Tok):∃ e,SeqAt.EqAt A s (.int a t) (.int c u) e/\(e=true↔a=c) :=
 ⟨(a==c),SeqAt.EqAt.int_int a t c u,by simp⟩
section
open PySem.SeqAt
open PySem.AutoSeq1 (wpAny_loadPart')
open PySem.MeetsSeq PySem.MeetsSeq2 PySem.MeetsSeq3
end
section
variable{prog:Program}{w:World}{A:Around}{E:Value->Shared->Prop}{s:Shared}
def sIx(n d:Nat):Option Int->Nat
 |none=>d
 |some v=>if v<0 then(v+(n:Int)).toNat else min v.toNat n
theorem sIx_nat(n d k:Nat):sIx n d (some (k:Int))=min k n:=by
 show(if (k:Int)<0 then((k:Int)+(n:Int)).toNat else min (k:Int).toNat n)=min k n;rw [ac (by omega),AO]
end
end HT
namespace L2
open PySem PySem.Spec PyProof.Rows
abbrev TO:=St->Hp->(Option Int->Hp->Prop)->Prop
def PO(X:Cx)(e:Option Expr)(t:TO):Prop :=
 ∀ (pins:List (Addr×Obj))(s:Shared)(σ:St)(H:Hp)(Q:Option Int->Hp->Prop),Inv X pins σ H s->t σ H Q ->
  wpAny (model X.prog X.w) X.A (evalPart e X.env) (fun u s'=>∃ o H',Inv X pins σ H' s'/\IsPart u o/\Q o H') X.xe s
def Ev(t:TE):TO:=fun σ H Q=>t σ H fun x H1=>∃ i,x=.int i/\Q (some i) H1
theorem NS{ns:List Int}:∀ {us:List Value},Vals (ns.map V.int) us->IntsAre us ns:=by
 induction ns with
 |nil=>intro us r;rw [List.map_nil]at r;cases r;exact .nil
 |cons n ns ih =>
  intro us r;rw [ei]at r;cases r with
  |cons r1 r2 =>
   obtain⟨t,e⟩:=r1;subst e;exact .cons n t (ih r2)
section
variable{X:Cx}{e:Expr}{te:TE}{lo hi:Option Expr}{tl th:TO}{pos p2:Pos}
theorem Qb(h:PE X e te):PO X (some e) (Ev te):=by
 intro pins s σ H Q I hw;rw [evalPart_some];refine aP (h pins s σ H _ I hw) fun u s1 ⟨x,H1,I1,r1,q1⟩=>?_;obtain⟨i,rfl,q⟩:=q1;obtain⟨t,rfl⟩:=r1;exact⟨some i,H1,I1,.int i t,q⟩
def NC(X:Cx)(r:V->Option Int->Option Int->Hp->VK->Prop):Prop :=
 ∀ (pins:List (Addr×Obj))(s:Shared)(σ:St)(H:Hp)(x:V)(v vl vu:Value)(lo hi:Option Int)(sl:Addr)(Q:VK),Inv X pins σ H s->RelV x v->s.heap.IsSliceOf sl vl vu .none->IsPart vl lo->IsPart vu hi->r x lo hi H Q ->
  ∃ T id,typeLookup (.type T) "__getitem__" = pure (some (.builtin id))/\s.TypeIs v T/\wpAny (model X.prog X.w) X.A (getItem v (.ref sl)) (EP X pins σ Q) X.xe s
def tSl(r:V->Option Int->Option Int->Hp->VK->Prop)(te:TE)(tl th:TO):TE:=fun σ H Q=>te σ H fun x H1=>tl σ H1 fun l H2=>th σ H2 fun u H3=>r x l u H3 Q
theorem pb{r:V->Option Int->Option Int->Hp->VK->Prop}(hr:NC X r)(he:PE X e te)(hl:PO X lo tl)(hu:PO X hi th):PE X (.Subscript e (.Slice lo hi none p2) pos) (tSl r te tl th):=by
 intro pins s σ H Q I h;refine Subscript_ (aP (he pins s σ H _ I h) fun v s1 ⟨x,H1,I1,r1,q1⟩=>?_);refine wpAny_Slice (aP (hl pins s1 σ H1 _ I1 q1) fun vl s2 ⟨l,H2,I2,pl,q2⟩=>aP (hu pins s2 σ H2 _ I2 q2) fun vu s3 ⟨u,H3,I3,pu,q3⟩=>?_);rw [evalPart_none];refine af ?_;have I4:Inv X pins σ H3 { s3 with heap:=s3.heap.push { cls:=.type "slice",data:=.fields #[vl,vu,.none] } }:=I3.kept (t':=s3.toks) fun b ob q=>dD _ q
 obtain⟨T,id,hT,ht,hg⟩:=hr pins { s3 with heap:=s3.heap.push { cls:=.type "slice",data:=.fields #[vl,vu,.none] } } σ H3 x v vl vu l u s3.heap.objs.size Q I4 r1 (Heap.IsSliceOf.new ..) pl pu q3
 show wpAny (model X.prog X.w) X.A (subscriptTail e (.Slice lo hi none p2) v (.ref s3.heap.objs.size)) (EP X pins σ Q) X.xe { s3 with heap:=s3.heap.push { cls:=.type "slice",data:=.fields #[vl,vu,.none] } }
 exact tail_any (ops:=[.ref s3.heap.objs.size,v]) ht hT hg (by with_unfolding_all rfl)
def j4(xs:List V)(lo hi:Option Int):List V:=(xs.drop (HT.sIx xs.length 0 lo)).take (HT.sIx xs.length xs.length hi-HT.sIx xs.length 0 lo)
theorem Z9L(xs:List V)(lo hi:Option Int):(j4 xs lo hi).length<=xs.length:=by
 unfold j4;rw [lW,AQ];omega
end
end L2
namespace L2
open PySem PySem.Spec PyProof.Rows
def qM(n:Nat)(i:Int):Option Nat:=if 0<=i then(if i<n then some i.toNat else none)else if -(n:Int)<=i then some (i+n).toNat else none
def zG{α:Type}(xs:List α)(i:Int):Option α:=(qM xs.length i).bind fun j=>xs[j]?
theorem O8{n:Nat}{i:Int}{j:Nat}(h:qM n i=some j):seqIndex? i n=some j/\j<n/\-(n:Int)<=i/\i<n:=by
 unfold qM at h;by_cases h0:0<=i
 ·rw [ae h0]at h;by_cases h1:i<n
  ·rw [ae h1]at h;have e:i.toNat=j:=Option.some.inj h;exact⟨by rw [seqIndex_of h0 h1,e],by omega,by omega,h1⟩
  ·rw [ac h1]at h;cases h
 ·rw [ac h0]at h;by_cases h1:-(n:Int)<=i
  ·rw [ae h1]at h;have e:(i+n).toNat=j:=Option.some.inj h;exact⟨by rw [seqIndex_neg (by omega) h1,e],by omega,h1,by omega⟩
  ·rw [ac h1]at h;cases h
theorem Pt{α:Type}{xs:List α}{i:Int}{v:α}(h:zG xs i=some v):∃ j,seqIndex? i xs.length=some j/\xs[j]?=some v/\j<xs.length/\-(xs.length:Int)<=i/\i<xs.length:=by
 unfold zG at h;cases e:qM xs.length i with
 |none=>rw [e]at h;cases h
 |some j =>
  rw [e]at h;obtain⟨h1,h2,h3,h4⟩:=O8 e;exact⟨j,h1,h,h2,h3,h4⟩
theorem qz{α:Type}{xs:List α}{j:Nat}{v:α}(h:xs[j]?=some v):zG xs (j:Int)=some v:=by
 have hj:j<xs.length:=(ee.mp h).1;have e:qM xs.length (j:Int)=some j:=by
  unfold qM;rw [ae (by omega),ae (by omega)];simp
 unfold zG;rw [e];exact h
def qR(b:Expr):Prop:=∀ o i,subscripted b false o i=operate [o,i] (getItem o i)
def Gv(X:Cx)(r:R2):Prop :=
 ∀ (value fK:Expr)(pins:List (Addr×Obj))(s:Shared)(σ:St)(H:Hp)(x y:V)(v u:Value)(Q:VK),Inv X pins σ H s->RelV x v->RelV y u->r x y H Q ->
  subscripted fK false v u=operate [v,u] (getItem v u)->wpAny (model X.prog X.w) X.A (subscriptTail value fK v u) (EP X pins σ Q) X.xe s
def NA(X:Cx)(id:String)(r:V->List V->Hp->VK->Prop):Prop :=
 ∀ (pins:List (Addr×Obj))(s:Shared)(σ:St)(H:Hp)(x:V)(xs:List V)(v:Value)(us:List Value)(Q:VK),Inv X pins σ H s->RelV x v->Vals xs us->r x xs H Q ->
  wpAny (model X.prog X.w) X.A (call (.builtin id) (v::us)) (EP X pins σ Q) X.xe s
section
variable{X:Cx}{a b:Expr}{ta tb:TE}{pos:Pos}
theorem dk{r:R2}(hr:Gv X r)(ha:PE X a ta)(hb:PE X b tb)(hs:qR b):PE X (.Subscript a b pos) (Gh r ta tb):=by
 intro pins s σ H Q I h;exact Subscript_ (wp ha hb I h fun v u s2 x y H2 I2 rx ry q=>hr a b pins s2 σ H2 x y v u Q I2 rx ry q (hs _ _))
def LP(K:aq):R2:=fun x y H Q=>∃ p xs i v,x=.ref p/\y=.int i/\SqL K H p xs/\zG xs i=some v/\Q v H
def LQ(K:aq):R2:=fun x y H Q=>∃ p xs i v,x=.ref p/\y=.int i/\SqT K H p xs/\zG xs i=some v/\Q v H
theorem qy:Gv X (LP X.K):=by
 intro value fK pins s σ H x y v u Q I rx ry h hs;obtain⟨p,xs,i,z,rfl,rfl,hq,he,q⟩:=h;cases rx;obtain⟨t,rfl⟩:=ry;obtain⟨its,r,pl,hz⟩:=I.list hq;obtain⟨j,h1,h2,h3,h4,h5⟩:=Pt he;obtain⟨w,ew,gI⟩:=r.get h2;have hl:=r.length;have hn:=zy;have fin:EP X pins σ Q w s:=⟨z,H,I,gI,q⟩;by_cases h0:0<=i
 ·have hj:i.toNat=j:=by
   rw [seqIndex_of h0 h5]at h1;exact Option.some.inj h1
  exact item_listR pl.isList h0 (by omega) (by rw [hj];simpa using ew) fin hs
 ·have hj:(i+(its.toArray.size:Int)).toNat=j:=by
   rw [seqIndex_neg (by omega) h4]at h1
   rw [fY,<-hl];exact Option.some.inj h1
  exact subscriptTail_builtinR (x:=w) pl.isList.typeIs slot_list_getitem.lookup
   (wpAny_getItem_list_neg (Q:=fun r s'=>r=w/\EP X pins σ Q r s') pl.isList (by omega) (by rw [fY]<;>omega) (by omega) (by rw [hj];simpa using ew) ⟨rfl,fin⟩) hs
theorem zw:Gv X (LQ X.K):=by
 intro value fK pins s σ H x y v u Q I rx ry h hs;obtain⟨p,xs,i,z,rfl,rfl,hq,he,q⟩:=h;cases rx;obtain⟨t,rfl⟩:=ry;obtain⟨its,r,pl,hz⟩:=I.tuple hq;obtain⟨j,h1,h2,h3,h4,h5⟩:=Pt he;obtain⟨w,ew,gI⟩:=r.get h2;have hl:=r.length;have hn:=zy;have fin:EP X pins σ Q w s:=⟨z,H,I,gI,q⟩;exact subscriptTail_builtinR (x:=w) pl.typeIs slot_tuple_getitem.lookup
  (getItem_tuple (j:=j) (Q:=fun r s'=>r=w/\EP X pins σ Q r s') pl (by omega) (by omega) (by rw [fY,<-hl];exact h1) (by simpa using ew) ⟨rfl,fin⟩) hs
theorem ZaU(its:List Value)(n j:Nat)(u:Value):Obj.mapSeq (·.setIfInBounds j u) { cls:=.type "list",data:=.seq its.toArray n }={ cls:=.type "list",data:=.seq (its.set j u).toArray n }:=by
 simp [Obj.mapSeq]
theorem Inv.lst{pins:List (Addr×Obj)}{σ:St}{H:Hp}{s:Shared}{p:Addr}{xs:List V}(I:Inv X pins σ H s)(h:H p=some (.lst xs)) :
  ∃ (its:List Value)(n:Nat),Vals xs its/\s.heap.get? p=some { cls:=.type "list",data:=.seq its.toArray n }/\xs.length<=sizeLine:=by
 obtain⟨z,its,n,r,e⟩:=I.hok p _ h;exact⟨its,n,r,e,z⟩
theorem Inv.lstUpd{pins:List (Addr×Obj)}{σ:St}{H:Hp}{s:Shared}{p:Addr}{xs ys:List V}{its its':List Value}{n n':Nat}{f:Obj->Obj}(I:Inv X pins σ H s)(h:H p=some (.lst xs))
  (ho:s.heap.get? p=some { cls:=.type "list",data:=.seq its.toArray n })(hf:f { cls:=.type "list",data:=.seq its.toArray n }={ cls:=.type "list",data:=.seq its'.toArray n' })(r:Vals ys its')(hz:ys.length<=sizeLine)(t:Nat) :
  Inv X pins σ (upd H p (.lst ys)) { s with heap:=s.heap.update p f,toks:=t }:=by
 have e:(s.heap.update p f).get? p=some { cls:=.type "list",data:=.seq its'.toArray n' }:=by
  rw [lX f ho (by rw [hf]<;>rfl),hf]
 refine I.write (x:=p) (e:=p) (by rw [h];trivial) (.inl rfl) (fun b u hb q=>(jZ _ _ (Ne.symm hb)).trans q) ⟨_,e⟩ ?_
 exact⟨hz,its',n',r,e⟩
def DD:V->V->V->Hp->(Hp->Prop)->Prop:=fun o i v H Q=>∃ p xs k j,o=.ref p/\i=.int k/\H p=some (.lst xs)/\qM xs.length k=some j/\Q (upd H p (.lst (xs.set j v)))
theorem Jg:vO X DD:=by
 intro pins s σ H o i v ov iv u Q I ro ri rv h;obtain⟨p,xs,k,j,rfl,rfl,hp,hj,q⟩:=h;cases ro;obtain⟨t,rfl⟩:=ri;obtain⟨its,n,r,ho,hz⟩:=I.lst hp;obtain⟨h1,h2,h3,h4⟩:=O8 hj;have hl:=r.length;have hn:=zy;have I':Inv X pins σ (upd H p (.lst (xs.set j v))) { s with heap:=s.heap.update p (Obj.mapSeq (·.setIfInBounds j u)) } :=
  I.lstUpd hp ho (ZaU its n j u) (r.set rv j) (by rw [List.length_set];exact hz) s.toks
 by_cases h0:0<=k
 ·have hk:k.toNat=j:=by
   rw [seqIndex_of h0 h4]at h1;exact Option.some.inj h1
  exact PySem.W.ki_setAt ho h0 (by omega) (by rw [fY,<-hl];exact h4) (by rw [hk];exact⟨_,I',q⟩)
 ·have hk:(k+(its.toArray.size:Int)).toNat=j:=by
   rw [seqIndex_neg (by omega) h3]at h1
   rw [fY,<-hl];exact Option.some.inj h1
  exact PySem.W.ki_setBack ho (by omega) (by rw [fY,<-hl];exact h3) (by omega) (by rw [hk];exact⟨_,I',q⟩)
theorem Z9d(lo hi:Option Int)(n:Nat):(sliceBounds lo hi none n).1=((HT.sIx n 0 lo:Nat):Int)/\(sliceBounds lo hi none n).2.1=((HT.sIx n n hi:Nat):Int)/\(sliceBounds lo hi none n).2.2=1:=by
 refine⟨?_,?_,rfl⟩
 ·cases lo with
  |none=>simp [sliceBounds,HT.sIx]
  |some i =>
   simp only [sliceBounds,HT.sIx,Option.getD_none,show(1:Int) > 0 by decide,cr]
   by_cases h:i<0
   ·simp only [h,cr]<;>omega
   ·simp only [h,bu]<;>omega
 ·cases hi with
  |none=>simp [sliceBounds,HT.sIx]
  |some i =>
   simp only [sliceBounds,HT.sIx,Option.getD_none,show(1:Int) > 0 by decide,cr]
   by_cases h:i<0
   ·simp only [h,cr]<;>omega
   ·simp only [h,bu]<;>omega
theorem Z8B(its:List Value)(lo hi:Option Int):slicePick its.toArray lo hi none=((its.drop (HT.sIx its.length 0 lo)).take (HT.sIx its.length its.length hi-HT.sIx its.length 0 lo)).toArray:=by
 obtain⟨h1,h2,h3⟩:=Z9d lo hi its.toArray.size;unfold slicePick;rw [h1,h2,h3];simp only [sliceRange_one,pick_run,fY]<;>rfl
def LU(K:aq):V->Option Int->Option Int->Hp->VK->Prop:=fun x lo hi H Q=>∃ a xs,x=.ref a/\SqL K H a xs/\∀ p,H p=none->Q (.ref p) (upd H p (.lst (j4 xs lo hi)))
theorem tZ:NC X (LU X.K):=by
 intro pins s σ H x v vl vu lo hi sl Q I rx hs pl pu h;obtain⟨a,xs,rfl,hx,q⟩:=h;cases rx;obtain⟨its,r,ht,hz⟩:=I.list hx;have bO:=r.length;refine⟨"list",_,slot_list_getitem.lookup,ht.isList.typeIs,?_⟩;refine wpAny_getItem_list_slice ht.isList hs pl pu .none (by simp) ?_ (by rw [fY]<;>omega)
 rw [Z8B,<-bO];refine⟨.ref s.heap.objs.size,_,I.laid (t':=s.toks) (o:=.lst (j4 xs lo hi)) (fun b ob q=>dD _ q) (bK _) ?_,rfl,q _ (I.hok.fresh (bK _))⟩;exact⟨iD (Z9L xs lo hi) hz,_,0,(r.drop (HT.sIx xs.length 0 lo)).take (HT.sIx xs.length xs.length hi-HT.sIx xs.length 0 lo),fi _ rfl⟩
def gx:V->Bool
 |.non=>true
 |.bl _=>true
 |.int _=>true
 |.str _=>true
 |_=>false
noncomputable def qE:V->V->Bool
 |.non,.non=>true
 |.bl a,.bl b=>a==b
 |.bl a,.int b=>(if a then 1 else 0)==b
 |.int a,.bl b=>a==(if b then 1 else 0)
 |.int a,.int b=>a==b
 |.str a,.str b=>a==b
 |_,_=>false
theorem wI{A:Around}{s:Shared}{y x:V}{u v:Value}(ry:RelV y u)(rx:RelV x v)(fy:gx y=true)(fx:gx x=true):SeqAt.EqAt A s u v (qE y x):=by
 cases y with
 |non =>
  cases ry;cases x with
  |non=>cases rx;exact SeqAt.EqAt.same _
  |bl b=>cases rx;exact SeqAt.EqAt.none_bool b
  |int b=>obtain⟨t,rfl⟩:=rx;exact SeqAt.EqAt.none_int b t
  |str b=>obtain⟨t,rfl⟩:=rx;exact SeqAt.EqAt.none_str b t
  |_=>exact absurd (show false=true from fx) fh
 |bl a =>
  cases ry;cases x with
  |non=>cases rx;exact SeqAt.EqAt.bool_none a
  |bl b=>cases rx;exact SeqAt.EqAt.bool_bool a b
  |int b=>obtain⟨t,rfl⟩:=rx;exact SeqAt.EqAt.bool_int a b t
  |str b=>obtain⟨t,rfl⟩:=rx;exact SeqAt.EqAt.bool_str a b t
  |_=>exact absurd (show false=true from fx) fh
 |int a =>
  obtain⟨t',rfl⟩:=ry;cases x with
  |non=>cases rx;exact SeqAt.EqAt.int_none a t'
  |bl b=>cases rx;exact SeqAt.EqAt.int_bool a t' b
  |int b=>obtain⟨t,rfl⟩:=rx;exact SeqAt.EqAt.int_int a t' b t
  |str b=>obtain⟨t,rfl⟩:=rx;exact SeqAt.EqAt.int_str a t' b t
  |_=>exact absurd (show false=true from fx) fh
 |str a =>
  obtain⟨t',rfl⟩:=ry;cases x with
  |non=>cases rx;exact SeqAt.EqAt.str_none a t'
  |bl b=>cases rx;exact SeqAt.EqAt.str_bool a t' b
  |int b=>obtain⟨t,rfl⟩:=rx;exact SeqAt.EqAt.str_int a t' b t
  |str b=>obtain⟨t,rfl⟩:=rx;exact SeqAt.EqAt.str_str a t' b t
  |_=>exact absurd (show false=true from fx) fh
 |_=>exact absurd (show false=true from fy) fh
def sk(x:V)(u:Value):Bool:=match u with
 |.none=>qE .non x
 |.bool b=>qE (.bl b) x
 |.int i _=>qE (.int i) x
 |.str z _=>qE (.str z) x
 |_=>false
theorem nR{x y:V}{u:Value}(r:RelV y u)(f:gx y=true):sk x u=qE y x:=by
 cases y with
 |non=>cases r;rfl
 |bl b=>cases r;rfl
 |int i=>obtain⟨t,rfl⟩:=r;rfl
 |str z=>obtain⟨t,rfl⟩:=r;rfl
 |_=>exact absurd (show false=true from f) fh
theorem IT{x:V}:∀ {xs:List V}{us:List Value},Vals xs us->xs.all gx=true->us.any (sk x)=xs.any fun y=>qE y x
 |_,_,.nil,_=>rfl
 |y::xs,u::us,.cons r t,f=>by
  rw [List.all_cons,iZ]at f;rw [AR,AR,nR r f.1,IT t f.2]
theorem IA{A:Around}{s:Shared}{x:V}{v:Value}(rx:RelV x v)(fx:gx x=true):∀ {xs:List V}{us:List Value},Vals xs us->xs.all gx=true->∀ u∈us,SeqAt.EqAt A s u v (sk x u)
 |_,_,.nil,_=>fun u hu=>by cases hu
 |y::xs,u::us,.cons r t,f=>fun u' hu=>by
  rw [List.all_cons,iZ]at f;rcases bv.mp hu with rfl |hu
  ·rw [nR r f.1];exact wI r rx f.1 fx
  ·exact IA rx fx t f.2 u' hu
def F0(x:V)(xs:List V):Bool:=xs.any fun y=>qE y x
def rIn(K:aq)(neg:Bool):R2:=fun x y H Q=>∃ p xs,y=.ref p/\(SqL K H p xs\/SqT K H p xs)/\gx x=true/\xs.all gx=true/\Q (.bl (if neg then !F0 x xs else F0 x xs)) H
theorem ZbA:iB X (compareOp .In) (rIn X.K false):=by
 intro pins s σ H x y v u Q I rx ry h;obtain⟨p,xs,rfl,hq,fx,fs,q⟩:=h;cases ry;rcases hq with hq |hq
 ·obtain⟨its,r,pl,hz⟩:=I.list hq;refine SeqAt.in_listAt (sk x) pl.isList (fun w hw=>IA rx fx r fs w (by simpa using hw)) ⟨.bl _,H,I,rfl,?_⟩
  rw [show its.toArray.any (sk x)=its.any (sk x) by simp,IT r fs]
  exact q
 ·obtain⟨its,r,pl,hz⟩:=I.tuple hq;refine SeqAt.in_tupleAt (sk x) pl (fun w hw=>IA rx fx r fs w (by simpa using hw)) ⟨.bl _,H,I,rfl,?_⟩
  rw [show its.toArray.any (sk x)=its.any (sk x) by simp,IT r fs]
  exact q
theorem rh:jk X (.builtin "len") (fun xs H Q=>∃ p ys,xs=[.ref p]/\(SqL X.K H p ys\/SqT X.K H p ys)/\Q (.int ys.length) H):=by
 intro pins s σ H xs us Q I r h;obtain⟨p,ys,rfl,hq,q⟩:=h;obtain⟨u,rfl,rx⟩:=EF r;cases rx;have hn:=zy;rcases hq with hq |hq
 ·obtain⟨its,r',pl,hz⟩:=I.list hq;have bO:=r'.length;exact Calls.call_len_list pl.isList (by simp only [fY]<;>omega) ⟨.int ys.length,H,I.tok _,⟨s.toks+1,by rw [fY,bO]⟩,q⟩
 ·obtain⟨its,r',pl,hz⟩:=I.tuple hq;have bO:=r'.length;exact len_tuple pl (by simp only [fY]<;>omega) ⟨.int ys.length,H,I.tok _,⟨s.toks+1,by rw [fY,bO]⟩,q⟩
def Mx(K:aq)(T:String)(x:V)(H:Hp):Prop:=match x with
 |.str _=>T = "str"
 |.int _=>T = "int"
 |.ref p=>(T = "list"/\∃ xs,SqL K H p xs)\/(T = "tuple"/\∃ o,K.lookup p=some o/\o.cls=.type "tuple"/\o.dict=none) \/
   (T = "dict"/\((∃ ah,H p=some (.dK ah))\/∃ ah,H p=some (.dT ah)))\/(T = "set"/\∃ S n,H p=some (.set S n))
 |_=>False
theorem qm{pins:List (Addr×Obj)}{σ:St}{H:Hp}{s:Shared}{T:String}{x:V}{v:Value}(I:Inv X pins σ H s)(r:RelV x v)(ty:Mx X.K T x H) :
  s.TypeIs v T/\∀ a,v=.ref a->∃ ob,s.heap.get? a=some ob/\ob.dict=none:=by
 cases x with
 |str z =>
  obtain⟨t,rfl⟩:=r;cases (show T = "str" from ty);exact⟨typeIs_str s z t,fun _ e=>nomatch e⟩
 |int i =>
  obtain⟨t,rfl⟩:=r;cases (show T = "int" from ty);exact⟨typeIs_int s i t,fun _ e=>nomatch e⟩
 |ref p =>
  cases r;rcases ty with⟨rfl,xs,hq⟩ |⟨rfl,o,hk,hc,hd⟩ |⟨rfl,hk⟩ |⟨rfl,S,n,hk⟩
  ·obtain⟨its,_,pl,_⟩:=I.list hq;refine⟨pl.isList.typeIs,fun a e=>?_⟩;cases e;obtain⟨o,n,e,c,hd,_⟩:=pl;exact⟨o,e,hd⟩
  ·refine⟨⟨o,I.kIn p o hk,hc⟩,fun a e=>?_⟩;cases e;exact⟨o,I.kIn _ o hk,hd⟩
  ·have z:∃ o,s.heap.get? p=some o/\o.ExactDict:=by
    rcases hk with⟨ah,hk⟩ |⟨ah,hk⟩
    ·obtain⟨_,_,_,_,o,_,_,e,ex,_⟩:=I.hok p _ hk;exact⟨o,e,ex⟩
    ·obtain⟨_,_,_,_,o,_,_,e,ex,_⟩:=I.hok p _ hk;exact⟨o,e,ex⟩
   obtain⟨o,e,ex⟩:=z;refine⟨⟨o,e,ex.1⟩,fun a e2=>?_⟩;cases e2;exact⟨o,e,ex.2.1⟩
  ·obtain⟨o,_,_,_,e,ex,_⟩:=I.hok p _ hk;refine⟨⟨o,e,ex.1⟩,fun a e2=>?_⟩;cases e2;exact⟨o,e,ex.2.1⟩
 |_=>exact False.elim ty
def Mj(K:aq)(T:String)(r:V->List V->Hp->VK->Prop)(to:TE):TE:=fun σ H Q=>to σ H fun x H1=>Mx K T x H1/\r x [] H1 Q
def tBM(K:aq)(T:String)(r:V->List V->Hp->VK->Prop)(to:TE)(t:TA):TE:=fun σ H Q=>to σ H fun x H1=>Mx K T x H1/\t σ H1 fun xs H2=>r x xs H2 Q
variable{o e:Expr}{es:List Expr}{to:TE}{t:TA}{name:Str}{cz br:Pos}{T id:String}{r:V->List V->Hp->VK->Prop}
theorem yj(pa:PlainAttrs T)(slot:Slot T name id)(KU:typeOf (.builtin id)=pure (.type "method_descriptor"))(hm:NA X id r)(ho:PE X o to)
  (fm:autoParam (attributeBase o name X.env (eval o X.env)=eval o X.env) aR._auto_1)(gY:autoParam ((cz.endLine==br.line)=true) aR._auto_1):PE X (.Call (.Attribute o name cz) [] [] br) (Mj X.K T r to):=by
 intro pins s σ H Q I h;refine wpAny_Call_method0_late fm gY (aP (ho pins s σ H _ I h) fun v s1 ⟨x,H1,I1,r1,ty,q1⟩=>?_);obtain⟨h1,h2⟩:=qm I1 r1 ty;exact⟨T,id,pa,slot,KU,h1,h2,Calls.callWith_builtin rfl (PySem.evalArgs_none (hm pins s1 σ H1 x [] v [] Q I1 r1 .nil q1))⟩
theorem lf(pa:PlainAttrs T)(slot:Slot T name id)(KU:typeOf (.builtin id)=pure (.type "method_descriptor"))(hm:NA X id r)(ho:PE X o to)(ha:PA X (e::es) t)
  (fm:autoParam (attributeBase o name X.env (eval o X.env)=eval o X.env) aR._auto_1)
  (Kn:autoParam (((backTo br (starEach (e::es) X.env)).all (fun x=>!x.1)&&(backToKw br (keywordEach [] X.env)).all (fun x=>x.1.isSome)
    && decide ((e::es).length+([]:List Keyword).length+(if ([]:List Keyword).isEmpty then 0 else 1)<30))=true) aR._auto_1)
  (gY:autoParam ((cz.endLine==br.line)=true) aR._auto_1)(hs:autoParam (starEach (e::es) X.env=(false,eval e X.env)::starEach es X.env) aR._auto_1)(xb:autoParam ((backTo br (starEach es X.env)).any (·.1)=false) aR._auto_1) :
  PE X (.Call (.Attribute o name cz) (e::es) [] br) (tBM X.K T r to t):=by
 intro pins s σ H Q I h;refine wpAny_Call_method_late fm Kn gY rfl (aP (ho pins s σ H _ I h) fun v s1 ⟨x,H1,I1,r1,ty,q1⟩=>?_);obtain⟨h1,h2⟩:=qm I1 r1 ty;refine⟨T,id,pa,slot,KU,h1,h2,?_⟩;have hA:=ha br pins s1 σ H1 _ I1 q1;rw [hs]at hA ⊢;refine Calls.callWith_builtin (by show(false ||(backTo br (starEach es X.env)).any (·.1))=false;rw [xb]<;>rfl) (Calls.evalArgs_plain ?_)
 exact aP hA fun us s2 ⟨vs,H2,I2,r2,q2⟩=>hm pins s2 σ H2 x vs v us Q I2 r1 r2 q2
end
end L2
namespace L2
open PySem PySem.Spec PyProof.Rows
def Gz(X:Cx)(id:String)(r:V->List V->Hp->VK->Prop):Prop :=
 ∀ (pins:List (Addr×Obj))(s:Shared)(σ:St)(H:Hp)(x:V)(xs:List V)(v:Value)(us:List Value)(Q:VK),Inv X pins σ H s->RelV x v->Vals xs us->r x xs H Q ->
  wpAny (model X.prog X.w) X.A (call (.builtin id) (v::us)) (EP X pins σ Q) X.xe s
theorem Vals.one:∀ {x:V}{us:List Value},Vals [x] us->∃ u,us=[u]/\RelV x u
 |_,_,.cons r .nil=>⟨_,rfl,r⟩
theorem Vals.zero:∀ {us:List Value},Vals [] us->us=[]
 |_,.nil=>rfl
theorem Vals.dropLast{xs:List V}{us:List Value}(h:Vals xs us):Vals xs.dropLast us.dropLast:=by
 induction h with
 |nil=>exact .nil
 |cons r t ih =>
  cases t with
  |nil=>exact .nil
  |cons q t'=>exact .cons r ih
theorem ZaX{α:Type}(l:List α):l.eraseIdx (l.length-1)=l.dropLast:=by
 induction l with
 |nil=>rfl
 |cons a r ih =>
  cases r with
  |nil=>rfl
  |cons b r =>
   have e:(a::b::r).length-1=((b::r).length-1)+1:=by
    have h1:(a::b::r).length=r.length+2:=rfl;have h2:(b::r).length=r.length+1:=rfl;omega
   rw [e,List.eraseIdx_cons_succ,ih]
   all_goals rfl
section
variable{X:Cx}{pins:List (Addr×Obj)}{σ:St}{H:Hp}{s:Shared}{l b:Addr}{xs ys zs:List V}
theorem Inv.lset{its its':List Value}{n:Nat}{f:Array Value->Array Value}{t':Nat}(I:Inv X pins σ H s)(hH:H l=some (.lst xs))
  (e:s.heap.get? l=some { cls:=.type "list",data:=.seq its.toArray n })(hf:f its.toArray=its'.toArray)(hv:Vals ys its')(hz:ys.length<=sizeLine) :
  Inv X pins σ (upd H l (.lst ys)) { s with heap:=s.heap.update l (Obj.mapSeq f),toks:=t' }:=by
 have q:=PySem.IsL.update e f;rw [hf]at q;refine I.write (x:=l) (e:=l) (by rw [hH];exact trivial) (.inl rfl) (fun b' u hb hu=>(jZ s.heap (Obj.mapSeq f) (Ne.symm hb)).trans hu) ⟨_,q⟩ ?_
 exact⟨hz,its',_,hv,q⟩
theorem Inv.lnew{its:List Value}{t':Nat}(I:Inv X pins σ H s)(hv:Vals ys its)(hz:ys.length<=sizeLine) :
  Inv X pins σ (upd H s.heap.objs.size (.lst ys)) { s with heap:=s.heap.push { cls:=.type "list",data:=.seq its.toArray },toks:=t' } :=
 I.laid (fun _ _ q=>dD _ q) (bK _) ⟨hz,its,0,hv,fi _ rfl⟩
theorem Inv.fresh(I:Inv X pins σ H s):H s.heap.objs.size=none:=I.hok.fresh (bK _)
theorem Inv.lstM(I:Inv X pins σ H s)(hH:H l=some (.lst xs)):xs.length<=sizeLine/\∃ (its:List Value)(n:Nat),Vals xs its/\xs.length=its.length/\s.heap.get? l=some { cls:=.type "list",data:=.seq its.toArray n }:=by
 obtain⟨z,its,n,r,e⟩:=I.hok l _ hH;exact⟨z,its,n,r,r.length,e⟩
theorem oJ{n:Nat}(h:n<=sizeLine):Builtin.List.listTooLong n=false:=by
 unfold Builtin.List.listTooLong;exact aw (by omega)
end
section
variable{X:Cx}
def tN:V->List V->Hp->VK->Prop:=fun x vs H Q=>∃ l xs y,x=.ref l/\vs=[y]/\H l=some (.lst xs)/\xs.length<sizeLine/\Q .non (upd H l (.lst (xs++[y])))
theorem Ft:Gz X "list.append" tN:=by
 intro pins s σ H x vs v us Q I rx rv h;obtain⟨l,xs,y,rfl,rfl,hH,hz,q⟩:=h;cases rx;obtain⟨u,rfl,ru⟩:=rv.one;obtain⟨z,its,n,r,hl,e⟩:=I.lstM hH;refine call_meets F.slot_list_append ⟨_,e,rfl⟩ F.entry_list_append (F.args_list_append_2 _ _) (PySem.list_append l its.toArray n u (by rw [fY];omega)) ⟨e,?_⟩
 refine⟨.non,_,I.lset (its':=its++[u]) hH e (by simp) (r.append (.cons ru .nil)) ?_,rfl,q⟩
 rw [gC,E3];omega
def tO:V->List V->Hp->VK->Prop:=fun x vs H Q=>∃ l b xs zs,x=.ref l/\vs=[.ref b]/\H l=some (.lst xs)/\H b=some (.lst zs)/\xs.length+zs.length<=sizeLine/\Q .non (upd H l (.lst (xs++zs)))
theorem z8:Gz X "list.extend" tO:=by
 intro pins s σ H x vs v us Q I rx rv h;obtain⟨l,b,xs,zs,rfl,rfl,hH,hB,hz,q⟩:=h;cases rx;obtain⟨u,rfl,ru⟩:=rv.one;cases ru;obtain⟨z,its,n,r,hl,e⟩:=I.lstM hH;obtain⟨z2,gG,n2,r2,ji,e2⟩:=I.lstM hB;have hsz:its.toArray.size+gG.toArray.size<=sizeLine:=by rw [fY,fY];omega
 have Cd:¬ (!its.toArray.isEmpty&&Builtin.List.listTooLong (its.toArray.size+gG.toArray.size))=true:=by
  rw [oJ hsz,Bool.and_false];exact fh
 refine call_meets F.slot_list_extend ⟨_,e,rfl⟩ F.entry_list_extend (F.args_list_extend_2 _ _)
  (AutoSeq1.list_extend_list_list_0 l its.toArray n b gG.toArray n2 Cd (by rw [fY];omega) (by omega)) ⟨e,e2,?_⟩
 refine⟨.non,_,I.lset (its':=its++gG) hH e (by simp) (r.append r2) ?_,rfl,q⟩
 rw [gC];omega
def LS:V->List V->Hp->VK->Prop:=fun x vs H Q=>∃ l xs y,x=.ref l/\vs=[]/\H l=some (.lst xs)/\xs[xs.length-1]?=some y/\Q y (upd H l (.lst xs.dropLast))
theorem xO:Gz X "list.pop" LS:=by
 intro pins s σ H x vs v us Q I rx rv h;obtain⟨l,xs,y,rfl,rfl,hH,hy,q⟩:=h;cases rx;have CD:=rv.zero;subst CD;obtain⟨z,its,n,r,hl,e⟩:=I.lstM hH;obtain⟨u,hu,ru⟩:=r.get hy;have K8:its.toArray[its.toArray.size-1]?=some u:=by
  show its.toArray[its.length-1]?=some u;rw [<-G8,<-hl];exact hu
 refine call_meets F.slot_list_pop ⟨_,e,rfl⟩ F.entry_list_pop (F.args_list_pop_1 _) (MeetsSeq.list_pop_last l its.toArray n u K8 (by rw [fY];omega)) ⟨e,?_⟩
 refine⟨y,_,I.lset (its':=its.dropLast) hH e ?_ r.dropLast ?_,ru,q⟩
 ·show its.toArray.eraseIdxIfInBounds (its.toArray.size-1)=its.dropLast.toArray;rw [fY,List.eraseIdxIfInBounds_toArray,ZaX]
 ·rw [List.length_dropLast];omega
def LO:R2:=fun x y H Q=>∃ l b xs zs,x=.ref l/\y=.ref b/\H l=some (.lst xs)/\H b=some (.lst zs)/\xs.length+zs.length<=sizeLine/\∀ p,H p=none->Q (.ref p) (upd H p (.lst (xs++zs)))
theorem oS:iB X (binaryOp .Add) LO:=by
 intro pins s σ H x y v u Q I rx ry h;obtain⟨l,b,xs,zs,rfl,rfl,hH,hB,hz,q⟩:=h;cases rx;cases ry;obtain⟨z,its,n,r,hl,e⟩:=I.lstM hH;obtain⟨z2,gG,n2,r2,ji,e2⟩:=I.lstM hB;refine PySem.P.add_list e e2 ?_ (by rw [fY,fY];omega)
 have ea:its.toArray++gG.toArray=(its++gG).toArray:=by simp
 rw [ea];exact⟨.ref _,_,I.lnew (t':=s.toks) (r.append r2) (by rw [gC];omega),rfl,q _ I.fresh⟩
end
section
variable{prog:Program}{w:World}{A:Around}{E:Value->Shared->Prop}{s:Shared}
end
section
variable{X:Cx}
end
end L2
namespace L2
open PySem PySem.Spec PyProof.Rows
theorem Vals.ints:∀ {ns:List Int}{us:List Value},Vals (ns.map V.int) us->IntsAre us ns
 |[],us,h=>by
  rw [List.map_nil]at h;cases h;exact IntsAre.nil
 |n::ns,us,h=>by
  rw [ei]at h;cases h with
  |cons r t =>
   obtain⟨k,rfl⟩:=r;exact IntsAre.cons n k (Vals.ints t)
theorem Vals.ref1{a:Addr}{us:List Value}(r:Vals [V.ref a] us):us=[Value.ref a]:=by
 cases r with
 |cons r t =>
  cases t;cases r;rfl
section
variable{prog:Program}{w:World}{A:Around}{E:Value->Shared->Prop}{s:Shared}{l:Addr}{its:List Value}{ns:List Int}{Q:Value->Shared->Prop}
theorem uf(hh:A.handled=none)(hl:s.heap.IsList l its.toArray)(hi:IntsAre its ns)
  (h:∀ h' tk t',(∀ b o,s.heap.get? b=some o->h'.get? b=some o)->Q (.int ns.sum t') { s with heap:=h',toks:=tk }):wpAny (model prog w) A (call (.builtin "sum") [.ref l]) Q E s:=by
 obtain⟨xs,e⟩:=hi.allInts.items;have hn:numsOf (intItems xs).toList=ns:=by rw [<-e];exact hi.numsOf
 rw [nums_intItems]at hn;rw [e]at hl;refine PySem.sum_intListG hh hl fun h' tk t' hk=>?_;have:=h h' tk t' hk;rw [preSum_eq,List.take_of_length_le (by simp),hn];exact this
end
section
variable{X:Cx}
def DE(K:aq):List V->Hp->VK->Prop:=fun vs H Q=>∃ (a:Addr)(ns:List Int),vs=[V.ref a]/\SqL K H a (ns.map V.int)/\Q (.int ns.sum) H
theorem nG(hc:X.calm=true):jk X (.builtin "sum") (DE X.K):=by
 intro pins s σ H vs us Q I r h;obtain⟨a,ns,rfl,hs,q⟩:=h;obtain⟨its,rv,hl,_⟩:=I.list hs;rw [Vals.ref1 r];exact uf (I.ok.hd hc) hl.isList rv.ints fun h' tk t' hk=>⟨.int _,H,I.kept hk,⟨_,rfl⟩,q⟩
end
section
variable{X:Cx}
end
section
variable{X:Cx}
end
section
variable{X:Cx}
end
section
variable{X:Cx}{pins:List (Addr×Obj)}{σ:St}{H:Hp}{s:Shared}
end
section
variable{X:Cx}
end
end L2
namespace L2
open PySem PySem.Spec PyProof.Rows
abbrev mx(h:Heap)(c:Addr)(v:Option Value):Prop:=h.IsCell c v
def DF(scope sc:Scope):Scope :=
 { scope with names:=scope.names.map fun(n,k)=>if (k==.free&&sc.kind==.function&&sc.names.lookup n==some .cell)then(n,.cell)else(n,k) }
noncomputable def eY(cells:List (Str×Addr)):List (Str×NameKind)->List (Str×Addr)->List (Str×Addr)
 |[],acc=>acc
 |(n,k)::r,acc=>if k==.free then eY cells r ((n,(cells.lookup n).getD 0)::acc)else eY cells r acc
theorem NR(env:Env)(f:Str×NameKind->List (Str×Addr)->Sem (ForInStep (List (Str×Addr))))
  (hf:∀ n k c,f (n,k) c=if k==.free then(do let a <-cellOf env n;pure (.yield ((n,a)::c)))else pure (.yield c)) :
  ∀ (names:List (Str×NameKind))(acc:List (Str×Addr)),(∀ y∈names,y.2=.free->∃ c,env.cells.lookup y.1=some c)->forIn names acc f=pure (eY env.cells names acc)
 |[],acc,_=>by rw [List.forIn_nil];rfl
 |(n,k)::r,acc,h=>by
  rw [List.forIn_cons,hf];have ih:=fun acc=>NR env f hf r acc fun y hy=>h y (dj _ hy);unfold eY;by_cases hk:(k==NameKind.free)=true
  ·rw [ae hk,ae hk];obtain⟨c,hc⟩:=h (n,k) cY (by simpa using hk)
   have e:cellOf env n=pure c:=by unfold cellOf;rw [hc]
   rw [e];have e2:(env.cells.lookup n).getD 0=c:=by rw [hc];rfl
   rw [e2];exact ih _
  ·rw [ac hk,ac hk];exact ih _
theorem HU{scope:Scope}{env:Env}(h:∀ y∈scope.names,y.2=.free->∃ c,env.cells.lookup y.1=some c):closureFor scope env=pure (eY env.cells scope.names []):=by
 simp only [closureFor];rw [NR env _ (fun n k c=>rfl) scope.names [] h];rfl
theorem A5{α:Type}:∀ {l:List (Str×α)}{n:Str}{c:α},(n,c)∈l->∃ c',l.lookup n=some c'
 |(k,v)::r,n,c,h=>by
  rw [bh];cases hb:n==k with
  |true=>exact⟨_,rfl⟩
  |false =>
   rcases bv.mp h with e |h
   ·cases e;simp at hb
   ·exact A5 h
theorem AV{cells:List (Str×Addr)}:∀ {names:List (Str×NameKind)}{acc:List (Str×Addr)}{n:Str}{c:Addr},(n,c)∈eY cells names acc->(n,c)∈acc\/((n,.free)∈names/\c=(cells.lookup n).getD 0)
 |[],_,_,_,h=>.inl h
 |(m,k)::r,acc,n,c,h=>by
  unfold eY at h;split at h
  ·rename_i hk;have hk:k=.free:=by simpa using hk
   rcases AV h with h |⟨h1,h2⟩
   ·rcases bv.mp h with e |h
    ·cases e;exact .inr ⟨hk ▸ cY,rfl⟩
    ·exact .inl h
   ·exact .inr ⟨dj _ h1,h2⟩
  ·rcases AV h with h |⟨h1,h2⟩
   ·exact .inl h
   ·exact .inr ⟨dj _ h1,h2⟩
theorem Im{cells:List (Str×Addr)}:∀ {names:List (Str×NameKind)}{acc:List (Str×Addr)}{p:Str×Addr},p∈acc->p∈eY cells names acc
 |[],_,_,h=>h
 |(m,k)::r,acc,p,h=>by
  unfold eY;split
  ·exact Im (dj _ h)
  ·exact Im h
theorem AX{cells:List (Str×Addr)}:∀ {names:List (Str×NameKind)}{acc:List (Str×Addr)}{n:Str},(n,.free)∈names->(n,(cells.lookup n).getD 0)∈eY cells names acc
 |(m,k)::r,acc,n,h=>by
  unfold eY;rcases bv.mp h with e |h
  ·cases e;exact Im cY
  ·split
   ·exact AX h
   ·exact AX h
theorem AZ:∀ {names:List (Str×NameKind)}{h:Heap}{acc:List (Str×Addr)}{x:Str}{c:Addr},(x,c)∈cellsFrom h.objs.size names acc ->
  (x,c)∈acc\/((x,.cell)∈names/\h.objs.size<=c/\mx (pushCells h names) c none)
 |[],_,_,_,_,h=>.inl h
 |(n,k)::r,h,acc,x,c,hm=>by
  unfold cellsFrom at hm;unfold pushCells;split at hm
  ·rename_i hk;rw [ae hk];have hk:k=.cell:=by simpa using hk
   rw [<-kq h { cls:=.type "cell",data:=.cell none }]at hm;rcases AZ hm with hm |⟨h1,h2,h3⟩
   ·rcases bv.mp hm with e |hm
    ·cases e;exact .inr ⟨hk ▸ cY,bK _,_,fu r _ _ _ (fi _ rfl),rfl⟩
    ·exact .inl hm
   ·rw [kq]at h2;exact .inr ⟨dj _ h1,E4 h2,h3⟩
  ·rename_i hk;rw [ac hk];rcases AZ hm with hm |⟨h1,h2,h3⟩
   ·exact .inl hm
   ·exact .inr ⟨dj _ h1,h2,h3⟩
theorem Fs:∀ {names:List (Str×NameKind)}{n:Nat}{acc:List (Str×Addr)}{p:Str×Addr},p∈acc->p∈cellsFrom n names acc
 |[],_,_,_,h=>h
 |(m,k)::r,n,acc,p,h=>by
  unfold cellsFrom;split
  ·exact Fs (dj _ h)
  ·exact Fs h
theorem IC:∀ {names:List (Str×NameKind)}{n:Nat}{acc:List (Str×Addr)}{x:Str},(x,.cell)∈names->∃ c,(x,c)∈cellsFrom n names acc
 |(m,k)::r,n,acc,x,h=>by
  unfold cellsFrom;rcases bv.mp h with e |h
  ·cases e;exact⟨n,Fs cY⟩
  ·split
   ·exact IC h
   ·exact IC h
theorem IL:∀ {names:List (Str×NameKind)}{h:Heap}{acc:List (Str×Addr)}{x y:Str}{c:Addr},(∀ p∈acc,p.2<h.objs.size)->(∀ x y c,(x,c)∈acc->(y,c)∈acc->x=y) ->
  (x,c)∈cellsFrom h.objs.size names acc->(y,c)∈cellsFrom h.objs.size names acc->x=y
 |[],_,_,_,_,_,_,hi,h1,h2=>hi _ _ _ h1 h2
 |(n,k)::r,h,acc,x,y,c,hl,hi,h1,h2=>by
  unfold cellsFrom at h1 h2;split at h1
  ·rename_i hk;rw [ae hk]at h2;rw [<-kq h { cls:=.type "cell",data:=.cell none }]at h1 h2;refine IL (h:=h.push _) (fun p hp=>?_) (fun x y c a b=>?_) h1 h2
   ·rw [kq];rcases bv.mp hp with rfl |hp
    ·exact EZ _
    ·exact zd (hl p hp)
   ·rcases bv.mp a with e |a<;>rcases bv.mp b with e' |b
    ·cases e;cases e';rfl
    ·cases e;exact absurd (hl _ b) (ik _)
    ·cases e';exact absurd (hl _ a) (ik _)
    ·exact hi _ _ _ a b
  ·rename_i hk;rw [ac hk]at h2;exact IL hl hi h1 h2
theorem NH{M:Model}{A:Around}{E:Value->Shared->Prop}{s:Shared}{scope:Scope}{globals:Addr}{i6:List (Str×Addr)}{qual:Str}{func:Option Addr}{code:Value}{m9:Env}{builtins:Addr}{Q:Env->Shared->Prop}
  (h:Q (newEnv scope s.heap.objs.size globals (cellsFrom (s.heap.objs.size+1) scope.names i6) qual func code (some m9) builtins)
    { s with heap:=pushCells (s.heap.push { cls:=.type "dict",data:=.dict #[] }) scope.names }) :
  wpAny M A (newFunctionEnv scope globals i6 [] qual func code (some m9) builtins) Q E s:=by
 simp only [newFunctionEnv,Option.isSome_some,cr];refine aa (wpAny_alloc ?_);refine aa (wpAny_layCells _ (fun n k c=>rfl) scope.names i6 _ _ ?_);rw [show({ s with heap:=s.heap.push { cls:=.type "dict",data:=.dict #[] } }:Shared).heap.objs.size=s.heap.objs.size+1 from kq ..]
 rw [List.forIn_nil];exact aa (af (af h))
theorem Il{sc:Scope}:∀ {names:List (Str×NameKind)}{x:Str}{k:NameKind},
  (names.map fun(n,k)=>if (k==NameKind.free&&sc.kind==.function&&sc.names.lookup n==some .cell)then(n,NameKind.cell)else(n,k)).lookup x=some k ->
  ∃ k',names.lookup x=some k'/\(k=k'\/(k'=.free/\k=.cell))
 |[],_,_,h=>by simp at h
 |(n,k₀)::r,x,k,h=>by
  have ih:=@Il sc r x k;have h':List.lookup x ((if (k₀==NameKind.free&&sc.kind==.function&&sc.names.lookup n==some .cell)=true then(n,NameKind.cell)else(n,k₀))::(r.map _))=some k:=h;cases hx:x==n with
  |true =>
   simp only [bh,hx];by_cases hc:(k₀==NameKind.free&&sc.kind==.function&&sc.names.lookup n==some .cell)=true
   ·rw [ae hc]at h';simp only [bh,hx]at h';cases h';simp only [iZ,aG]at hc;exact⟨k₀,rfl,.inr ⟨hc.1.1,rfl⟩⟩
   ·rw [ac hc]at h';simp only [bh,hx]at h';cases h';exact⟨_,rfl,.inl rfl⟩
  |false =>
   simp only [bh,hx];by_cases hc:(k₀==NameKind.free&&sc.kind==.function&&sc.names.lookup n==some .cell)=true
   ·rw [ae hc]at h';simp only [bh,hx]at h';exact ih h'
   ·rw [ac hc]at h';simp only [bh,hx]at h';exact ih h'
structure cX(N:List Str)(sc scope:Scope)(own:List (Str×Nat)):Prop where
 kind:scope.kind=.function
 uniq:∀ y∈scope.names,scope.names.lookup y.1=some y.2
 ix:∀ p∈own,N[p.2]?=some p.1
 free:∀ y∈scope.names,y.2=.free->sc.names.lookup y.1=some .cell\/sc.names.lookup y.1=some .free
 own:∀ y∈scope.names,y.2=.local\/y.2=.cell->y.1∈own.map (·.1)\/y.1∉N
def bV(σ:St):List Nat->St
 |[]=>σ
 |v::vs=>(bV σ vs).set v none
theorem Fd(σ:St):∀ vs:List Nat,(bV σ vs).length=σ.length
 |[]=>rfl
 |v::vs=>by unfold bV;rw [List.length_set,Fd σ vs]
theorem Fq{σ:St}{i:Nat}{x:V}:∀ {vs:List Nat},(bV σ vs)[i]?=some (some x)->σ[i]?=some (some x)/\i∉vs
 |[],h=>⟨h,by simp⟩
 |v::vs,h=>by
  unfold bV at h;by_cases hi:v=i
  ·subst hi;by_cases hv:v<(bV σ vs).length
   ·rw [AN hv]at h;cases h
   ·rw [G9 (by simpa using hv)]at h;cases h
  ·rw [EW hi]at h;obtain⟨h1,h2⟩:=Fq h;exact⟨h1,by simp only [bv,b8];exact⟨fun e=>hi e.symm,h2⟩⟩
abbrev Cx.blk(X:Cx)(s:Shared)(H:Hp)(scope:Scope)(ci:Env)(fp:List Addr):Cx:={ X with s_0:=s,H_0:=H,env:=ci,outer:=X.stack,ex:=fp,fn:=fun x=>scope.names.lookup x==some .cell,pn:=[],xe:=fun _ _=>False }
section
variable{X:Cx}{pins:List (Addr×Obj)}{σ:St}{H:Hp}{s:Shared}
theorem NJ{scope:Scope}{own:List (Str×Nat)}{fp:List Addr}(I:Inv X pins σ H s)(ok:cX X.N X.env.scope scope own)(hN:X.N.Nodup)(zQ:∀ b∈fp,eJ X pins H b/\b<s.heap.objs.size) :
  Inv (X.blk s H scope (compEnvC scope (cellsFrom (s.heap.objs.size+1) scope.names (eY X.env.cells scope.names [])) s.heap.objs.size X.env) fp) [] (bV σ (own.map (·.2))) H { s with heap:=pushCells (s.heap.push { cls:=.type "dict",data:=.dict #[] }) scope.names }:=by
 have eD:∀ y∈scope.names,y.2=.free->∃ c,X.env.cells.lookup y.1=some c:=fun y hy e=>by
  rcases ok.free y hy e with k |k
  ·exact I.ok.has _ (.inl k)
  ·exact I.ok.has _ (.inr k)
 generalize ju:compEnvC scope (cellsFrom (s.heap.objs.size+1) scope.names (eY X.env.cells scope.names [])) s.heap.objs.size X.env=ci;have kp:∀ b o,s.heap.get? b=some o->(pushCells (s.heap.push { cls:=.type "dict",data:=.dict #[] }) scope.names).get? b=some o:=fun b o e=>fu _ _ _ _ (dD _ e);have hL:ci.locals=s.heap.objs.size:=by rw [<-ju];rfl
 have oh:ci.cells=cellsFrom (s.heap.objs.size+1) scope.names (eY X.env.cells scope.names []):=by rw [<-ju];rfl
 have KR:ci.scope=DF scope X.env.scope:=by rw [<-ju];rfl
 rw [<-kq s.heap { cls:=.type "dict",data:=.dict #[] }]at oh;have cm:∀ {y c},(y,c)∈eY X.env.cells scope.names []->X.env.cells.lookup y=some c/\c<s.heap.objs.size:=fun{y c} hm=>by
  rcases AV hm with hm |⟨h1,rfl⟩
  ·cases hm
  ·obtain⟨c,hc⟩:=eD _ h1 rfl;rw [hc];obtain⟨w,z⟩:=I.cell _ _ hc;exact⟨rfl,z.lt⟩
 have mem:∀ {y c},ci.cells.lookup y=some c->(X.env.cells.lookup y=some c/\c<s.heap.objs.size)\/(s.heap.objs.size+1<=c/\mx (pushCells (s.heap.push { cls:=.type "dict",data:=.dict #[] }) scope.names) c none):=fun{y c} e=>by
  rw [oh]at e;rcases AZ (PySem.mem_of_lookup e)with hm |⟨_,h2,h3⟩
  ·exact .inl (cm hm)
  ·rw [kq]at h2;exact .inr ⟨h2,h3⟩
 have look:∀ {y},scope.names.lookup y=some .free->∃ c,ci.cells.lookup y=some c/\X.env.cells.lookup y=some c:=fun{y} hl=>by
  have hy:(y,NameKind.free)∈scope.names:=PySem.mem_of_lookup hl;obtain⟨c',e'⟩:=A5 (Fs (names:=scope.names) (n:=(s.heap.push { cls:=.type "dict",data:=.dict #[] }).objs.size) (AX (cells:=X.env.cells) (acc:=[]) hy));rw [<-oh]at e';refine⟨c',e',?_⟩;rw [oh]at e';rcases AZ (PySem.mem_of_lookup e')with hm |⟨h1,_,_⟩
  ·exact(cm hm).1
  ·have:=ok.uniq _ h1;rw [hl]at this;cases this
 have okB:(X.blk s H scope ci fp).Ok:=by
  refine⟨I.ok.mod,by show ci.scope.kind=_;rw [KR];exact ok.kind,by show ci.globals=_;rw [<-ju];exact I.ok.glob,by show ci.builtins=_;rw [<-ju];exact I.ok.blt,by show s.heap.objs.size<=ci.locals;rw [hL];exact bK _,
   fun y z c e1 e2=>?_,fun y hy=>?_,fun y c z e=>?_,I.ok.hd,I.ok.frames,.inl rfl,fun b hb=>⟨?_,fun y c e z=>?_⟩,I.bs,iD I.ok.bsz I.sz,fun b o e hb=>?_,fun b hb z=>?_,I.stack,I.stkFree⟩
  ·have e1:ci.cells.lookup y=some c:=e1;have e2:ci.cells.lookup z=some c:=e2;rw [oh]at e1 e2;refine IL (fun p hp=>?_) (fun y z c a b=>I.ok.inj y z c (cm a).1 (cm b).1) (PySem.mem_of_lookup e1) (PySem.mem_of_lookup e2);rw [kq];exact zd (cm (y:=p.1) (c:=p.2) hp).2
  ·show ∃ c,ci.cells.lookup y=some c;have key:∀ k,ci.kindOf y=some k->(k=.cell\/k=.free)->∃ c,ci.cells.lookup y=some c:=fun k hk zR=>by
    unfold Env.kindOf at hk;rw [KR]at hk;obtain⟨k',e,r⟩:=Il hk;have:k'=.cell\/k'=.free:=by
     rcases r with rfl |⟨rfl,_⟩
     ·exact zR
     ·exact .inr rfl
    rcases this with rfl |rfl
    ·obtain⟨c,hm⟩:=IC (n:=(s.heap.push { cls:=.type "dict",data:=.dict #[] }).objs.size) (acc:=eY X.env.cells scope.names []) (PySem.mem_of_lookup e);obtain⟨c',e'⟩:=A5 hm;exact⟨c',by rw [oh];exact e'⟩
    ·obtain⟨c,h1,_⟩:=look e;exact⟨c,h1⟩
   rcases hy with hy |hy
   ·exact key _ hy (.inl rfl)
   ·exact key _ hy (.inr rfl)
  ·have z:(scope.names.lookup y==some NameKind.cell)=true:=z;have z:scope.names.lookup y=some .cell:=by simpa using z
   have e:ci.cells.lookup y=some c:=e;rw [oh]at e;rcases AZ (PySem.mem_of_lookup e)with hm |⟨_,h2,_⟩
   ·rcases AV hm with hm |⟨h1,_⟩
    ·cases hm
    ·have q:=ok.uniq _ h1;rw [z]at q;cases q
   ·rw [kq]at h2;exact E4 h2
  ·show b≠ci.locals;rw [hL];exact eF (zQ b hb).2
  ·have e:ci.cells.lookup y=some c:=e;rcases mem e with⟨h1,_⟩ |⟨h1,_⟩
   ·exact(zQ b hb).1.2.2.2.2.1 y c h1 z
   ·have h2:s.heap.objs.size+1<=b:=by rw [<-z];exact h1
    exact absurd (iC (zQ b hb).2 (E4 h2)) (ik _)
  ·rcases(zQ b hb).1.2.2.2.1 with z |z
   ·exact I.ok.noex b o e z
   ·exact absurd (iC (cy e) (iD I.ok.bsz z)) (ik _)
  ·rcases bv.mp (I.stkSub b z)with z |z
   ·exact(zQ b hb).1.2.1 z
   ·exact(zQ b hb).1.2.2.1 z
 refine⟨okB,rfl,I.bare,Un.kept kp,⟨fun _=>none,?_,fun i y av e1 e2 e3=>?_⟩,fun y c e=>?_,?_,fun y c e=>?_,fun p hp=>?_,I.hok.kept kp,by rw [Fd];exact I.len⟩
 ·show Heap.Ns _ ci.locals _;rw [hL];exact Heap.Ns.keeps (Heap.Ns.new ..) fun b o e=>fu _ _ _ _ e
 ·obtain⟨e2,bQ⟩:=Fq e2;have cK:scope.names.lookup y=some .free/\(ci.kindOf y=some .cell\/ci.kindOf y=some .free):=by
   have key:∀ k,ci.scope.names.lookup y=some k->k=.local\/k=.cell\/k=.free->scope.names.lookup y=some .free/\(ci.kindOf y=some .cell\/ci.kindOf y=some .free):=fun k hk zR=>by
    have Cc:=hk;rw [KR]at hk;obtain⟨k',e,r⟩:=Il hk;have no:¬ (k'=.local\/k'=.cell):=fun hh=>by
     rcases ok.own _ (PySem.mem_of_lookup e) hh with e' |e'
     ·obtain⟨p,hp,hpy⟩:=i3.mp e';have e3:=ok.ix p hp;have:p.1=y:=hpy;rw [this]at e3;exact bQ (i3.mpr ⟨p,hp,Ix hN e3 e1⟩)
     ·exact e' (gK e1)
    rcases r with rfl |⟨rfl,rfl⟩
    ·rcases zR with rfl |rfl |rfl
     ·exact absurd (.inl rfl) no
     ·exact absurd (.inr rfl) no
     ·exact⟨e,.inr Cc⟩
    ·exact⟨e,.inl Cc⟩
   have e3:za ci.scope y:=e3;rcases e3 with e3 |e3 |e3
   ·exact key _ e3 (.inl rfl)
   ·exact key _ e3 (.inr (.inl rfl))
   ·exact key _ e3 (.inr (.inr rfl))
  obtain⟨m,hn,hl⟩:=I.loc;have K0:za X.env.scope y:=(ok.free _ (PySem.mem_of_lookup cK.1) rfl).elim (fun k=>.inr (.inl k)) (fun k=>.inr (.inr k));obtain⟨w,r,q⟩:=hl i y av e1 e2 K0;refine⟨w,r,.inr ⟨cK.2,?_⟩⟩;obtain⟨c,h1,h2⟩:=look cK.1;rcases q with⟨k,_⟩ |⟨_,c',e',z⟩
  ·have k:X.env.scope.names.lookup y=some .local:=k;rcases ok.free _ (PySem.mem_of_lookup cK.1) rfl with k' |k'<;>rw [show X.env.scope.names.lookup y=_ from k']at k<;>cases k
  ·rw [h2]at e';cases e';exact⟨c,h1,z.keeps kp⟩
 ·have e:ci.cells.lookup y=some c:=e;rcases mem e with⟨h1,_⟩ |⟨_,z⟩
  ·obtain⟨w,z⟩:=I.cell y c h1;exact⟨w,z.keeps kp⟩
  ·exact⟨_,z⟩
 ·show H ci.locals=none;rw [hL];exact I.hok.fresh (bK _)
 ·have e:ci.cells.lookup y=some c:=e;rcases mem e with⟨h1,_⟩ |⟨h1,_⟩
  ·exact I.freeC y c h1
  ·exact I.hok.fresh (E4 h1)
 ·exact absurd (show p∈([]:List (Addr×Obj))++[]from hp) (by simp)
theorem mX{E:Value->Shared->Prop}{D:Addr}{xs:List V}{y:V}{v:Value}{Q:Value->Shared->Prop}(I:Inv X pins σ H s)(hD:H D=some (.lst xs))(hz:xs.length<sizeLine)(r:RelV y v)
  (h:∀ s',Inv X pins σ (upd H D (.lst (xs++[y]))) s'->Q .none s'):wpAny (model X.prog X.w) X.A (call (.builtin "list.append") [.ref D,v]) Q E s:=by
 obtain⟨vc,its,n,ri,e⟩:=I.hok D _ hD;have hl:=ri.length;refine append_at (hsz:=by rw [fY];omega) e fun h' sb kR=>?_
 refine h { s with heap:=h' } (I.write (t':=s.toks) (by rw [hD];trivial) (.inl rfl) (fun b u hb q=>(sb.2 b hb).trans q) ⟨_,kR⟩ ⟨by rw [gC];exact hz,its++[v],n+1,ri.append (.cons r .nil),?_⟩)
 rw [kR];simp
def y9(X:Cx)(ff:List Expr)(t:TT):Prop :=
 ∀ (pins:List (Addr×Obj))(s:Shared)(σ:St)(H:Hp)(Q:Bool->Hp->Prop),Inv X pins σ H s->t σ H Q ->
  wpAny (model X.prog X.w) X.A (forIn ff true fun c r=>if r=true then do let ok <-isTrue c X.env (eval c X.env);pure (ForInStep.yield ok)else pure (ForInStep.yield r)) (TP X pins σ Q) X.xe s
def Mv:TT:=fun _ H Q=>Q true H
theorem mQ:y9 X [] Mv:=fun _ _ _ H _ I h=>wpAny_tests_nil ⟨H,I,h⟩
end
theorem jg{α:Type}{t:Sem α}{Q Q':α->Shared->Prop}{M:Model}{A:Around}{E:Value->Shared->Prop}{s:Shared}(h:wpAny M A t Q (fun _ _=>False) s)(hQ:∀ a s,Q a s->Q' a s):wpAny M A t Q' E s:=ax h hQ fun _ _ z=>False.elim z
theorem NQ{prog:Program}{w:World}{A:Around}{R:Result->Shared->Prop}{s:Shared}{fb gj iter:Expr}{ff:List Expr}{scope:Scope}{pos:Pos}{it acc:Value}{env:Env}(I:Nat->Shared->Prop)
  (turn:∀ n s,I n s->wpAny (model prog w) A (pyNext it) (fun r s₁=>match r with
    |none=>R (.ok .next) s₁
    |some v=>wpAny (model prog w) A (letOwnedTupleGo gj it v) (fun _ RF=>wpAny (model prog w) A (assign gj env v) (fun _ s₂ =>
      wpAny (model prog w) A (forIn ff true fun c r=>if r=true then do let ok <-isTrue c env (eval c env);pure (ForInStep.yield ok)else pure (ForInStep.yield r)) (fun ok s₃ =>
       if ok=true then wpAny (model prog w) A (eval fb env) (fun x s₄ =>
        wpAny (model prog w) A (call (.builtin "list.append") [acc,x]) (fun _ s₅=>∃ m,m<n/\I m s₅) (notedBy (model prog w) A env fun e s'=>R (.error e) s') s₄) (notedBy (model prog w) A env fun e s'=>R (.error e) s') s₃
       else ∃ m,m<n/\I m s₃) (notedBy (model prog w) A env fun e s'=>R (.error e) s') s₂) (notedBy (model prog w) A env fun e s'=>R (.error e) s') RF) (notedBy (model prog w) A env fun e s'=>R (.error e) s') s₁) (notedBy (model prog w) A env fun e s'=>R (.error e) s') s)
  (n:Nat)(h:I n s) :
  codeAny (model prog w) A (.compLoop (.ListComp fb [⟨gj,iter,ff,0⟩] scope pos) 0 it acc env) R s:=by
 refine codeAny_loop rfl I (fun n s hI=>?_) n h;show wpAny _ A ((compTurn (.ListComp fb [⟨gj,iter,ff,0⟩] scope pos) 0 it acc env).onRaise (fun x=>do noteFrame x env;theTreesLotGoes x)) _ _ s
 refine wpAny_noted ?_;rw [compTurn_list];refine aa (bo (aa (ax (turn n s hI) (fun r s₁ h₁=>?_) fun _ _ h'=>h')));cases r with
 |none=>exact af h₁
 |some v =>
  refine aa (ax h₁ (fun _ RF h₁'=>?_) fun _ _ h'=>h');refine aa (ax h₁' (fun _ s₂ h₂=>aa (ax h₂ (fun ok s₃ h₃=>?_) fun _ _ h'=>h')) fun _ _ h'=>h');cases ok with
  |false=>exact af ⟨rfl,h₃⟩
  |true =>
   exact aa (aa (ax h₃ (fun x s₄ h₄=>aa (ax h₄ (fun _ s₅ h₅=>af (af ⟨rfl,h₅⟩)) fun _ _ h'=>h')) fun _ _ h'=>h'))
section
variable{X:Cx}
def yO(wi:TI)(g:TG)(tt:TT)(te:TE)(vs:List Nat):TE:=fun σ H Q=>wi σ H fun J H1=>∀ D,H1 D=none->∃ W:Nat->Nat->Hp->Prop,(∃ m,W 0 m (upd H1 D (.lst [])))/\∀ i m H,W i m H ->
 (J.stop i H/\Q (.ref D) H)\/(J.go i H/\∃ Nx:Hp->Prop,(∀ H',Nx H'->∃ m',m' < m/\W (i+1) m' H')/\∀ x H',J.yld i H x H'->g x (bV σ vs) H' fun σ2 H2=>bV σ2 vs=bV σ vs/\tt σ2 H2 fun b H3 =>
   if b=true then te σ2 H3 fun y H4=>∃ acc,H4 D=some (.lst acc)/\acc.length<sizeLine/\Nx (upd H4 D (.lst (acc++[y])))else Nx H3)
theorem Px{pins:List (Addr×Obj)}{s:Shared}{σ:St}{H:Hp}{Q:VK}{fb tg iter:Expr}{ff:List Expr}{scope:Scope}{own:List (Str×Nat)}{pos eW:Pos}{wi:TI}{g:TG}{tt:TT}{te:TE}{use:Option (Value->Sem Unit)}{Qf:Value->Shared->Prop}
  (hc:X.calm=true)(hN:X.N.Nodup)(I:Inv X pins σ H s)(hi:PI X tg iter wi)(ok:cX X.N X.env.scope scope own)
  (hg:∀ (s:Shared)(H:Hp)(C:Addr)(cl:List (Str×Addr))(fp:List Addr),PG (X.blk s H scope (compEnvC scope cl C X.env) fp) tg g)(ht:∀ (s:Shared)(H:Hp)(C:Addr)(cl:List (Str×Addr))(fp:List Addr),y9 (X.blk s H scope (compEnvC scope cl C X.env) fp) ff tt)
  (he:∀ (s:Shared)(H:Hp)(C:Addr)(cl:List (Str×Addr))(fp:List Addr),PE (X.blk s H scope (compEnvC scope cl C X.env) fp) fb te)(hs:∀ x,foldedSetIterable iter X.env x=pure x)
  (h:yO wi g tt te (own.map (·.2)) σ H Q)
  (J4:∀ D C s' m H',Inv X pins σ H' s'->Q (.ref D) H'->s'.heap.Ns C m->eJ X pins H' C->compPost (model X.prog X.w) X.A X.xe use Qf (.ref D) C (.ok .next) s') :
  wpAny (model X.prog X.w) X.A (comprehension (.ListComp fb [⟨tg,iter,ff,0⟩] scope pos) scope X.env eW (newList []) false (eval iter X.env) use) Qf X.xe s:=by
 have eD:∀ y∈scope.names,y.2=.free->∃ c,X.env.cells.lookup y.1=some c:=fun y hy e=>by
  rcases ok.free y hy e with k |k
  ·exact I.ok.has _ (.inl k)
  ·exact I.ok.has _ (.inr k)
 refine wpAny_comprehension_free (use:=use) rfl hs (HU eD) ok.kind (fun y hy e=>by rw [ok.uniq y hy,e])
  (aP (hi pins s σ H _ I h) fun xv s1 hx=>aP hx fun F1 s2 h2=>?_)
 obtain⟨it,fp,tn,J,H2,e,I2,T,ub,f2,q⟩:=h2;subst e;refine aA (NH ?_) (by show 0<=sizeLine;decide)
 generalize hD:s2.heap.objs.size=D;have JW:H2 D=none:=I2.hok.fresh (vT hD);obtain⟨W,⟨m0,w0⟩,turn⟩:=q D JW;generalize hs3:({ s2 with heap:=s2.heap.push { cls:=.type "list",data:=.seq ([]:List Value).toArray } }:Shared)=s3
 have I3:Inv X pins σ (upd H2 D (.lst [])) s3:=by
  rw [<-hs3];refine I2.laid (t':=s2.toks) (fun b o e=>dD _ e) (vT hD) ⟨fj _,[],0,.nil,?_⟩;rw [<-hD];exact fi _ rfl
 have h3:s3.heap=s2.heap.push { cls:=.type "list",data:=.seq ([]:List Value).toArray }:=by rw [<-hs3]
 have sz:∀ b∈fp,b<s2.heap.objs.size:=fun b hb=>by
  obtain⟨o,e,_⟩:=T.obj _ _ ub b hb;exact cy e
 have f3:∀ b∈fp,eJ X pins (upd H2 D (.lst [])) b/\b<s3.heap.objs.size:=fun b hb=>by
  have cc:=sz b hb;refine⟨⟨?_,(f2 b hb).2⟩,by rw [h3,kq];exact zd cc⟩
  rw [aj (by rw [<-hD];exact eF cc)]
  exact(f2 b hb).1
 have Ai:tn 0 s3.heap:=T.keep _ _ _ ub fun b _ o e=>by rw [h3];exact dD _ e
 have I4:=NJ I3 ok hN f3;have pg:=hg s3 (upd H2 D (.lst [])) s3.heap.objs.size (cellsFrom (s3.heap.objs.size+1) scope.names (eY X.env.cells scope.names [])) fp;have pt:=ht s3 (upd H2 D (.lst [])) s3.heap.objs.size (cellsFrom (s3.heap.objs.size+1) scope.names (eY X.env.cells scope.names [])) fp;have pe:=he s3 (upd H2 D (.lst [])) s3.heap.objs.size (cellsFrom (s3.heap.objs.size+1) scope.names (eY X.env.cells scope.names [])) fp;show codeAny _ _ (.compStart (.ListComp fb [⟨tg,iter,ff,0⟩] scope pos) 0 (.ref it) (.ref D) (compEnvC scope (cellsFrom (s3.heap.objs.size+1) scope.names (eY X.env.cells scope.names [])) s3.heap.objs.size X.env)) (compPost (model X.prog X.w) X.A X.xe use Qf (.ref D) s3.heap.objs.size) { s3 with heap:=pushCells (s3.heap.push { cls:=.type "dict",data:=.dict #[] }) scope.names }
 have De:∀ b∈fp,(upd H2 D (.lst [])) b=none:=fun b hb=>(f3 b hb).1.1;generalize zN:compEnvC scope (cellsFrom (s3.heap.objs.size+1) scope.names (eY X.env.cells scope.names [])) s3.heap.objs.size X.env=ce at I4 pg pt pe ⊢;have cL:ce.locals=s3.heap.objs.size:=by subst zN;rfl
 generalize lN:upd H2 D (.lst [])=H3 at I3 I4 pg pt pe w0 De f3;generalize KQ:({ s3 with heap:=pushCells (s3.heap.push { cls:=.type "dict",data:=.dict #[] }) scope.names }:Shared)=s4 at I4 ⊢
 have Ee:tn 0 s4.heap:=T.keep _ _ _ Ai fun b _ o e=>by rw [<-KQ];exact fu _ _ _ _ (dD _ e)
 have ic:∀ {σ':St}{H':Hp}{s':Shared},Inv (X.blk s3 H3 scope ce fp) [] σ' H' s'->(∀ b∈fp,H' b=none)->∀ b∈fp,eJ (X.blk s3 H3 scope ce fp) [] H' b:=fun{σ' H' s'} I' hn b hb =>
  ⟨hn b hb,(I'.ok.exf b hb).1,I'.ok.exfs b hb,.inl hb,fun x c e=>(I'.ok.exf b hb).2 x c e,fun p hp=>absurd (show p∈([]:List (Addr×Obj))++[]from hp) (by simp)⟩
 have oE:codeAny (model X.prog X.w) X.A (.compLoop (.ListComp fb [⟨tg,iter,ff,0⟩] scope pos) 0 (.ref it) (.ref D) ce) (compPost (model X.prog X.w) X.A X.xe use Qf (.ref D) s3.heap.objs.size) s4:=by
  refine NQ (fun n s'=>∃ i H',Inv (X.blk s3 H3 scope ce fp) [] (bV σ (own.map (·.2))) H' s'/\tn i s'.heap/\(∀ b∈fp,H' b=none)/\W i n H') ?_ m0 ⟨0,H3,I4,Ee,De,w0⟩;rintro n s5 ⟨i,H5,I5,uc,n5,w5⟩;rcases turn i n H5 w5 with⟨stop,qq⟩ |⟨go,Nx,hNx,step⟩
  ·have td:=T.done (X.blk s3 H3 scope ce fp) rfl rfl rfl hc i [] s5 _ H5 (fun _ _=>False) I5 (ic I5 n5) uc stop;refine jg td fun r s6 ⟨hr,I6⟩=>?_;subst hr;have I7:Inv X pins σ H5 s6:=I3.call' (ch:=fp) I6.os I6.base I6.hok I6.bare fun b hb=>⟨(f3 b hb).1.2.2.2.1,(f3 b hb).1.2.1,(f3 b hb).1.2.2.2.2.1,(f3 b hb).1.2.2.2.2.2⟩;have nC:H5 s3.heap.objs.size=none:=by
    have z:H5 ce.locals=none:=I6.free;rw [cL]at z;exact z
   obtain⟨m,hn,_⟩:=I6.loc;have hn:s6.heap.Ns ce.locals m:=hn;rw [cL]at hn;exact J4 D s3.heap.objs.size s6 m H5 I7 qq hn (I3.fpOk (bK _) nC)
  ·have ti:=T.item (X.blk s3 H3 scope ce fp) rfl rfl rfl hc i [] s5 _ H5 (fun _ _=>False) I5 (ic I5 n5) uc go;refine jg ti fun r s6 ⟨u,hr,h6⟩=>?_;subst hr;refine jg h6 fun _ s7 zz=>?_;obtain⟨x,H7,I7,r7,y7,yI,n7⟩:=zz;have Gu:=I7.pinned (ic I7 n7) (T.obj _ _ yI);refine jg (pg _ s7 _ H7 x u _ Gu r7 (step x H7 y7)) fun _ s8 ⟨σ8,H8,I8,CG,q8⟩=>?_;refine jg (pt _ s8 σ8 H8 _ I8 q8) fun b s9 ⟨H9,I9,q9⟩=>?_;have fin:∀ {s':Shared}{H':Hp},Inv (X.blk s3 H3 scope ce fp) ([]++zx fp s7.heap) σ8 H' s'->Nx H'->∃ m,m<n/\∃ i H',Inv (X.blk s3 H3 scope ce fp) [] (bV σ (own.map (·.2))) H' s'/\tn i s'.heap/\(∀ b∈fp,H' b=none)/\W i m H':=fun{s' H'} I' nx=>by
    obtain⟨m',hm,w'⟩:=hNx H' nx;have pw:∀ b∈fp,∀ o,s7.heap.get? b=some o->s'.heap.get? b=some o/\H' b=none:=fun b hb o e =>
     let z:=I'.pin (b,o) (ko _ (ko _ (Ff hb e)))
     ⟨z.1,z.2.1⟩
    have hl:(bV σ (own.map (·.2))).length=σ8.length:=by rw [<-CG,Fd]
    refine⟨m',hm,i+1,H',(I'.unpinned (pins:=[])).weak hl (fun j v e=>?_),T.keep _ _ _ yI fun b hb o e=>(pw b hb o e).1,fun b hb=>?_,w'⟩
    ·rw [<-CG]at e;exact(Fq e).1
    ·obtain⟨o,e,_⟩:=T.obj _ _ yI b hb;exact(pw b hb o e).2
   cases b with
   |false =>
    simp only [AB,bu]at q9 ⊢;exact fin I9 q9
   |true =>
    simp only [cr]at q9 ⊢;refine jg (pe _ s9 σ8 H9 _ I9 q9) fun z s10 zz=>?_;obtain⟨yv,H10,Ao,LL,acc,wL,xq,nx⟩:=zz;exact mX (X:=X.blk s3 H3 scope ce fp) Ao wL xq LL fun s11 Ap=>fin Ap nx
 exact codeAny_compStart_list oE (T.self X.A 0 _ _ _ Ee oE)
theorem iR{fb tg iter:Expr}{ff:List Expr}{scope:Scope}{own:List (Str×Nat)}{pos:Pos}{wi:TI}{g:TG}{tt:TT}{te:TE}(hc:X.calm=true)(hN:X.N.Nodup)(hi:PI X tg iter wi)(ok:cX X.N X.env.scope scope own)
  (hg:∀ (s:Shared)(H:Hp)(C:Addr)(cl:List (Str×Addr))(fp:List Addr),PG (X.blk s H scope (compEnvC scope cl C X.env) fp) tg g)(ht:∀ (s:Shared)(H:Hp)(C:Addr)(cl:List (Str×Addr))(fp:List Addr),y9 (X.blk s H scope (compEnvC scope cl C X.env) fp) ff tt)
  (he:∀ (s:Shared)(H:Hp)(C:Addr)(cl:List (Str×Addr))(fp:List Addr),PE (X.blk s H scope (compEnvC scope cl C X.env) fp) fb te)(hs:autoParam (∀ x,foldedSetIterable iter X.env x=pure x) aI._auto_1) :
  PE X (.ListComp fb [⟨tg,iter,ff,0⟩] scope pos) (yO wi g tt te (own.map (·.2))):=by
 intro pins s σ H Q I h;rw [eval_ListComp];refine Px hc hN I hi ok hg ht he hs h fun D C s' m H' I' q hn f=>⟨m,hn,fun mh sb=>?_⟩;obtain⟨f0,f1,f2,f3,f4,f5⟩:=f;exact⟨.ref D,H',I'.turned (t':=s'.toks) (fun b o hb e=>(sb.2 b hb).trans e) f0 f1 f3 f4 f5,rfl,q⟩
theorem Pa{i:Nat}{y:Str}{py:Pos}{fb tg iter:Expr}{ff:List Expr}{scope:Scope}{own:List (Str×Nat)}{pos qi:Pos}{wi:TI}{g:TG}{tt:TT}{te:TE}(hc:X.calm=true)(hN:X.N.Nodup)(hy:X.N[i]?=some y)(CJ:X.env.scope.names.lookup y=some .local)
  (u9:swapsWith (.ListComp fb [⟨tg,iter,ff,0⟩] scope pos) (some (.Name y py)) qi.line X.env=pure true)(hi:PI X tg iter wi)(ok:cX X.N X.env.scope scope own)
  (hg:∀ (s:Shared)(H:Hp)(C:Addr)(cl:List (Str×Addr))(fp:List Addr),PG (X.blk s H scope (compEnvC scope cl C X.env) fp) tg g)(ht:∀ (s:Shared)(H:Hp)(C:Addr)(cl:List (Str×Addr))(fp:List Addr),y9 (X.blk s H scope (compEnvC scope cl C X.env) fp) ff tt)
  (he:∀ (s:Shared)(H:Hp)(C:Addr)(cl:List (Str×Addr))(fp:List Addr),PE (X.blk s H scope (compEnvC scope cl C X.env) fp) fb te)(hs:autoParam (∀ x,foldedSetIterable iter X.env x=pure x) aI._auto_1) :
  PS X (.Assign [.Name y py] (.ListComp fb [⟨tg,iter,ff,0⟩] scope pos) qi) (ug (yO wi g tt te (own.map (·.2))) (iH i)):=by
 intro pins s σ H D I h;rw [exec_Assign_Name_used _ _ _ _ u9];refine aa (bo (aa ?_));show wpAny _ X.A (do let _ <-comprehension (.ListComp fb [⟨tg,iter,ff,0⟩] scope pos) scope X.env (firstIterPos [⟨tg,iter,ff,0⟩] pos) (newList []) false (eval iter X.env) (some (assign (.Name y py) X.env))) _ _ s
 have h:yO wi g tt te (own.map (·.2)) σ H (fun x H1=>iH i x σ H1 D.nx):=h;refine aa (aP (Px (Qf:=fun _ s'=>SP X pins D .next s') hc hN I hi ok hg ht he hs h fun L C s' m H' I' q hn f=>?_) fun _ s' hq=>af (af hq));show wpAny _ _ (assign (.Name y py) X.env (.ref L)) _ _ _;refine yV (Iq (v:=V.ref L) I' hN hy (.inl CJ) rfl (fun s2 I2 ⟨a,sb,ha⟩=>?_) (.inr CJ));obtain⟨f0,f1,f2,f3,f4,f5⟩:=f;have J6:C≠a:=by
  rcases ha with z |z
  ·rw [z];exact f1
  ·exact fun e=>f4 y a z e.symm
 refine⟨m,hn.sameBut sb J6,fun h3 L6=>?_⟩;exact⟨_,H',I2.turned (t':=s2.toks) (fun b o hb e=>(L6.2 b hb).trans e) f0 f1 f3 f4 f5,q⟩
theorem Bb{fb:Expr}{gs:List Comprehension}{scope:Scope}{pos py:Pos}{y:Str}{l:Nat}{env:Env}(hk:env.scope.kind=.function)(hy:env.scope.names.lookup y=some .local)(hl:(py.line==pos.line)=true)
  (ha:(scope.names.any fun(n,k)=>n==y&&(k==.local ||k==.cell))=false):swapsWith (.ListComp fb gs scope pos) (some (.Name y py)) l env=pure true:=by
 have ky:env.kindOf y=some .local:=hy;have hb:env.blockKind=.function:=by unfold Env.blockKind;rw [hk];rfl
 unfold swapsWith;have pp:Expr.pos (.ListComp fb gs scope pos)=pos:=rfl;simp only [hb,ky,ha,pp,hl];rfl
end
theorem Fg{lo:Int}{n:Nat}{g:TG}{tt:TT}{te:TE}{vs:List Nat}{σ:St}{H1:Hp}{D:Addr}{Qd:Hp->Prop}(Pv:Nat->Hp->Prop)(h0:Pv 0 (upd H1 D (.lst [])))
  (hs:∀ i H,i<n->Pv i H->g (.int (lo+i)) (bV σ vs) H fun σ2 H2=>bV σ2 vs=bV σ vs/\tt σ2 H2 fun b H3 =>
    if b=true then te σ2 H3 fun y H4=>∃ acc,H4 D=some (.lst acc)/\acc.length<sizeLine/\Pv (i+1) (upd H4 D (.lst (acc++[y])))else Pv (i+1) H3)(hd:∀ H,Pv n H->Qd H) :
  ∃ W:Nat->Nat->Hp->Prop,(∃ m,W 0 m (upd H1 D (.lst [])))/\∀ i m H,W i m H ->
   ((qQ lo n).stop i H/\Qd H)\/((qQ lo n).go i H/\∃ Nx:Hp->Prop,(∀ H',Nx H'->∃ m',m' < m/\W (i+1) m' H')/\∀ x H',(qQ lo n).yld i H x H'->g x (bV σ vs) H' fun σ2 H2=>bV σ2 vs=bV σ vs/\tt σ2 H2 fun b H3 =>
     if b=true then te σ2 H3 fun y H4=>∃ acc,H4 D=some (.lst acc)/\acc.length<sizeLine/\Nx (upd H4 D (.lst (acc++[y])))else Nx H3):=by
 refine⟨fun i m H=>m=n-i/\i<=n/\Pv i H,⟨n,by simp,fj _,h0⟩,?_⟩
 rintro i m H ⟨rfl,hi,p⟩;by_cases cc:i<n
 ·refine .inr ⟨cc,Pv (i+1),fun H' p'=>⟨n-(i+1),by omega,rfl,cc,p'⟩,fun x H' y=>?_⟩
  obtain⟨e,y⟩:=y;subst e y;exact hs i _ cc p
 ·have e:i=n:=by omega
  subst e;exact .inl ⟨bK _,hd H p⟩
theorem zt{K:aq}{a:Addr}{xs:List V}{g:TG}{tt:TT}{te:TE}{vs:List Nat}{σ:St}{H1:Hp}{D:Addr}{Qd:Hp->Prop}(Pv:Nat->Hp->Prop)(h0:Pv 0 (upd H1 D (.lst [])))(hl:∀ i H,i<=xs.length->Pv i H->SqL K H a xs)
  (hs:∀ i x H,xs[i]?=some x->Pv i H->g x (bV σ vs) H fun σ2 H2=>bV σ2 vs=bV σ vs/\tt σ2 H2 fun b H3 =>
    if b=true then te σ2 H3 fun y H4=>∃ acc,H4 D=some (.lst acc)/\acc.length<sizeLine/\Pv (i+1) (upd H4 D (.lst (acc++[y])))else Pv (i+1) H3)(hd:∀ H,Pv xs.length H->Qd H) :
  ∃ W:Nat->Nat->Hp->Prop,(∃ m,W 0 m (upd H1 D (.lst [])))/\∀ i m H,W i m H ->
   ((uz K a).stop i H/\Qd H)\/((uz K a).go i H/\∃ Nx:Hp->Prop,(∀ H',Nx H'->∃ m',m' < m/\W (i+1) m' H')/\∀ x H',(uz K a).yld i H x H'->g x (bV σ vs) H' fun σ2 H2=>bV σ2 vs=bV σ vs/\tt σ2 H2 fun b H3 =>
     if b=true then te σ2 H3 fun y H4=>∃ acc,H4 D=some (.lst acc)/\acc.length<sizeLine/\Nx (upd H4 D (.lst (acc++[y])))else Nx H3):=by
 refine⟨fun i m H=>m=xs.length-i/\i<=xs.length/\Pv i H,⟨xs.length,by simp,fj _,h0⟩,?_⟩
 rintro i m H ⟨rfl,hi,p⟩;have q:=hl i H hi p;by_cases cc:i<xs.length
 ·refine .inr ⟨⟨xs,xs[i],q,by simp [cc]⟩,Pv (i+1),fun H' p'=>⟨xs.length-(i+1),by omega,rfl,cc,p'⟩,fun x H' y=>?_⟩
  obtain⟨e,y⟩:=y;subst e;exact hs i x _ (y xs q) p
 ·have e:i=xs.length:=by omega
  subst e;exact .inl ⟨⟨xs,q,bK _⟩,hd H p⟩
end L2
namespace L2
open PySem PySem.Spec PyProof.Rows
section
variable{prog:Program}{w:World}{A:Around}{R:Result->Shared->Prop}{s:Shared}{fb t0 i0 t1 i1:Expr}{ifs0 ifs1:List Expr}{scope:Scope}{pos:Pos}{it acc:Value}{env:Env}
end
section
variable{X:Cx}
end
end L2
namespace L2
open PySem PySem.Spec PyProof.Rows
section
variable{κ:Type}[DecidableEq κ]
def aJ(ah:List (κ×V))(k:κ):Option V:=(ah.find? fun kv=>decide (kv.1=k)).map (·.2)
def aE(ah:List (κ×V))(k:κ)(v:V):List (κ×V) :=
 if (ah.any fun kv=>decide (kv.1=k))=true then ah.map (fun kv=>if kv.1=k then(kv.1,v)else kv)else ah++[(k,v)]
theorem qr{k:κ}:aJ ([]:List (κ×V)) k=none:=rfl
theorem lE{p:κ×V}{r:List (κ×V)}{k:κ}(e:p.1=k):aJ (p::r) k=some p.2:=by simp [aJ,qX,e]
theorem kt{p:κ×V}{r:List (κ×V)}{k:κ}(e:¬ p.1=k):aJ (p::r) k=aJ r k:=by simp [aJ,qX,e]
theorem v0(k:κ):∀ ah:List (κ×V),(ah.any fun kv=>decide (kv.1=k))=(aJ ah k).isSome
 |[]=>rfl
 |p::r=>by
  rw [AR];by_cases e:p.1=k
  ·simp only [lE e,ai e,Bool.true_or,Option.isSome_some]
  ·rw [kt e,aw e,Bool.false_or];exact v0 k r
theorem Oz(k j:κ)(y:V):∀ ah:List (κ×V),aJ (ah.map fun kv=>if kv.1=k then(kv.1,y)else kv) j=(aJ ah j).map fun x=>if j=k then y else x
 |[]=>rfl
 |p::r=>by
  have ih:=Oz k j y r;rw [ei];by_cases h:p.1=k
  ·rw [ae h];by_cases e:p.1=j
   ·rw [lE (p:=(p.1,y)) e,lE e,ze,ae (e.symm.trans h)]
   ·rw [kt (p:=(p.1,y)) e,kt e,ih]
  ·rw [ac h];by_cases e:p.1=j
   ·rw [lE (p:=p) e,lE e,ze,ac (fun z=>h (e.trans z))]
   ·rw [kt (p:=p) e,kt e,ih]
theorem OL(k j:κ)(y:V):∀ ah:List (κ×V),aJ ah k=none->aJ (ah++[(k,y)]) j=if j=k then some y else aJ ah j
 |[],_=>by
  by_cases e:k=j
  ·rw [ae e.symm];exact lE (p:=(k,y)) e
  ·rw [ac (fun z=>e z.symm)];exact kt (p:=(k,y)) e
 |p::r,hn=>by
  rw [E5];have hk:¬ p.1=k:=fun z=>by rw [lE z]at hn;cases hn
  rw [kt hk]at hn;have ih:=OL k j y r hn;by_cases e:p.1=j
  ·rw [lE e,lE e,ac (fun z=>hk (e.trans z))]
  ·rw [kt e,kt e,ih]
theorem iE(ah:List (κ×V))(k j:κ)(y:V):aJ (aE ah k y) j=if j=k then some y else aJ ah j:=by
 unfold aE;by_cases a:(ah.any fun kv=>decide (kv.1=k))=true
 ·rw [ae a,Oz];rw [v0]at a;by_cases e:j=k
  ·obtain⟨x,hx⟩:=Option.isSome_iff_exists.mp a;rw [ae e,e,hx,ze,ae rfl]
  ·rw [ac e];cases aJ ah j with
   |none=>rfl
   |some x=>rw [ze,ac e]
 ·rw [ac a];refine OL k j y ah ?_;rw [v0]at a;cases q:aJ ah k with
  |none=>rfl
  |some x=>rw [q]at a;exact(a rfl).elim
theorem mK(ah:List (κ×V))(k:κ)(v:V):(aE ah k v).length<=ah.length+1:=by
 unfold aE;split
 ·rw [aT];omega
 ·rw [gC,gB,lA];omega
theorem RelO.isSome_eq{o:Option V}{u:Option Value}(r:RelO o u):o.isSome=u.isSome:=by
 cases o with
 |none=>cases u with
  |none=>rfl
  |some _=>exact(show False from r).elim
 |some _=>cases u with
  |none=>exact(show False from r).elim
  |some _=>rfl
theorem RelO.getD{o:Option V}{u:Option Value}{d:V}{d':Value}(r:RelO o u)(rd:RelV d d'):RelV (o.getD d) (u.getD d'):=by
 cases o with
 |none=>cases u with
  |none=>exact rd
  |some _=>exact(show False from r).elim
 |some _=>cases u with
  |none=>exact(show False from r).elim
  |some _=>exact r
theorem KV.val{ah:List (κ×V)}{vs:List (κ×Value)}(r:KV ah vs)(k:κ):RelO (aJ ah k) (valueAt vs k):=by
 unfold KV at r
 induction r with
 |nil=>exact True.intro
 | @cons p q ps qs h t ih =>
  obtain⟨h1,h2⟩:=h;by_cases e:p.1=k
  ·have e':q.1=k:=h1.symm.trans e;have b:valueAt (q::qs) k=some q.2:=by simp [valueAt,qX,e']
   rw [lE e,b];exact h2
  ·have e':¬ q.1=k:=fun z=>e (h1.trans z);have b:valueAt (q::qs) k=valueAt qs k:=by simp [valueAt,qX,e']
   rw [kt e,b];exact ih
theorem KV.any{ah:List (κ×V)}{vs:List (κ×Value)}(r:KV ah vs)(k:κ):(ah.any fun kv=>decide (kv.1=k))=vs.any fun kv=>decide (kv.1=k):=by
 unfold KV at r
 induction r with
 |nil=>rfl
 |cons h t ih=>rw [AR,AR,ih,h.1]
theorem KV.repl{ah:List (κ×V)}{vs:List (κ×Value)}(r:KV ah vs)(k:κ){y:V}{u:Value}(ry:RelV y u) :
  KV (ah.map fun kv=>if kv.1=k then(kv.1,y)else kv) (vs.map fun kv=>if kv.1=k then(kv.1,u)else kv):=by
 unfold KV at r ⊢
 induction r with
 |nil=>exact .nil
 | @cons p q ps qs h t ih =>
  rw [ei,ei];refine .cons ?_ ih;obtain⟨h1,h2⟩:=h;by_cases e:p.1=k
  ·rw [ae e,ae (h1.symm.trans e)];exact⟨h1,ry⟩
  ·rw [ac e,ac (fun z=>e (h1.trans z))];exact⟨h1,h2⟩
theorem KV.put{ah:List (κ×V)}{vs:List (κ×Value)}(r:KV ah vs)(k:κ){y:V}{u:Value}(ry:RelV y u):KV (aE ah k y) (stored vs k u):=by
 unfold aE stored;rw [r.any k];by_cases e:(vs.any fun kv=>decide (kv.1=k))=true
 ·rw [ae e,ae e];exact r.repl k ry
 ·rw [ac e,ac e];exact Paired.snoc r ⟨rfl,ry⟩
theorem KV.length{ah:List (κ×V)}{vs:List (κ×Value)}(r:KV ah vs):ah.length=vs.length:=Paired.length r
end
theorem iM{P:Program}{w:World}{k:Key}{u:Value}(r:RelV (kV k) u):(gS P w).is k u=true:=by
 cases k with
 |inl i=>obtain⟨t,e⟩:=(show ∃ t,u=Value.int i t from r);subst e;exact Z9T P w i t
 |inr x=>obtain⟨t,e⟩:=(show ∃ t,u=Value.str x t from r);subst e;exact Z9V P w x t
theorem IM{P:Program}{w:World}:∀ {ks:List Key}{us:List Value},Vals (ks.map kV) us->ItemsAre (gS P w) ks us
 |[],_,r=>by rw [List.map_nil]at r;cases r;exact .nil
 |k::ks,_,r=>by
  rw [ei]at r;cases r with
  |cons h t=>exact .cons (iM h) (IM t)
abbrev KT(H:Hp):List (List Key×V)->List (List Key×Addr×Value)->Prop:=Paired fun p q=>p.1=q.1/\H q.2.1=some (.tup (p.1.map kV))/\RelV p.2 q.2.2
theorem KT.val{H:Hp}{ah:List (List Key×V)}{xs:List (List Key×Addr×Value)}(r:KT H ah xs)(k:List Key):RelO (aJ ah k) ((atKey xs k).map (·.2)):=by
 induction r with
 |nil=>exact True.intro
 | @cons p q ps qs h t ih =>
  obtain⟨h1,_,h2⟩:=h;by_cases e:p.1=k
  ·have e':q.1=k:=h1.symm.trans e;have b:atKey (q::qs) k=some q.2:=by simp [atKey,qX,e']
   rw [lE e,b];exact h2
  ·have e':¬ q.1=k:=fun z=>e (h1.trans z);have b:atKey (q::qs) k=atKey qs k:=by simp [atKey,qX,e']
   rw [kt e,b];exact ih
theorem KT.repl{H:Hp}{ah:List (List Key×V)}{xs:List (List Key×Addr×Value)}(r:KT H ah xs)(k:List Key){y:V}{u:Value}(ry:RelV y u) :
  KT H (ah.map fun kv=>if kv.1=k then(kv.1,y)else kv) (xs.map (putAt k u)):=by
 induction r with
 |nil=>exact .nil
 | @cons p q ps qs h t ih =>
  rw [ei,ei];refine .cons ?_ ih;obtain⟨h1,h2,h3⟩:=h;unfold putAt;by_cases e:p.1=k
  ·rw [ae e,ae (h1.symm.trans e)];exact⟨h1,h2,ry⟩
  ·rw [ac e,ac (fun z=>e (h1.trans z))];exact⟨h1,h2,h3⟩
theorem KT.put{H:Hp}{ah:List (List Key×V)}{xs:List (List Key×Addr×Value)}(r:KT H ah xs)(k:List Key){b:Addr}{y:V}{u:Value}(hb:H b=some (.tup (k.map kV)))(ry:RelV y u) :
  KT H (aE ah k y) (storedH xs k b u):=by
 have e:(ah.any fun kv=>decide (kv.1=k))=(atKey xs k).isSome:=by
  rw [v0,(r.val k).isSome_eq,AC]
 unfold aE storedH;rw [e];by_cases q:(atKey xs k).isSome=true
 ·rw [ae q,ae q];exact r.repl k ry
 ·rw [ac q,ac q];exact Paired.snoc r ⟨rfl,hb,ry⟩
theorem KT.keeps{H H':Hp}{ah:List (List Key×V)}{xs:List (List Key×Addr×Value)}(r:KT H ah xs)(ht:∀ b ys,H b=some (.tup ys)->H' b=some (.tup ys)):KT H' ah xs :=
 Paired.mapP r fun _ _ z=>⟨z.1,ht _ _ z.2.1,z.2.2⟩
section
variable{P:Program}{w:World}{H:Hp}{h:Heap}{a:Addr}
theorem vt{u:HO}(ok:HOk P w H h)(e:Rd H a u):ObjOk P w H h a u:=e.ok ok
theorem jq{ah:List (Key×V)}(ok:HOk P w H h)(e:Rd H a (.dK ah)):ah.length<=sizeLine/\(a==sysModules)=false/\∃ vs,KV ah vs/\h.DictOf (gS P w) a vs :=
 show ObjOk P w H h a (.dK ah)from vt ok e
theorem uW{ah:List (Key×V)}(ok:HOk P w H h)(e:H a=some (.dK ah)):ah.length<=sizeLine/\(a==sysModules)=false/\∃ vs,KV ah vs/\h.DictOf (gS P w) a vs:=jq ok (.inl e)
theorem Bo{ks:List Key}(ok:HOk P w H h)(e:H a=some (.tup (ks.map kV))):(tupleKind (gS P w)).is h ks a:=by
 obtain⟨_,its,r,o,h1,h2,n,h3⟩:=(show ObjOk P w H h a (.tup (ks.map kV))from ok a _ e);exact⟨o,its.toArray,n,h1,h2,h3,by simpa using IM r⟩
theorem jr{ah:List (List Key×V)}(ok:HOk P w H h)(e:Rd H a (.dT ah)):ah.length<=sizeLine/\(a==sysModules)=false /\
  ∃ xs,KT H ah xs/\h.DictOfH (tupleKind (gS P w)) a xs:=by
 obtain⟨z,y,xs,r,o,es,ep,h1,h2,h3,h4,h5⟩:=(show ObjOk P w H h a (.dT ah)from vt ok e);refine⟨z,y,xs,r,o,es,ep,h1,h2,h3,h4,fun x hx=>?_,h5⟩;have all:∀ {l:List (List Key×V)}{m:List (List Key×Addr×Value)},KT H l m->∀ x∈m,(tupleKind (gS P w)).is h x.1 x.2.1:=by
  intro l m q
  induction q with
  |nil=>intro x hx;exact nomatch hx
  | @cons p q ps qs hq t ih =>
   intro x hx;rcases bv.mp hx with e |hx
   ·subst e;exact Bo ok (by rw [<-hq.1];exact hq.2.1)
   ·exact ih x hx
 exact all r x hx
theorem Bu{ah:List (List Key×V)}(ok:HOk P w H h)(e:H a=some (.dT ah)):ah.length<=sizeLine/\(a==sysModules)=false /\
  ∃ xs,KT H ah xs/\h.DictOfH (tupleKind (gS P w)) a xs:=jr ok (.inl e)
end
def DGet(H:Hp)(a:Addr)(y:V)(r:Option V):Prop :=
 (∃ ah k,Rd H a (.dK ah)/\y=kV k/\r=aJ ah k)\/∃ ah k b,Rd H a (.dT ah)/\y=.ref b/\H b=some (.tup (k.map kV))/\r=aJ ah k
def DPut(H:Hp)(a:Addr)(y v:V)(H':Hp):Prop :=
 (∃ ah k,H a=some (.dK ah)/\y=kV k/\ah.length<sizeLine/\H'=upd H a (.dK (aE ah k v))) \/
 ∃ ah k b,H a=some (.dT ah)/\y=.ref b/\H b=some (.tup (k.map kV))/\ah.length<sizeLine/\H'=upd H a (.dT (aE ah k v))
theorem DGet.k{H:Hp}{a:Addr}{ah:List (Key×V)}{k:Key}(e:H a=some (.dK ah)):DGet H a (kV k) (aJ ah k):=.inl ⟨ah,k,.inl e,rfl,rfl⟩
theorem DGet.t{H:Hp}{a b:Addr}{ah:List (List Key×V)}{k:List Key}(e:H a=some (.dT ah))(eb:H b=some (.tup (k.map kV))):DGet H a (.ref b) (aJ ah k):=.inr ⟨ah,k,b,.inl e,rfl,eb,rfl⟩
theorem DPut.k{H:Hp}{a:Addr}{ah:List (Key×V)}{k:Key}{v:V}(e:H a=some (.dK ah))(hl:ah.length<sizeLine):DPut H a (kV k) v (upd H a (.dK (aE ah k v))):=.inl ⟨ah,k,e,rfl,hl,rfl⟩
theorem DPut.t{H:Hp}{a b:Addr}{ah:List (List Key×V)}{k:List Key}{v:V}(e:H a=some (.dT ah))(eb:H b=some (.tup (k.map kV)))(hl:ah.length<sizeLine) :
  DPut H a (.ref b) v (upd H a (.dT (aE ah k v))):=.inr ⟨ah,k,b,e,rfl,eb,hl,rfl⟩
section
variable{X:Cx}{pins:List (Addr×Obj)}{σ:St}{H:Hp}{s:Shared}{a:Addr}{y v:V}{u r:Value}{o:Option V}{A:Around}{E:Value->Shared->Prop}
theorem Inv.big(I:Inv X pins σ H s):sysModules<s.heap.objs.size:=by
 have h:mainGlobals<s.heap.objs.size:=(I.mod.glob.keeps I.bk).lt;exact qu (by decide) h
theorem Zbv{Q:Value->Shared->Prop}(hu:A.units+1<cLine)(I:Inv X pins σ H s)(g:DGet H a y (some v))(ry:RelV y u)(h:∀ w' s',Inv X pins σ H s'->RelV v w'->Q w' s') :
  wpAny (model X.prog X.w) A (getItem (.ref a) u) Q E s:=by
 rcases g with⟨ah,k,e,ey,l⟩ |⟨ah,k,b,e,ey,eb,l⟩
 ·subst ey;obtain⟨z,hd,vs,rel,dd⟩:=jq I.hok e;obtain⟨w',hw,gI⟩:=RelO.some_of (v:=v) (o:=valueAt vs k) (by rw [l];exact rel.val k)
  exact wpAny_getItem_of (iM ry) dd.mapOf hw (h w' _ (I.tok _) gI)
 ·subst ey;cases (show u=Value.ref b from ry);obtain⟨z,hd,xs,rel,dd⟩:=jr I.hok e;obtain⟨w',hw,gI⟩:=RelO.some_of (v:=v) (o:=(atKey xs k).map (·.2)) (by rw [l];exact rel.val k)
  obtain⟨p,hp,Ci⟩:=EV.mp hw;refine wpAny_getItem_heap (bi hu) (Bo I.hok eb) dd hp ?_;rw [Ci];exact h w' _ (I.tok _) gI
theorem JF{Q:Value->Shared->Prop}(hu:A.units+1<cLine)(I:Inv X pins σ H s)(g:DGet H a y o)(ry:RelV y u)(h:∀ s',Inv X pins σ H s'->Q (.bool o.isSome) s') :
  wpAny (model X.prog X.w) A (compareOp .In u (.ref a)) Q E s:=by
 rcases g with⟨ah,k,e,ey,l⟩ |⟨ah,k,b,e,ey,eb,l⟩
 ·subst ey;obtain⟨z,hd,vs,rel,dd⟩:=jq I.hok e;refine wpAny_in_of (iM ry) hd dd.mapOf ?_;rw [<-(rel.val k).isSome_eq,<-l];exact h _ (I.tok _)
 ·subst ey;cases (show u=Value.ref b from ry);obtain⟨z,hd,xs,rel,dd⟩:=jr I.hok e;refine wpAny_in_heap (bi hu) (Bo I.hok eb) hd dd ?_;have q:=(rel.val k).isSome_eq;rw [AC]at q;rw [<-q,<-l];exact h _ (I.tok _)
theorem rW{Q:Value->Shared->Prop}(hu:A.units+1<cLine)(I:Inv X pins σ H s)(g:DGet H a y o)(ry:RelV y u)(h:∀ s',Inv X pins σ H s'->Q (.bool (!o.isSome)) s') :
  wpAny (model X.prog X.w) A (compareOp .NotIn u (.ref a)) Q E s:=by
 rcases g with⟨ah,k,e,ey,l⟩ |⟨ah,k,b,e,ey,eb,l⟩
 ·subst ey;obtain⟨z,hd,vs,rel,dd⟩:=jq I.hok e;refine wpAny_notIn_of (iM ry) hd dd.mapOf ?_;rw [<-(rel.val k).isSome_eq,<-l];exact h _ (I.tok _)
 ·subst ey;cases (show u=Value.ref b from ry);obtain⟨z,hd,xs,rel,dd⟩:=jr I.hok e;refine wpAny_notIn_heap (bi hu) (Bo I.hok eb) hd dd ?_;have q:=(rel.val k).isSome_eq;rw [AC]at q;rw [<-q,<-l];exact h _ (I.tok _)
theorem A9{h':Heap}{t':Nat}{ob:HO}(I:Inv X pins σ H s)(mu:Aw (H a))(hs:Heap.SameBut a s.heap h')(he:∃ q,h'.get? a=some q)(new:ObjOk X.prog X.w (upd H a ob) h' a ob) :
  Inv X pins σ (upd H a ob) { s with heap:=h',toks:=t' } :=
 I.write (x:=a) (e:=a) mu (.inl rfl) (fun b q hb z=>(hs.2 b hb).trans z) he new
theorem nJ{P:Program}{w:World}{H':Hp}{h':Heap}{ah:List (Key×V)}{vs:List (Key×Value)}(z:ah.length<=sizeLine)(hd:(a==sysModules)=false)(rel:KV ah vs)(dd:h'.DictOf (gS P w) a vs) :
  ObjOk P w H' h' a (.dK ah):=⟨z,hd,vs,rel,dd⟩
theorem Zbj{H':Hp}{Q:Unit->Shared->Prop}(hu:A.units+1<cLine)(I:Inv X pins σ H s)(g:DPut H a y v H')(ry:RelV y u)(rv:RelV v r)(h:∀ s',Inv X pins σ H' s'->Q () s') :
  wpAny (model X.prog X.w) A (setItem (.ref a) u r) Q E s:=by
 rcases g with⟨ah,k,e,ey,l,eH⟩ |⟨ah,k,b,e,ey,eb,l,eH⟩
 ·subst ey eH;obtain⟨z,hd,vs,rel,dd⟩:=uW I.hok e;have hz:vs.length<=sizeLine:=by rw [<-rel.length];exact z
  have hl:(aE ah k v).length<=sizeLine:=by have:=mK ah k v;omega
  refine wpAny_setItem_pairs (hsz:=hz) (iM ry) dd fun h' mf hs=>h _ ?_;have he:∃ q,h'.get? a=some q:=by obtain⟨q,_,_,hq,_⟩:=mf;exact⟨q,hq⟩
  exact A9 I (by rw [e];exact True.intro) hs he (nJ hl hd (rel.put k rv) mf)
 ·subst ey eH;cases (show u=Value.ref b from ry);obtain⟨z,hd,xs,rel,dd⟩:=Bu I.hok e;have hz:xs.length<=sizeLine:=by rw [<-Paired.length rel];exact z
  have hl:(aE ah k v).length<=sizeLine:=by have:=mK ah k v;omega
  refine wpAny_setItem_heap (hsz:=hz) (bi hu) (Bo I.hok eb) dd fun h' mf hs=>h _ ?_;obtain⟨q,es,ep,hq,h2,h3,h4,_,h5⟩:=mf;refine A9 I (by rw [e];exact True.intro) hs ⟨q,hq⟩ ⟨hl,hd,_,(rel.put k eb rv).keeps fun c ys ec=>?_,q,es,ep,hq,h2,h3,h4,h5⟩
  rw [aj (az ec e (fun z=>nomatch z))];exact ec
end
section
variable{X:Cx}{pins:List (Addr×Obj)}{σ:St}{H:Hp}{s:Shared}{a:Addr}{ah:List (Key×V)}{k:Key}{u:Value}{A:Around}{E:Value->Shared->Prop}
end
def vN(i:Expr):Prop:=∀ ov iv,subscripted i false ov iv=operate [ov,iv] (getItem ov iv)
theorem Pr{prog:Program}{w:World}{A:Around}{E:Value->Shared->Prop}{s:Shared}{env:Env}{value fK:Expr}{pos:Pos}{T id:String}{Q:Value->Shared->Prop}
  (hl:typeLookup (.type T) "__getitem__" = pure (some (.builtin id)))(hs:vN fK)
  (h:wpAny (model prog w) A (eval value env) (fun o s₁=>wpAny (model prog w) A (eval fK env) (fun i s₂=>s₂.TypeIs o T/\wpAny (model prog w) A (getItem o i) Q E s₂) E s₁) E s) :
  wpAny (model prog w) A (eval (.Subscript value fK pos) env) Q E s:=by
 refine Subscript_ (ax h (fun o s₁ h₁=>ax h₁ (fun i s₂ h₂=>?_) fun _ _ x=>x) fun _ _ x=>x);obtain⟨hT,h₂⟩:=h₂;unfold subscriptTail;refine aa ?_;rw [getitemInPython_of_ne hT.not_modules];refine aa (wpAny_specialOf hT hl ?_);have fin:wpAny (model prog w) A (subscripted fK false o i) (fun r s₃=>wpAny (model prog w) A (letTemporaryGo value o r >>= fun _=>pure r) Q E s₃) E s₂:=by
  rw [hs o i];exact wpAny_operating (ax h₂ (fun r s₃ h₃=>aa (wpAny_letTemporaryGo (af h₃))) fun _ _ x=>x)
 first
  |exact af (aa fin)
  |exact aa (af (aa fin))
  |exact aa fin
theorem Z9P{X:Cx}{pins:List (Addr×Obj)}{σ:St}{H:Hp}{s:Shared}{a:Addr}{y:V}{o:Option V}(I:Inv X pins σ H s)(g:DGet H a y o):s.TypeIs (.ref a) "dict":=by
 rcases g with⟨ah,k,e,_,_⟩ |⟨ah,k,b,e,_,_,_⟩
 ·obtain⟨_,_,vs,_,dd⟩:=jq I.hok e;exact dd.typeIs
 ·obtain⟨_,_,xs,_,dd⟩:=jr I.hok e;exact dd.typeIs
def Ek(td ty:TE):TE:=fun σ H Q=>td σ H fun x H1=>ty σ H1 fun y H2=>∃ a v,x=.ref a/\DGet H2 a y (some v)/\Q v H2
def Ml(ty td:TE):TE:=fun σ H Q=>ty σ H fun y H1=>td σ H1 fun x H2=>∃ a o,x=.ref a/\DGet H2 a y o/\Q (.bl o.isSome) H2
def uh(ty td:TE):TE:=fun σ H Q=>ty σ H fun y H1=>td σ H1 fun x H2=>∃ a o,x=.ref a/\DGet H2 a y o/\Q (.bl (!o.isSome)) H2
def DN(td ty tv:TE):TS:=fun D σ H=>tv σ H fun v H1=>td σ H1 fun x H2=>ty σ H2 fun y H3=>∃ a H4,x=.ref a/\DPut H3 a y v H4/\D.nx σ H4
section
variable{X:Cx}{o i e value:Expr}{pos eW dN:Pos}{td ty tv:TE}
theorem uP(hu:X.A.units+1<cLine)(ho:PE X o td)(hi:PE X i ty)(hs:vN i):PE X (.Subscript o i pos) (Ek td ty):=by
 intro pins s σ H Q I h;refine Pr PySem.F.slot_dict_getitem.lookup hs (aP (ho pins s σ H _ I h) fun u s1 ⟨x,H1,I1,rx,q1⟩=>aP (hi pins s1 σ H1 _ I1 q1) fun iv s2 zz=>?_);obtain⟨y,H2,I2,ry,a,v,ex,g,q2⟩:=zz;subst ex;obtain rfl:u=Value.ref a:=rx;exact⟨Z9P I2 g,Zbv hu I2 g ry fun w' s3 I3 gI=>⟨v,H2,I3,gI,q2⟩⟩
theorem yh(hu:X.A.units+1<cLine)(hi:PE X i ty)(ho:PE X o td):PC X .In i o (Ml ty td):=by
 intro pins s σ H Q I h;refine aP (hi pins s σ H _ I h) fun iv s1 ⟨y,H1,I1,ry,q1⟩=>aP (ho pins s1 σ H1 _ I1 q1) fun u s2 zz=>?_;obtain⟨x,H2,I2,rx,a,ov,ex,g,q2⟩:=zz;subst ex;obtain rfl:u=Value.ref a:=rx;exact JF hu I2 g ry fun s3 I3=>⟨.bl ov.isSome,H2,I3,rfl,q2⟩
theorem Ip(hu:X.A.units+1<cLine)(hi:PE X i ty)(ho:PE X o td):PC X .NotIn i o (uh ty td):=by
 intro pins s σ H Q I h;refine aP (hi pins s σ H _ I h) fun iv s1 ⟨y,H1,I1,ry,q1⟩=>aP (ho pins s1 σ H1 _ I1 q1) fun u s2 zz=>?_;obtain⟨x,H2,I2,rx,a,ov,ex,g,q2⟩:=zz;subst ex;obtain rfl:u=Value.ref a:=rx;exact rW hu I2 g ry fun s3 I3=>⟨.bl (!ov.isSome),H2,I3,rfl,q2⟩
theorem wb(hu:X.A.units+1<cLine)(ho:PE X o td)(hi:PE X i ty)(hv:PE X value tv)(hs:swapsWith value (some (.Subscript o i eW)) pos.line X.env=pure false) :
  PS X (.Assign [.Subscript o i eW] value pos) (DN td ty tv):=by
 intro pins s σ H D I h;refine wpAny_Assign_Subscript (aP (hv pins s σ H _ I h) fun r s1 ⟨v,H1,I1,rv,q1⟩=>aP (ho pins s1 σ H1 _ I1 q1) fun u s2 ⟨x,H2,I2,rx,q2⟩=>aP (hi pins s2 σ H2 _ I2 q2) fun iv s3 zz=>?_) hs;obtain⟨y,H3,I3,ry,a,H4,ex,g,q3⟩:=zz;subst ex;obtain rfl:u=Value.ref a:=rx;exact Zbj hu I3 g ry rv fun s4 I4=>⟨σ,H4,I4,q3⟩
end
theorem Pd{P:Program}{w:World}{H:Hp}(h:Heap)(hb:sysModules<h.objs.size):ObjOk P w H (h.push { cls:=.type "dict",data:=.dict #[] }) h.objs.size (.dK []) :=
 ⟨fj _,aO.mpr (Ne.symm (eF hb)),[],.nil,Heap.DictOf.new h⟩
theorem nM{P:Program}{w:World}{H:Hp}(h:Heap)(hb:sysModules<h.objs.size):ObjOk P w H (h.push { cls:=.type "dict",data:=.dict #[] }) h.objs.size (.dT []) :=
 ⟨fj _,aO.mpr (Ne.symm (eF hb)),[],.nil,_,#[],0,fi _ rfl,⟨rfl,rfl,rfl⟩,rfl,rfl,uI⟩
def yK:TE:=fun _ H Q=>∀ p,H p=none->Q (.ref p) (upd H p (.dK []))
def yL:TE:=fun _ H Q=>∀ p,H p=none->Q (.ref p) (upd H p (.dT []))
section
variable{X:Cx}{pos:Pos}
theorem Pe:PE X (.Dict [] [] pos) yK:=fun pins s σ H Q I h =>
 EK ⟨.ref s.heap.objs.size,_,I.laid (a:=s.heap.objs.size) (o:=.dK []) (t':=s.toks) (fun _ _ q=>dD _ q) (bK _) (Pd s.heap I.big),rfl,h _ (I.hok.fresh (bK _))⟩
theorem oV:PE X (.Dict [] [] pos) yL:=fun pins s σ H Q I h =>
 EK ⟨.ref s.heap.objs.size,_,I.laid (a:=s.heap.objs.size) (o:=.dT []) (t':=s.toks) (fun _ _ q=>dD _ q) (bK _) (nM s.heap I.big),rfl,h _ (I.hok.fresh (bK _))⟩
end
def Jw:List (TE×TE)->St->Hp->(List (V×V)->Hp->Prop)->Prop
 |[],_,H,Q=>Q [] H
 |(tk,tv)::r,σ,H,Q=>tk σ H fun x H1=>tv σ H1 fun y H2=>Jw r σ H2 fun ps H3=>Q ((x,y)::ps) H3
abbrev VV:List (V×V)->List (Value×Value)->Prop:=Paired fun p q=>RelV p.1 q.1/\RelV p.2 q.2
def ET(X:Cx)(pos:Pos)(keys:List (Option Expr))(ie:List Expr)(ut:List (TE×TE)):Prop :=
 ∀ (pins:List (Addr×Obj))(s:Shared)(σ:St)(H:Hp)(Q:List (V×V)->Hp->Prop),Inv X pins σ H s->Jw ut σ H Q ->
  wpAny (model X.prog X.w) X.A (evalPairs (pairTrees keys ie X.env pos)) (fun vs s'=>∃ ps H',Inv X pins σ H' s'/\VV ps vs/\Q ps H') X.xe s
theorem IV{X:Cx}{pos:Pos}:ET X pos [] [] []:=fun pins s σ H Q I h=>pairTrees_nil_walk ⟨[],H,I,.nil,h⟩
theorem A3{X:Cx}{pos:Pos}{k v:Expr}{ks:List (Option Expr)}{vs:List Expr}{tk tv:TE}{ut:List (TE×TE)}(hk:PE X k tk)(hv:PE X v tv)(hr:ET X pos ks vs ut) :
  ET X pos (some k::ks) (v::vs) ((tk,tv)::ut):=fun pins s σ H Q I h =>
 pairTrees_cons_walk (aP (hk pins s σ H _ I h) fun u s1 ⟨x,H1,I1,rx,q1⟩=>aP (hv pins s1 σ H1 _ I1 q1) fun w2 s2 ⟨y,H2,I2,ry,q2⟩ =>
  aP (hr pins s2 σ H2 _ I2 q2) fun ws s3 ⟨ps,H3,I3,rel,q3⟩=>⟨(x,y)::ps,H3,I3,.cons ⟨rx,ry⟩ rel,q3⟩)
def zB(ah cZ:List (Key×V)):List (Key×V):=cZ.foldl (fun acc kv=>aE acc kv.1 kv.2) ah
theorem KV.merge:∀ {cZ:List (Key×V)}{rs:List (Key×Value)}{ah:List (Key×V)}{vs:List (Key×Value)},KV cZ rs->KV ah vs->KV (zB ah cZ) (merged vs rs):=by
 intro cZ rs ah vs r;unfold KV at r
 induction r generalizing ah vs with
 |nil=>intro q;exact q
 | @cons p q ps qs h t ih =>
  intro r0;have e:KV (aE ah p.1 p.2) (stored vs q.1 q.2):=by
   have:=r0.put p.1 h.2;rw [<-h.1];exact this
  exact ih e
theorem NL:∀ (cZ ah:List (Key×V)),(zB ah cZ).length<=ah.length+cZ.length
 |[],ah=>by show ah.length<=ah.length+0;omega
 |p::r,ah=>by
  have h1:=NL r (aE ah p.1 p.2);have h2:=mK ah p.1 p.2;show(zB (aE ah p.1 p.2) r).length<=_;rw [gB];omega
theorem Ob{P:Program}{w:World}:∀ {ah:List (Key×V)}{ws:List (Value×Value)},VV (ah.map fun kv=>(kV kv.1,kv.2)) ws->∃ rs,Carries (gS P w) ws rs/\KV ah rs
 |[],_,r=>by rw [List.map_nil]at r;cases r;exact⟨[],True.intro,.nil⟩
 |p::ah,_,r=>by
  rw [ei]at r;cases r with
  | @cons a b as bs h t =>
   obtain⟨rs,c,q⟩:=Ob (P:=P) (w:=w) t;obtain⟨b1,b2⟩:=b;exact⟨(p.1,b2)::rs,⟨iM h.1,rfl,c⟩,.cons ⟨rfl,h.2⟩ q⟩
def El(ut:List (TE×TE)):TE:=fun σ H Q=>∀ p,H p=none->Jw ut σ (upd H p (.dK [])) fun ps H2=>H2 p=some (.dK [])/\∃ ah:List (Key×V),ps=ah.map (fun kv=>(kV kv.1,kv.2))/\ah.length<=15/\Q (.ref p) (upd H2 p (.dK (zB [] ah)))
theorem IQ{X:Cx}{pos:Pos}{keys:List (Option Expr)}{ie:List Expr}{ut:List (TE×TE)}(h:ET X pos keys ie ut)(dL:keys.all (·.isSome)=true)(hl:keys.length=ie.length)(h0:keys≠[])
  (h15:keys.length<=15):PE X (.Dict keys ie pos) (El ut):=by
 intro pins s σ H Q I q;have hn:=I.hok.fresh (bK s.heap.objs.size);have I1:=I.laid (a:=s.heap.objs.size) (o:=.dK []) (h':=s.heap.push { cls:=.type "dict",data:=.dict #[] }) (t':=s.toks) (fun _ _ q=>dD _ q) (bK _) (Pd s.heap I.big);refine wpAny_Dict_walk (knd:=gS X.prog X.w) dL hl h0 h15 (aP (h pins _ σ _ _ I1 (q _ hn)) fun ws s2 zz=>?_);obtain⟨ps,H2,I2,rel,e,ah,ep,lk,q2⟩:=zz;subst ep;obtain⟨rs,c,rk⟩:=Ob (P:=X.prog) (w:=X.w) rel;obtain⟨z,hd,vs0,r0,dd⟩:=uW I2.hok e;cases r0;refine⟨rs,c,dd,fun h' mf hs=>⟨.ref s.heap.objs.size,_,?_,rfl,q2⟩⟩;have hz:(zB [] ah).length<=sizeLine:=by
  have h1:=NL ah [];rw [lA]at h1;rw [ak];omega
 have he:∃ q,h'.get? s.heap.objs.size=some q:=by obtain⟨q,_,_,hq,_⟩:=mf;exact⟨q,hq⟩
 exact A9 I2 (by rw [e];exact True.intro) hs he (nJ hz hd (rk.merge .nil) mf)
structure M2(X:Cx)(o:Expr)(m:Str)(cz:Pos)(e f:Expr)(br:Pos):Prop where
 base:attributeBase o m X.env (eval o X.env)=eval o X.env
 few:((backTo br (starEach [e,f] X.env)).all (fun x=>!x.1)&&(backToKw br (keywordEach [] X.env)).all (fun x=>x.1.isSome)
  && decide (([e,f]:List Expr).length+([]:List Keyword).length+(if ([]:List Keyword).isEmpty then 0 else 1)<30))=true
 line:(cz.endLine==br.line)=true
 trees:backTo br (starEach [e,f] X.env)=[(false,eval e X.env),(false,eval f X.env)]
section
variable{X:Cx}{pins:List (Addr×Obj)}{σ:St}{H:Hp}{s:Shared}{a:Addr}{y d:V}{u r:Value}{o:Option V}{A:Around}{E:Value->Shared->Prop}
end
section
variable{X:Cx}{o e f:Expr}{cz br:Pos}{td ty tx:TE}
end
section
variable{X:Cx}{pins:List (Addr×Obj)}{σ:St}{H:Hp}{s:Shared}{a:Addr}{ah:List (Key×V)}{A:Around}{E:Value->Shared->Prop}
end
section
variable{X:Cx}{pins:List (Addr×Obj)}{σ:St}{H:Hp}{s:Shared}{a:Addr}{y:V}{u:Value}{A:Around}{E:Value->Shared->Prop}
end
end L2
namespace L2
open PySem PySem.Spec PyProof.Rows
section
variable{prog:Program}{w:World}{A:Around}{E:Value->Shared->Prop}
end
section
variable{X:Cx}
end
end L2
namespace L2
open PySem PySem.Spec PyProof.Rows
theorem Z7V:bootBuiltins "reversed" = some (.type "reversed"):=by decide +kernel
section
variable{X:Cx}{pins:List (Addr×Obj)}{σ:St}{H:Hp}{s:Shared}{h':Heap}
theorem Inv.turnedL{t':Nat}{ch:List Addr}(I:Inv X pins σ H s)(k:∀ b o,b∉ch->s.heap.get? b=some o->h'.get? b=some o)(hf:∀ b∈ch,eJ X pins H b):Inv X pins σ H { s with heap:=h',toks:=t' }:=by
 have vj:∀ b u,H b=some u->b∉ch:=fun b u e z=>by
  have q:=(hf b z).1;rw [q]at e;cases e
 refine I.step (g':=s.gens) (d':=s.drawn) (ch:=ch) (fun b hb=>⟨(hf b hb).2.2.2.1,(hf b hb).2.1,(hf b hb).2.2.2.2.1,(hf b hb).2.2.2.2.2⟩) (fun b o _ _ hc e _=>k b o hc e) (fun b o _ _ hc e _=>⟨o.slots,k b o hc e⟩)
  (fun _ _ _ _ n=>n) (fun b o hc e=>⟨o,k b o hc e⟩) (fun _ _ e=>e) (fun _ _ _ e=>e) (fun b ps e=>⟨#[],by rw [e];simp⟩) (fun m hm=>?_) (fun b u e=>?_) I.bare
 ·obtain⟨o,es,ep,ho,r⟩:=hm;exact⟨o,es,ep,k _ o (fun z=>(hf _ z).2.1 rfl) ho,r⟩
 ·refine(I.hok b u e).stay (fun c v hc q=>k c v ?_ q) (fun _ q=>q) fun _ _ q=>q;rcases hc with z |z
  ·rw [z];exact vj b u e
  ·exact vj c _ z
theorem Inv.turnedNew{t':Nat}{ch:List Addr}{T:Addr}{ob:HO}(I:Inv X pins σ H s)(k:∀ b o,b∉ch->s.heap.get? b=some o->h'.get? b=some o)(hf:∀ b∈ch,eJ X pins H b)(hT:s.heap.objs.size<=T)
  (new:ObjOk X.prog X.w (upd H T ob) h' T ob):Inv X pins σ (upd H T ob) { s with heap:=h',toks:=t' }:=by
 have hn:H T=none:=I.hok.fresh hT;have vj:∀ b u,H b=some u->b∉ch:=fun b u e z=>by
  have q:=(hf b z).1;rw [q]at e;cases e
 refine I.step (g':=s.gens) (d':=s.drawn) (ch:=ch) (fun b hb=>⟨(hf b hb).2.2.2.1,(hf b hb).2.1,(hf b hb).2.2.2.2.1,(hf b hb).2.2.2.2.2⟩) (fun b o _ _ hc e _=>k b o hc e) (fun b o _ _ hc e _=>⟨o.slots,k b o hc e⟩)
  (fun b o _ e n=>?_) (fun b o hc e=>⟨o,k b o hc e⟩) (fun b xs e=>?_) (fun b o u e=>?_) (fun b ps e=>⟨#[],?_⟩) (fun m hm=>?_) (fun b u e=>?_) I.bare
 ·rw [aj (eF (iC (cy e) hT))];exact n
 ·rw [aj (a9 e hn)];exact e
 ·rw [aj (a9 e hn)];exact e
 ·rw [aj (a9 e hn),e];simp
 ·obtain⟨o,es,ep,ho,r⟩:=hm;exact⟨o,es,ep,k _ o (fun z=>(hf _ z).2.1 rfl) ho,r⟩
 ·by_cases hb:b=T
  ·subst hb;rw [Z2j]at e;cases e;exact new
  ·rw [aj hb]at e;refine(I.hok b u e).stay (fun c v hc q=>k c v ?_ q) (fun c q=>by rw [aj (a9 q hn)];exact q) fun c xs q=>by rw [aj (a9 q hn)];exact q
   rcases hc with z |z
   ·rw [z];exact vj b u e
   ·exact vj c _ z
end
section
variable{X:Cx}
theorem pj{tg:Expr}{pins:List (Addr×Obj)}{σ:St}{H:Hp}{s:Shared}{R:It->Hp->Prop}{J:It}{tn:Nat->Heap->Prop}{tk:Nat}(I:Inv X pins σ H s)(o:Obj)
  (T:iY X.prog X.w X.K tg J [s.heap.objs.size] s.heap.objs.size tn)(st:tn 0 (s.heap.push o))(q:R J H):ES X pins σ tg R (.ref s.heap.objs.size) { s with heap:=s.heap.push o,toks:=tk }:=by
 refine⟨s.heap.objs.size,[s.heap.objs.size],tn,J,H,rfl,I.kept fun b ob e=>dD _ e,T,st,fun b hb=>?_,q⟩;have e:b=s.heap.objs.size:=by simpa using hb
 subst e;exact I.fpOk (bK _) (I.hok.fresh (bK _))
end
section
variable{X:Cx}{tg:Expr}
end
def At(K:aq)(a:Addr)(n:Nat):It :=
 ⟨fun i H=>i<n/\∃ (xs:List V)(x:V),SqL K H a xs/\xs[n-1-i]?=some x,fun i H x H'=>H'=H/\∀ xs,SqL K H a xs->xs[n-1-i]?=some x,fun i _=>n<=i⟩
theorem qk{P:Program}{w:World}{K:aq}{tg:Expr}(a it:Addr)(n:Nat):iY P w K tg (At K a n) [it] it (fun i h=>i<=n/\h.IsRevIter it a ((n:Int)-1-(i:Nat))) where
 mem:=by simp
 obj:=fun i h st b hb=>by
  have e:b=it:=by simpa using hb
  subst e;obtain⟨_,o,e,c,d⟩:=st;exact⟨o,e,fun v z=>by rw [d]at z;cases z⟩
 keep:=fun i h h' st k=>⟨st.1,st.2.at fun o e=>k it (by simp) o e⟩
 item:=by
  intro X hP hw hK hc i pins s σ H E I hf st hg;subst hP hw hK;obtain⟨ml,xs,x,hq,hx⟩:=hg;obtain⟨its,rv,p,hz⟩:=I.list hq;obtain⟨u,hu,ru⟩:=rv.get hx;obtain⟨f0,f1,f2,f3,f4,f5⟩:=hf it (by simp)
  obtain⟨_,dR⟩:=st;have e1:(n:Int)-1-((i:Nat):Int)=((n-1-i:Nat):Int):=by omega
  rw [e1]at dR;refine wpAny_pyNext_rev_item dR p.isList (x:=u) (by simpa using hu) fun h' jF sb=>?_
  have e2:((n-1-i:Nat):Int)-1=(n:Int)-1-((i+1:Nat):Int):=by omega
  rw [e2]at jF;have I1:Inv X pins σ H { s with heap:=h' }:=I.turned (t':=s.toks) (fun b o hb e=>(sb.2 b hb).trans e) f0 f1 f3 f4 f5
  obtain⟨o,e,c,d⟩:=id jF;exact⟨u,rfl,kM (s:={ s with heap:=h' }) e c d (by decide) ⟨x,H,I1,ru,⟨rfl,fun ys hy=>by rw [I.list_inj hy hq];exact hx⟩,⟨ml,jF⟩,fun b hb=>(hf b hb).1⟩⟩
 done:=by
  intro X hP hw hK hc i pins s σ H E I hf st hg;subst hP hw hK;obtain⟨f0,f1,f2,f3,f4,f5⟩:=hf it (by simp)
  obtain⟨ml,dR⟩:=st;have u0:n<=i:=hg;have e1:(n:Int)-1-((i:Nat):Int)=-1:=by omega
  rw [e1]at dR;exact wpAny_pyNext_rev_end (I.ok.hd hc) dR fun h' eb=>⟨rfl,I.turned (t':=s.toks) (fun b o hb e=>eb b o hb e) f0 f1 f3 f4 f5⟩
 self:=fun A i s Q E st h=>wpAny_pyIter_revIter st.2 h
def La(K:aq)(ta:TA):TI:=fun σ H R=>ta σ H fun vs H1=>∃ (a:Addr)(xs:List V),vs=[.ref a]/\SqL K H1 a xs/\R (At K a xs.length) H1
section
variable{X:Cx}{tg:Expr}
theorem Z9M{e:Expr}{ta:TA}{p pos:Pos}(hg:Gl X "reversed")(hm:X.mg "reversed" = none)(ha:PA X [e] ta)(hs:autoParam (starEach [e] X.env=[(false,eval e X.env)]) aR._auto_1):PI X tg (.Call (.Name "reversed" p) [e] [] pos) (La X.K ta):=by
 intro pins s σ H R I h;refine Call_ (Bj I hg hm Z7V (PyProof.Rows.callWith_type1 (aP (ha pos pins s σ H _ I h) fun us s1 ⟨vs,H1,I1,r1,q1⟩=>?_) hs rfl));obtain⟨a,xs,e,hq,q⟩:=q1;subst e;cases r1 with
 |cons r rr =>
  cases rr;cases r;obtain⟨its,rv,p',hz⟩:=I1.list hq;have hl:=rv.length;have e1:((its.toArray.size:Nat):Int)-1=(xs.length:Int)-1-((0:Nat):Int):=by simp only [fY];omega
  refine call_reversed_list p'.isList (wpAny_pyIter_revIter (l:=a) (i:=((its.toArray.size:Nat):Int)-1) ⟨_,fi _ rfl,rfl,rfl⟩ ?_);refine pj (tk:=s1.toks) I1 _ (qk a _ xs.length) ⟨fj _,?_⟩ q;rw [<-e1];exact⟨_,fi _ rfl,rfl,rfl⟩
end
section
variable{prog:Program}{w:World}{A:Around}{E:Value->Shared->Prop}{s:Shared}
theorem Z8z{it d:Addr}{i n ep:Nat}{od:Obj}{es:Array DictEntry}{en:DictEntry}{Q:Option Value->Shared->Prop}(dR:s.heap.IsKeyIter it d i n ep)(gb:s.heap.get? d=some od)(iI:od.data=.dict es ep)
  (hsz:es.size=n)(hx:es[i]?=some en)(hQ:∀ h',h'.IsKeyIter it d (i+1) n ep->Heap.SameBut it s.heap h'->Q (some en.key) { s with heap:=h' }):wpAny (model prog w) A (pyNext (.ref it)) Q E s:=by
 obtain⟨o,ho,hc,hd⟩:=id dR;unfold pyNext;refine aa (iy (d6 (name:=Str.ofString "__next__") dR.typeIs F.slot_dict_keyiterator_next
  (cF F.slot_dict_keyiterator_next dR.typeIs F.entry_dict_keyiterator_next ?_ (F.args_dict_keyiterator_next_1 _))))
 refine aa (af ?_);refine aa ?_;refine aa ?_
 first |refine aa (cQ dR.typeIs (af ?_)) |refine aa (dO dR.typeIs (af ?_))
 refine aa (lU ho hd ?_);have gZ:Builtin.Dict_items.ownsTuple "dict_keyiterator" = false:=by decide
 simp only [gZ,AB,bu];show wpAny _ _ (if (Value.ref d==Value.none)=true then _ else _) _ _ s;rw [ac (show ¬ ((Value.ref d==Value.none)=true)from fh)];refine aa (af ?_);refine aa (c9 gb iI ?_);rw [ac (by rw [hsz];simp)]
 refine aa (af ?_);refine aa (dS gb iI ?_);rw [ac (by simp)]
 refine af ?_;obtain⟨wW,B5⟩:=qv.mp hx;simp only [show ¬ ((i:Int)<0)from by omega,bu,AO,AD wW]
 refine aa ?_
 first |refine aa (cQ dR.typeIs (af ?_)) |refine aa (dO dR.typeIs (af ?_))
 refine aa (wpAny_isOneOf_keyiter dR.typeIs ?_);show wpAny _ _ (setField (.ref it) 1 (rawInt ((i:Int)+1)) >>= _) _ _ s;refine aa (bD ho hd (by simp) ?_)
 have sK:(s.heap.update it (Obj.mapFields (·.setIfInBounds 1 (rawInt ((i:Int)+1))))).IsKeyIter it d (i+1) n ep :=
  ⟨_,lX _ ho (Obj.isFreed_of_fields (Obj.data_mapFields hd _)),(Obj.cls_mapFields ..).trans hc,by rw [Obj.data_mapFields hd];simp [rawInt]⟩
 refine aa (bw ?_);refine aa (wpAny_isOneOf_keyiter (s:={ s with heap:=s.heap.update it (Obj.mapFields (·.setIfInBounds 1 (rawInt ((i:Int)+1)))) }) sK.typeIs ?_)
 show wpAny _ _ (pure es[i].key) _ _ _;rw [B5];exact af (af ⟨_,rfl,af (hQ _ sK (Heap.SameBut.update ..))⟩)
theorem Z9k{it d:Addr}{i n ep:Nat}{od:Obj}{es:Array DictEntry}{Q:Option Value->Shared->Prop}(hh:A.handled=none)(dR:s.heap.IsKeyIter it d i n ep)(gb:s.heap.get? d=some od)(iI:od.data=.dict es ep)
  (hsz:es.size=n)(u0:n<=i)(hQ:∀ h',Heap.ExtBut it s.heap h'->Q none { s with heap:=h' }):wpAny (model prog w) A (pyNext (.ref it)) Q E s:=by
 obtain⟨o,ho,hc,hd⟩:=id dR;unfold pyNext;refine aa (iy (d6 (name:=Str.ofString "__next__") dR.typeIs F.slot_dict_keyiterator_next
  (cF F.slot_dict_keyiterator_next dR.typeIs F.entry_dict_keyiterator_next ?_ (F.args_dict_keyiterator_next_1 _))))
 refine aa (af ?_);refine aa ?_;refine aa ?_
 first |refine aa (cQ dR.typeIs (af ?_)) |refine aa (dO dR.typeIs (af ?_))
 refine aa (lU ho hd ?_);have gZ:Builtin.Dict_items.ownsTuple "dict_keyiterator" = false:=by decide
 simp only [gZ,AB,bu];show wpAny _ _ (if (Value.ref d==Value.none)=true then _ else _) _ _ s;rw [ac (show ¬ ((Value.ref d==Value.none)=true)from fh)];refine aa (af ?_);refine aa (c9 gb iI ?_);rw [ac (by rw [hsz];simp)]
 refine aa (af ?_);refine aa (dS gb iI ?_);rw [ac (by simp)]
 refine af ?_;have Ko:es.size<=i:=by rw [hsz];exact u0
 simp only [show ¬ ((i:Int)<0)from by omega,bu,AO,Ha Ko]
 refine aa ?_
 first |refine aa (cQ dR.typeIs (af ?_)) |refine aa (dO dR.typeIs (af ?_))
 show wpAny _ _ (setField (.ref it) 0 .none >>= _) _ _ s;refine aa (bD ho hd (by simp) ?_)
 show wpAny _ _ (newExc (.type "StopIteration") [] >>= _) _ _ _;refine aa ?_;simp only [newExc,newTuple];refine aa (aA ?_ (by size_fits))
 refine aa (m:=firstArgMember _ _) (wpAny_of_eq (a:=Value.none) (by first |rfl |(simp only [firstArgMember];rfl)) ?_)
 refine aA ?_ (by size_fits)
 simp only [raiseNew];refine aa (wpAny_handled ?_);rw [show A.in1.handled=none from hh];refine aa (af (lV ?_));refine aa (wpAny_isInstance (T:="StopIteration") (b:=true) ⟨_,fi _ rfl,rfl⟩ isSubtype_stop ?_);exact af (hQ _ (((Heap.SameBut.update ..).extBut.push _).push _))
end
section
variable{X:Cx}{pins:List (Addr×Obj)}{σ:St}{H:Hp}{s:Shared}{d:Addr}{o:Obj}
end
section
variable{P:Program}{w:World}{K:aq}{tg:Expr}{d:Addr}{o:Obj}{es:Array DictEntry}{ep:Nat}
end
section
variable{X:Cx}{tg e:Expr}{td:TE}{cz br:Pos}
end
def Ar(K:aq)(a:Addr):It :=
 ⟨fun i H=>∃ (xs:List V)(x:V),SqL K H a xs/\xs[i]?=some x,fun i H v H'=>∃ T x,v=.ref T/\H T=none/\H'=upd H T (.tup [.int (i:Nat),x])/\∀ xs,SqL K H a xs->xs[i]?=some x,fun i H=>∃ xs:List V,SqL K H a xs/\xs.length<=i⟩
theorem Zbm{P:Program}{w:World}{K:aq}{gE:List Expr}{kk:Nat}{dN:Pos}(a e it:Addr) :
  iY P w K (.Tuple gE kk dN) (Ar K a) [e,it] e (fun i h=>(∃ ir,IsEnum h e it ((i:Nat):Int) ir)/\h.IsListIter it a i/\e≠it) where
 mem:=by simp
 obj:=fun i h st b hb=>by
  obtain⟨⟨ir,he⟩,⟨o,ho,hc,hd⟩,_⟩:=st;have e':b=e\/b=it:=by simpa using hb
  rcases e' with z |z
  ·rw [z];exact⟨_,he,fun v q=>nomatch q⟩
  ·rw [z];exact⟨o,ho,fun v q=>by rw [hd]at q;cases q⟩
 keep:=fun i h h' st k=>let ⟨⟨ir,he⟩,hi,bQ⟩:=st;⟨⟨ir,k e (by simp) _ he⟩,hi.at fun o q=>k it (by simp) o q,bQ⟩
 item:=by
  intro X hP hw hK hc i pins s σ H E I hf st hg;subst hP hw hK;obtain⟨⟨ir,he⟩,dR,bQ⟩:=st;obtain⟨xs,x,hq,hx⟩:=hg;obtain⟨its,rv,p,hz⟩:=I.list hq;obtain⟨u,hu,ru⟩:=rv.get hx;have QL:e<s.heap.objs.size:=cy he;have sJ:it<s.heap.objs.size:=by obtain⟨_,q,_⟩:=dR;exact cy q
  refine wpAny_pyNext_enum_item he dR p.isList (x:=u) (by simpa using hu) bQ fun h' ho sK hT hsz hk=>?_
  refine⟨_,rfl,wpAny_letOwnedTupleGo_enum (s:={ s with heap:=h',toks:=s.toks+1 }) ho fun mh B4 sb=>?_⟩
  have BS:mh.get? s.heap.objs.size=some { cls:=.type "tuple",data:=.seq #[.int i s.toks,u] }:=(sb.2 _ (kn QL)).trans hT;have new:ObjOk X.prog X.w (upd H s.heap.objs.size (.tup [.int (i:Nat),x])) mh s.heap.objs.size (.tup [.int (i:Nat),x]) :=
   ⟨by show 2<=sizeLine;decide,[.int i s.toks,u],.cons ⟨_,rfl⟩ (.cons ru .nil),⟨_,BS,rfl,_,rfl⟩⟩
  have I1:Inv X pins σ (upd H s.heap.objs.size (.tup [.int (i:Nat),x])) { s with heap:=mh,toks:=s.toks+1 } :=
   I.turnedNew (ch:=[e,it]) (fun b ob hb q=>(sb.2 b (fun z=>hb (by simp [z]))).trans (hk b ob (fun z=>hb (by simp [z])) (fun z=>hb (by simp [z])) q)) hf (bK _) new
  refine⟨.ref s.heap.objs.size,_,I1,rfl,⟨_,x,rfl,I.hok.fresh (bK _),rfl,fun ys hy=>by rw [I.list_inj hy hq];exact hx⟩,⟨⟨u,?_⟩,sK.at fun o q=>(sb.2 it (Ne.symm bQ)).trans q,bQ⟩,fun b hb=>?_⟩
  ·have e1:((i+1:Nat):Int)=(i:Int)+1:=by omega
   rw [e1];exact B4
  ·have j8:b<s.heap.objs.size:=by
    have e':b=e\/b=it:=by simpa using hb
    rcases e' with z |z
    ·rw [z];exact QL
    ·rw [z];exact sJ
   rw [aj (eF j8)];exact(hf b hb).1
 done:=by
  intro X hP hw hK hc i pins s σ H E I hf st hg;subst hP hw hK;obtain⟨⟨ir,he⟩,dR,bQ⟩:=st;obtain⟨xs,hq,hx⟩:=hg;obtain⟨its,rv,p,hz⟩:=I.list hq;obtain⟨f0,f1,f2,f3,f4,f5⟩:=hf it (by simp)
  have hl:=rv.length;exact wpAny_pyNext_enum_end (I.ok.hd hc) he dR p.isList (by simp;omega) fun h' eb=>⟨rfl,I.turned (t':=s.toks) (fun b o hb q=>eb b o hb q) f0 f1 f3 f4 f5⟩
 self:=fun A i s Q E st h=>let ⟨⟨_,he⟩,_⟩:=st;wpAny_pyIter_enum he h
def CL(K:aq)(ta:TA):TI:=fun σ H R=>ta σ H fun vs H1=>∃ a xs,vs=[.ref a]/\SqL K H1 a xs/\R (Ar K a) H1
theorem Fy{X:Cx}{e:Expr}{ta:TA}{p pos dN:Pos}{gE:List Expr}{kk:Nat}(hg:Gl X "enumerate")(hm:X.mg "enumerate" = none)(ha:PA X [e] ta)(hs:autoParam (starEach [e] X.env=[(false,eval e X.env)]) aR._auto_1) :
  PI X (.Tuple gE kk dN) (.Call (.Name "enumerate" p) [e] [] pos) (CL X.K ta):=by
 intro pins s σ H R I h;refine Call_ (Bj I hg hm boot_enumerate (PyProof.Rows.callWith_type1 (aP (ha pos pins s σ H _ I h) fun us s1 ⟨vs,H1,I1,r1,q1⟩=>?_) hs rfl));obtain⟨a,xs,ex,hq,q⟩:=q1;subst ex;cases r1 with
 |cons r rr =>
  cases rr;cases r;obtain⟨its,rv,p',hz⟩:=I1.list hq;refine call_enumerate_list p'.isList fun h' he dR hsz hk=>wpAny_pyIter_enum he ?_;have I2:Inv X pins σ H1 { s1 with heap:=h' }:=I1.kept (t':=s1.toks) hk
  refine⟨s1.heap.objs.size+1,[s1.heap.objs.size+1,s1.heap.objs.size],_,_,H1,rfl,I2,Zbm a (s1.heap.objs.size+1) s1.heap.objs.size,⟨⟨.none,he⟩,dR,Nat.succ_ne_self _⟩,fun b hb=>?_,q⟩;have e':b=s1.heap.objs.size+1\/b=s1.heap.objs.size:=by simpa using hb
  have i8:s1.heap.objs.size<=b:=by
   rcases e' with z |z
   ·rw [z];exact zf _ _
   ·rw [z];exact bK _
  exact I1.fpOk i8 (I1.hok.fresh i8)
theorem ZbG:bootBuiltins "zip" = some (.type "zip"):=by decide +kernel
def Au(K:aq)(a b:Addr):It :=
 ⟨fun i H=>∃ (xs ys:List V)(x y:V),SqL K H a xs/\SqL K H b ys/\xs[i]?=some x/\ys[i]?=some y,
  fun i H v H'=>∃ T x y,v=.ref T/\H T=none/\H'=upd H T (.tup [x,y])/\(∀ xs,SqL K H a xs->xs[i]?=some x)/\∀ ys,SqL K H b ys->ys[i]?=some y,
  fun i H=>∃ xs ys:List V,SqL K H a xs/\SqL K H b ys/\(xs.length<=i\/ys.length<=i)⟩
theorem ql{P:Program}{w:World}{K:aq}{gE:List Expr}{kk:Nat}{dN:Pos}{a b z TI TO i1 i2:Addr}(D:ZipApart z TI TO i1 i2 a b) :
  iY P w K (.Tuple gE kk dN) (Au K a b) [z,TI,TO,i1,i2] z (fun i h=>IsZip h z TI TO .none/\IsPair h TI (.ref i1) (.ref i2)/\(∃ x y,IsPair h TO x y)/\h.IsListIter i1 a i/\h.IsListIter i2 b i) where
 mem:=by simp
 obj:=fun i h st c hc=>by
  obtain⟨hz,og,⟨x,y,qG⟩,⟨o1,e1,_,d1⟩,⟨o2,e2,_,d2⟩⟩:=st;have e':c=z\/c=TI\/c=TO\/c=i1\/c=i2:=by simpa using hc
  rcases e' with q |q |q |q |q
  ·rw [q];exact⟨_,hz,fun v q=>nomatch q⟩
  ·rw [q];exact⟨_,og,fun v q=>nomatch q⟩
  ·rw [q];exact⟨_,qG,fun v q=>nomatch q⟩
  ·rw [q];exact⟨o1,e1,fun v q=>by rw [d1]at q;cases q⟩
  ·rw [q];exact⟨o2,e2,fun v q=>by rw [d2]at q;cases q⟩
 keep:=fun i h h' st k=>by
  obtain⟨hz,og,⟨x,y,qG⟩,h1,h2⟩:=st;exact⟨k z (by simp) _ hz,k TI (by simp) _ og,⟨x,y,k TO (by simp) _ qG⟩,h1.at fun o q=>k i1 (by simp) o q,h2.at fun o q=>k i2 (by simp) o q⟩
 item:=by
  intro X hP hw hK hc i pins s σ H E I hf st hg;subst hP hw hK;obtain⟨hz,og,⟨x0,y0,qG⟩,h1,h2⟩:=st;obtain⟨xs,ys,x,y,zV,zW,hx,hy⟩:=hg;obtain⟨its,rv,p,_⟩:=I.list zV;obtain⟨gG,Gb,p2,_⟩:=I.list zW;obtain⟨u,hu,ru⟩:=rv.get hx;obtain⟨u2,CC,ru2⟩:=Gb.get hy;have Q8:z<s.heap.objs.size:=cy hz;refine wpAny_pyNext_zip_item D hz og qG h1 h2 p.isList p2.isList (x:=u) (y:=u2) (by simpa using hu) (by simpa using CC) fun h' z' TO' FS JU hT hsz hk=>?_
  refine⟨_,rfl,wpAny_letOwnedTupleGo_zip (s:={ s with heap:=h' }) z' fun mh z'' sb=>?_⟩
  have BS:mh.get? s.heap.objs.size=some { cls:=.type "tuple",data:=.seq #[u,u2] }:=(sb.2 _ (kn Q8)).trans hT;have new:ObjOk X.prog X.w (upd H s.heap.objs.size (.tup [x,y])) mh s.heap.objs.size (.tup [x,y]) :=
   ⟨by show 2<=sizeLine;decide,[u,u2],.cons ru (.cons ru2 .nil),⟨_,BS,rfl,_,rfl⟩⟩
  have I1:Inv X pins σ (upd H s.heap.objs.size (.tup [x,y])) { s with heap:=mh } :=
   I.turnedNew (t':=s.toks) (ch:=[z,TI,TO,i1,i2]) (fun c o hb q=>(sb.2 c (fun q'=>hb (by simp [q']))).trans (hk c o (fun q'=>hb (by simp [q'])) (fun q'=>hb (by simp [q'])) (fun q'=>hb (by simp [q'])) (fun q'=>hb (by simp [q'])) q)) hf (bK _) new
  refine⟨.ref s.heap.objs.size,_,I1,rfl,⟨_,x,y,rfl,I.hok.fresh (bK _),rfl,fun l hl=>by rw [I.list_inj hl zV];exact hx,fun l hl=>by rw [I.list_inj hl zW];exact hy⟩,⟨z'',?_,⟨u,u2,?_⟩,?_,?_⟩,fun c zO=>?_⟩
  ·exact(sb.2 _ D.TIz).trans (hk _ _ D.TIz D.TITO D.TIi1 D.TIi2 og)
  ·exact(sb.2 _ D.TOz).trans TO'
  ·exact FS.at fun o q=>(sb.2 _ D.i1z).trans q
  ·exact JU.at fun o q=>(sb.2 _ D.i2z).trans q
  ·have cc:c<s.heap.objs.size:=by
    have e':c=z\/c=TI\/c=TO\/c=i1\/c=i2:=by simpa using zO
    rcases e' with q |q |q |q |q
    ·rw [q];exact Q8
    ·rw [q];exact cy og
    ·rw [q];exact cy qG
    ·rw [q];obtain⟨_,e1,_⟩:=h1;exact cy e1
    ·rw [q];obtain⟨_,e2,_⟩:=h2;exact cy e2
   rw [aj (eF cc)];exact(hf c zO).1
 done:=by
  intro X hP hw hK hc i pins s σ H E I hf st hg;subst hP hw hK;obtain⟨hz,og,⟨x0,y0,qG⟩,h1,h2⟩:=st;obtain⟨xs,ys,zV,zW,sI⟩:=hg;obtain⟨its,rv,p,_⟩:=I.list zV;obtain⟨gG,Gb,p2,_⟩:=I.list zW;have l1:=rv.length;have l2:=Gb.length;have he:its.toArray[i]?=none\/gG.toArray[i]?=none:=by
   rcases sI with q |q
   ·exact .inl (by simp;omega)
   ·exact .inr (by simp;omega)
  exact wpAny_pyNext_zip_end (I.ok.hd hc) D hz og qG h1 h2 p.isList p2.isList he fun h' hk=>⟨rfl,I.turnedL (t':=s.toks) (ch:=[z,TI,TO,i1,i2]) (fun c o hb q =>
   hk c o (fun q'=>hb (by simp [q'])) (fun q'=>hb (by simp [q'])) (fun q'=>hb (by simp [q'])) (fun q'=>hb (by simp [q'])) q) hf⟩
 self:=fun A i s Q E st h=>wpAny_pyIter_zip st.1 h
def Lc(K:aq)(ta:TA):TI:=fun σ H R=>ta σ H fun vs H1=>∃ a b xs ys,vs=[.ref a,.ref b]/\SqL K H1 a xs/\SqL K H1 b ys/\R (Au K a b) H1
theorem yo{X:Cx}{e e2:Expr}{ta:TA}{p pos dN:Pos}{gE:List Expr}{kk:Nat}(hg:Gl X "zip")(hm:X.mg "zip" = none)(ha:PA X [e,e2] ta)
  (hs:autoParam (starEach [e,e2] X.env=(false,eval e X.env)::starEach [e2] X.env) aR._auto_1)(i9:autoParam ((backTo pos (starEach [e2] X.env)).any (·.1)=false) aR._auto_1) :
  PI X (.Tuple gE kk dN) (.Call (.Name "zip" p) [e,e2] [] pos) (Lc X.K ta):=by
 intro pins s σ H R I h;refine Call_ (Bj I hg hm ZbG (PyProof.Rows.callWith_type1 (aP (ha pos pins s σ H _ I h) fun us s1 ⟨vs,H1,I1,r1,q1⟩=>?_) hs i9));obtain⟨a,b,xs,ys,ex,zV,zW,q⟩:=q1;subst ex;cases r1 with
 |cons r rr =>
  cases rr with
  |cons r' rr =>
   cases rr;cases r;cases r';obtain⟨its,rv,p1,_⟩:=I1.list zV;obtain⟨gG,Gb,p2,_⟩:=I1.list zW;have la:a<s1.heap.objs.size:=p1.lt;have lb:b<s1.heap.objs.size:=p2.lt;refine call_zip_2 p1.isList p2.isList fun h' hz og qG h1 h2 hsz hk=>wpAny_pyIter_zip hz ?_;have I2:Inv X pins σ H1 { s1 with heap:=h' }:=I1.kept (t':=s1.toks) hk
   refine⟨s1.heap.objs.size+4,[s1.heap.objs.size+4,s1.heap.objs.size+2,s1.heap.objs.size+3,s1.heap.objs.size,s1.heap.objs.size+1],_,_,H1,rfl,I2,ql (PySem.W.ktu_apart s1.heap.objs.size a b la lb),⟨hz,og,⟨_,_,qG⟩,h1,h2⟩,fun c zO=>?_,q⟩;have e':c=s1.heap.objs.size+4\/c=s1.heap.objs.size+2\/c=s1.heap.objs.size+3\/c=s1.heap.objs.size\/c=s1.heap.objs.size+1:=by simpa using zO
   have i8:s1.heap.objs.size<=c:=by
    rcases e' with z |z |z |z |z
    ·rw [z];exact zf _ _
    ·rw [z];exact zf _ _
    ·rw [z];exact zf _ _
    ·rw [z];exact bK _
    ·rw [z];exact zf _ _
   exact I1.fpOk i8 (I1.hok.fresh i8)
end L2
section
namespace Bits
open PySem PyProof.Rows
end Bits
end
section
namespace TL
open PySem PySem.Builtin PySem.Builtin.Str PySem.StrLaws
end TL
end
namespace L2
open PySem PySem.Spec PyProof.Rows
section
variable{X:Cx}{pins:List (Addr×Obj)}{σ:St}{H:Hp}{s:Shared}{Q:VK}
end
section
variable{X:Cx}
end
section
variable{X:Cx}{o e:Expr}{to te:TE}
end
end L2
namespace L2
open PySem PySem.Spec PyProof.Rows
section
variable{X:Cx}
end
end L2
namespace Att
open PySem PySem.W PySem.Calls PyProof.Rows
section
variable{prog:Program}{w:World}{A:Around}{E:Value->Shared->Prop}{s:Shared}{K:Frag}
end
end Att
namespace L2
open PySem PySem.Spec PyProof.Rows
end L2
namespace L2
open PySem PySem.Spec PyProof.Rows
end L2
namespace L2
open PySem PySem.Spec PyProof.Rows
def io(s:Stmt)(j:Nat):Stmt:=match s with
 |.ClassDef _ _ _ body _ _ _ _ _ _ _=>body.getD j (.Pass ⟨0,0,0,0⟩)
 |_=>.Pass ⟨0,0,0,0⟩
def lF(s:Stmt):Arguments:=match s with
 |.FunctionDef _ a _ _ _ _ _ _ _ _=>a
 |_=>{ posonlyargs:=[],args:=[],vararg:=none,kwonlyargs:=[],kw_defaults:=[],kwarg:=none,defaults:=[] }
def eP(s:Stmt):List Stmt:=match s with
 |.FunctionDef _ _ b _ _ _ _ _ _ _=>b
 |_=>[]
def bj(s:Stmt):Scope:=match s with
 |.FunctionDef _ _ _ _ _ _ sc _ _ _=>sc
 |_=>{ kind:=.function,names:=[],isGenerator:=false,isCoroutine:=false }
abbrev CX0:jV:=fun _ _ _ _ _ _=>False
abbrev E0:XK:=fun _ _ _=>False
theorem aC{X:Cx}:jm CX0 X E0:=fun _ _ _ _ _ _ _ h=>h.elim
structure Fun(K:aq)(x qual:Str)(st:Stmt)(f:Addr)(fd:FuncData):Prop where
 ex:∃ (oc:Value)(od:Option Addr)(kV gU pm:Value)(an:Option Addr)(bp ct:Value)(jb:Array (Option Value)),
  fd=PySem.W.fnOf x qual (lF st) (eP st) (bj st) .none kV gU pm an bp ct/\K.lookup f=some ⟨oc,od,.func fd,jb⟩/\PySem.W.codeIn K bp qual=true
 kp:PySem.W.keepIn K (.ref f)=true
section
variable{P:Program}{w:World}{K:aq}{mg:Str->Option Value}{base:Heap}
theorem Fun.ok{x qual:Str}{st:Stmt}{f:Addr}{fd:FuncData}{N ps:List Str}{k:Nat}{sp:Sp}(F:Fun K x qual st f fd)(S:cU N ps (bj st))(len:∀ vs H Q E,sp vs H Q E->vs.length=ps.length)
  (gX:∀ (bp:Value)(A:Around)(outer:List Env)(s:Shared)(H:Hp)(vs:List V)(Q:VK)(E:XK),Room k (A.deeper (envOfC qual (bj st) s.heap.objs.size f bp))->sp vs H Q E ->
    ∃ t,PSs (j5 CX0 P w K mg base N qual (bj st) f bp A outer s H E).nox (eP st) t/\t { nx:=fun _ H'=>Q .non H',rt:=Q } (start N vs) H):am P w K mg base CX0 (k+1) f fd ps sp:=by
 obtain⟨oc,od,kV,gU,pm,an,bp,ct,jb,rfl,lk,jh⟩:=F.ex;refine nU lk jh S len fun A outer s H vs Q E hr kb=>?_;obtain⟨t,h,q⟩:=gX bp A outer s H vs Q E hr kb;exact⟨t,h.nox,q⟩
theorem Fun.binds{x qual:Str}{st:Stmt}{f:Addr}{fd:FuncData}{ps:List Str}(F:Fun K x qual st f fd)
  (h:∀ (kV gU pm:Value)(an:Option Addr)(bp ct:Value)(us:List Value),us.length=ps.length->bindArgs (PySem.W.fnOf x qual (lF st) (eP st) (bj st) .none kV gU pm an bp ct) ⟨us,[]⟩=pure (ps.zip us)):Binds K fd ps []:=by
 obtain⟨oc,od,kV,gU,pm,an,bp,ct,jb,rfl,lk,jh⟩:=F.ex;exact .all (h kV gU pm an bp ct)
theorem wK{x qual:Str}{st:Stmt}{f:Addr}{oc:Value}{od an:Option Addr}{jb:Array (Option Value)}{kV gU pm bp ct:Value}(l:K.lookup f=some ⟨oc,od,.func (PySem.W.fnOf x qual (lF st) (eP st) (bj st) .none kV gU pm an bp ct),jb⟩)
  (c:PySem.W.codeIn K bp qual=true)(k:PySem.W.keepIn K (.ref f)=true):Fun K x qual st f (PySem.W.fnOf x qual (lF st) (eP st) (bj st) .none kV gU pm an bp ct):=⟨⟨oc,od,kV,gU,pm,an,bp,ct,jb,rfl,l,c⟩,k⟩
end
theorem eE{A:Around}{k:Nat}(hr:Room k A):A.units+1<cLine:=Nat.lt_of_le_of_lt (Nat.add_le_add_left (by decide:1<=64) _) hr.units
section
variable{X:Cx}
theorem pv(i:Nat){x:Str}{pos:Pos}(hN:autoParam (X.N[i]?=some x) aR._auto_1)(hv:autoParam (za X.env.scope x) aV._auto_1)(hd:(x==("__debug__" : Str))=false:=by decide)
  (jh:(x==("__classdict__" : Str))=false:=by decide):PE X (.Name x pos) (EA i):=pc hN hv hd jh
end
theorem bt{c A B:Prop}[Decidable c](h1:c->A)(h2:¬ c->B):if c then A else B:=by
 by_cases h:c
 ·rw [ae h];exact h1 h
 ·rw [ac h];exact h2 h
def Same(H H':Hp):Prop:=∀ b o,H b=some o->H' b=some o
theorem Same.refl(H:Hp):Same H H:=fun _ _ h=>h
theorem Same.trans{H H1 H2:Hp}(a:Same H H1)(b:Same H1 H2):Same H H2:=fun c o h=>b c o (a c o h)
theorem Same.free{H H':Hp}(e:Same H H'){l:Addr}(h:H' l=Option.none):H l=Option.none:=by
 cases q:H l with
 |none=>rfl
 |some o =>
  rw [e l o q]at h;cases h
theorem Same.seq{K:aq}{H H':Hp}{a:Addr}{xs:List V}(e:Same H H')(h:SqL K H a xs):SqL K H' a xs:=by
 rcases h with(h |⟨o,h⟩) |h
 ·exact .inl (.inl (e _ _ h))
 ·exact .inl (.inr ⟨o,e _ _ h⟩)
 ·exact .inr h
section
variable{κ:Type}[DecidableEq κ]
end
end L2
end
section
set_option maxHeartbeats 2000000
namespace L2
open PySem PySem.Spec PyProof.Rows
open PySem.W (WData Codec OpenSpec Well WellAll ReadsW ReadsAllW)
mutual
inductive Dw (K:aq)(H:Hp):V->WData->Prop
 |non:Dw K H .non .none
 |bl (b:Bool):Dw K H (.bl b) (.bool b)
 |int (i:Int):Dw K H (.int i) (.int i)
 |str (x:Str):Dw K H (.str x) (.str x)
 |byt (b:Array UInt8):Dw K H (.byt b) (.bytes b.toList)
 |lst {a:Addr}{xs:List V}{ds:List WData}:SqL K H a xs->ez K H xs ds->Dw K H (.ref a) (.list ds)
 |tup {a:Addr}{xs:List V}{ds:List WData}:SqT K H a xs->ez K H xs ds->Dw K H (.ref a) (.tuple ds)
inductive ez (K:aq)(H:Hp):List V->List WData->Prop
 |nil:ez K H [] []
 |cons {v:V}{vs:List V}{d:WData}{ds:List WData}:Dw K H v d->ez K H vs ds->ez K H (v::vs) (d::ds)
end
theorem ZbR{K:aq}{H:Hp}:∀ ns:List Int,ez K H (ns.map V.int) (ns.map WData.int)
 |[]=>.nil
 |n::r=>.cons (.int n) (ZbR r)
theorem ZbQ{K:aq}{H:Hp}:∀ (ns:List Int)(xs:List V),ez K H xs (ns.map WData.int)->xs=ns.map V.int
 |[],xs,h=>by
  cases h;rfl
 |n::r,xs,h=>by
  cases h with
  |cons h1 h2 =>
   cases h1;rw [ZbQ r _ h2]<;>rfl
section
variable{P:Program}{w:World}{K:aq}{H:Hp}{h:Heap}{R:PySem.W.WRecords}{cl:Str->Option Addr}
theorem yG{a:Addr}{xs:List V}(hok:HOk P w H h)(KX:K.In h)(q:SqL K H a xs):∃ (its:List Value)(o:Obj)(n:Nat),Vals xs its/\h.get? a=some o/\o.cls=.type "list"/\o.data=.seq its.toArray n:=by
 rcases q with q |⟨o,its,n,e,hc,_,hd,_,hv⟩
 ·obtain⟨_,its,n,hv,e⟩:=(show ObjOk P w H h a (.lst xs)from q.ok hok);exact⟨its,_,n,hv,e,rfl,rfl⟩
 ·exact⟨its.toList,o,n,hv,KX _ _ e,hc,by simp [hd]⟩
theorem yH{a:Addr}{xs:List V}(hok:HOk P w H h)(KX:K.In h)(q:SqT K H a xs):∃ (its:List Value)(o:Obj)(n:Nat),Vals xs its/\h.get? a=some o/\o.cls=.type "tuple"/\o.data=.seq its.toArray n:=by
 rcases q with q |⟨o,its,n,e,hc,hd,_,hv⟩
 ·obtain⟨_,its,hv,o,e,hc,n,hd⟩:=(show ObjOk P w H h a (.tup xs)from q.ok hok);exact⟨its,o,n,hv,e,hc,hd⟩
 ·exact⟨its.toList,o,n,hv,KX _ _ e,hc,by simp [hd]⟩
mutual
theorem Dw.reads(hok:HOk P w H h)(KX:K.In h):∀ (d:WData)(v:V)(u:Value),Dw K H v d->RelV v u->∃ as,ReadsW R cl h u d as
 |.none,_,_,x,r=>by
  cases x;cases r;exact⟨_,ReadsW.none⟩
 |.bool b,_,_,x,r=>by
  cases x;cases r;exact⟨_,ReadsW.bool b⟩
 |.int i,_,_,x,r=>by
  cases x;obtain⟨t,rfl⟩:=r;exact⟨_,ReadsW.int i t⟩
 |.str s,_,_,x,r=>by
  cases x;obtain⟨t,rfl⟩:=r;exact⟨_,ReadsW.str s t⟩
 |.bytes b,_,_,x,r=>by
  cases x;obtain⟨t,rfl⟩:=r;exact⟨_,ReadsW.bytes _ t⟩
 |.list ds,_,_,x,r=>by
  cases x with
  |lst hs ha =>
   cases r;obtain⟨its,o,n,rv,ho,hc,hd⟩:=yG hok KX hs;obtain⟨as,hr⟩:=Dw.readsAll hok KX ds _ its ha rv;exact⟨_,ReadsW.list ho hc hd hr⟩
 |.tuple ds,_,_,x,r=>by
  cases x with
  |tup hs ha =>
   cases r;obtain⟨its,o,n,rv,ho,hc,hd⟩:=yH hok KX hs;obtain⟨as,hr⟩:=Dw.readsAll hok KX ds _ its ha rv;exact⟨_,ReadsW.tuple ho hc hd hr⟩
 |.float _,_,_,x,_=>by cases x
 |.dict _,_,_,x,_=>by cases x
 |.bytearray _,_,_,x,_=>by cases x
 |.set _,_,_,x,_=>by cases x
 |.frozenset _,_,_,x,_=>by cases x
 |.obj _ _,_,_,x,_=>by cases x
theorem Dw.readsAll(hok:HOk P w H h)(KX:K.In h):∀ (ds:List WData)(vs:List V)(us:List Value),ez K H vs ds->Vals vs us->∃ as,ReadsAllW R cl h us ds as
 |[],_,_,x,r=>by
  cases x;cases r;exact⟨_,ReadsAllW.nil⟩
 |d::ds,_,_,x,r=>by
  cases x with
  |cons h1 h2 =>
   cases r with
   |cons r1 r2 =>
    obtain⟨as,q1⟩:=Dw.reads hok KX d _ _ h1 r1;obtain⟨bs,q2⟩:=Dw.readsAll hok KX ds _ _ h2 r2;exact⟨_,ReadsAllW.cons q1 q2⟩
end
end
mutual
def lh:WData->Bool
 |.none=>true
 |.bool _=>true
 |.int _=>true
 |.str _=>true
 |.bytes _=>true
 |.list xs=>gH xs
 |.tuple xs=>gH xs
 |_=>false
def gH:List WData->Bool
 |[]=>true
 |x::r=>lh x&&gH r
end
theorem OZ{α:Type}{f:α->WData}(h:∀ a,lh (f a)=true):∀ l:List α,gH (l.map f)=true
 |[]=>rfl
 |x::r=>by
  show(lh (f x)&&gH (r.map f))=true;rw [h x,OZ h r]<;>rfl
theorem uO:∀ (c:Codec)(a:c.denote),lh (c.enc a)=true
 |.unit,_=>rfl
 |.bool,_=>rfl
 |.int _ _,_=>rfl
 |.nat _ _,_=>rfl
 |.u8,_=>rfl
 |.bytes _ _,_=>rfl
 |.text _ _ _ _,_=>rfl
 |.list _ _ c,a=>OZ (fun x=>uO c x) a
 |.pair c d,a=>by
  show(lh (c.enc a.1)&&(lh (d.enc a.2)&&true))=true;rw [uO c a.1,uO d a.2]<;>rfl
 |.triple c d e,a=>by
  show(lh (c.enc a.1)&&(lh (d.enc a.2.1)&&(lh (e.enc a.2.2)&&true)))=true;rw [uO c a.1,uO d a.2.1,uO e a.2.2]<;>rfl
 |.option c,none=>rfl
 |.option c,some x=>uO c x
theorem OS:∀ (cs:List Codec)(a:Codec.denoteAll cs),gH (Codec.encAll cs a)=true
 |[],_=>rfl
 |c::cs,a=>by
  show(lh (c.enc a.1)&&gH (Codec.encAll cs a.2))=true;rw [uO c a.1,OS cs a.2]<;>rfl
theorem HV:∀ {xs:List WData}{d:WData},d∈xs->d.weight<=WData.weightAll xs
 |[],d,h=>absurd h (by simp)
 |x::r,d,h=>by
  show d.weight<=x.weight+1+WData.weightAll r;rcases bv.mp h with e |m
  ·rw [e];omega
  ·have z:=HV m;omega
noncomputable def jH:Value->V
 |.none=>.non
 |.bool b=>.bl b
 |.int i _=>.int i
 |.str x _=>.str x
 |.bytes b _=>.byt b
 |.ref a=>.ref a
 |_=>.non
def OkU(A:List Addr):Value->Prop
 |.none=>True
 |.bool _=>True
 |.int _ _=>True
 |.str _ _=>True
 |.bytes _ _=>True
 |.ref a=>a∈A
 |_=>False
theorem OkU.mono{A B:List Addr}(h:∀ a∈A,a∈B):∀ {u:Value},OkU A u->OkU B u:=fun{u} x=>by
 cases u with
 |ref a=>exact h a x
 |none=>trivial
 |bool b=>trivial
 |int i t=>trivial
 |str s t=>trivial
 |bytes b t=>trivial
 |_=>exact False.elim x
theorem pF{A:List Addr}{u:Value}(x:OkU A u):RelV (jH u) u:=by
 cases u with
 |ref a=>rfl
 |none=>rfl
 |bool b=>rfl
 |int i t=>exact⟨t,rfl⟩
 |str s t=>exact⟨t,rfl⟩
 |bytes b t=>exact⟨t,rfl⟩
 |_=>exact False.elim x
theorem zu{A:List Addr}:∀ {vs:List Value},(∀ u∈vs,OkU A u)->Vals (vs.map jH) vs
 |[],_=>.nil
 |u::r,h=>.cons (pF (h u (cY ..))) (zu fun x hx=>h x (dj _ hx))
def ArgOb(h:Heap)(A:List Addr)(a:Addr):Prop:=∃ vs:List Value,vs.length<=sizeLine/\(∀ u∈vs,OkU A u) /\
 (h.get? a=some { cls:=.type "list",data:=.seq vs.toArray }\/h.get? a=some { cls:=.type "tuple",data:=.seq vs.toArray })
theorem ArgOb.mono{h:Heap}{A B:List Addr}{a:Addr}(k:∀ a∈A,a∈B)(x:ArgOb h A a):ArgOb h B a:=by
 obtain⟨vs,h1,h2,h3⟩:=x;exact⟨vs,h1,fun u hu=>(h2 u hu).mono k,h3⟩
theorem Fe{P:Params}{h:Heap}:∀ {vs:List Value}{ds:List WData},WellAll P h vs ds->vs.length=ds.length
 |_,_,.nil=>rfl
 |_,_,.cons _ b=>by
  show _+1=_+1;rw [Fe b]
theorem OD{P:Params}{h:Heap}{v:Value}{ds:List WData}(x:Well P h v (.list ds)):∃ (a:Addr)(vs:List Value),v=.ref a/\h.get? a=some { cls:=.type "list",data:=.seq vs.toArray }/\WellAll P h vs ds:=by
 cases x with
 |list ho dL=>exact⟨_,_,rfl,ho,dL⟩
theorem Og{P:Params}{h:Heap}{v:Value}{ds:List WData}(x:Well P h v (.tuple ds)):∃ (a:Addr)(vs:List Value),v=.ref a/\h.get? a=some { cls:=.type "tuple",data:=.seq vs.toArray }/\WellAll P h vs ds:=by
 cases x with
 |tuple ho dL=>exact⟨_,_,rfl,ho,dL⟩
theorem OG{P:Params}{h:Heap}{us:List Value}{d:WData}{ds:List WData}(x:WellAll P h us (d::ds)):∃ (v:Value)(vs:List Value),us=v::vs/\Well P h v d/\WellAll P h vs ds:=by
 cases x with
 |cons a b=>exact⟨_,_,rfl,a,b⟩
theorem PU{n:Nat}(h:n<=1048576):n<=sizeLine:=iD h (by decide)
section
variable{P:Params}{h:Heap}
mutual
theorem mY:∀ (d:WData)(v:Value),Well P h v d->lh d=true->d.weight<=1048576->∃ A:List Addr,OkU A v/\∀ a∈A,ArgOb h A a
 |.none,_,x,_,_=>by
  cases x;exact⟨[],trivial,fun a m=>absurd m (by simp)⟩
 |.bool b,_,x,_,_=>by
  cases x;exact⟨[],trivial,fun a m=>absurd m (by simp)⟩
 |.int i,_,x,_,_=>by
  cases x;exact⟨[],trivial,fun a m=>absurd m (by simp)⟩
 |.str s,_,x,_,_=>by
  cases x;exact⟨[],trivial,fun a m=>absurd m (by simp)⟩
 |.bytes b,_,x,_,_=>by
  cases x;exact⟨[],trivial,fun a m=>absurd m (by simp)⟩
 |.list ds,_,x,p,z=>by
  obtain⟨a,vs,rfl,ho,dL⟩:=OD x;have z2:WData.weightAll ds<=1048576:=z;obtain⟨A,h1,h2⟩:=Fj ds _ dL p fun d hd=>iD (HV hd) z2;have k:∀ b∈A,b∈a::A:=fun b hb=>dj _ hb;refine⟨a::A,cY ..,fun b hb=>?_⟩;rcases bv.mp hb with e |m
  ·rw [e];exact⟨vs,PU (by rw [Fe dL];exact iD (PySem.W.length_le_weightAllW ds) z2),fun u hu=>(h1 u hu).mono k,.inl ho⟩
  ·exact(h2 b m).mono k
 |.tuple ds,_,x,p,z=>by
  obtain⟨a,vs,rfl,ho,dL⟩:=Og x;have z2:WData.weightAll ds<=1048576:=z;obtain⟨A,h1,h2⟩:=Fj ds _ dL p fun d hd=>iD (HV hd) z2;have k:∀ b∈A,b∈a::A:=fun b hb=>dj _ hb;refine⟨a::A,cY ..,fun b hb=>?_⟩;rcases bv.mp hb with e |m
  ·rw [e];exact⟨vs,PU (by rw [Fe dL];exact iD (PySem.W.length_le_weightAllW ds) z2),fun u hu=>(h1 u hu).mono k,.inr ho⟩
  ·exact(h2 b m).mono k
 |.float _,_,_,p,_=>Bool.noConfusion (show false=true from p)
 |.dict _,_,_,p,_=>Bool.noConfusion (show false=true from p)
 |.bytearray _,_,_,p,_=>Bool.noConfusion (show false=true from p)
 |.set _,_,_,p,_=>Bool.noConfusion (show false=true from p)
 |.frozenset _,_,_,p,_=>Bool.noConfusion (show false=true from p)
 |.obj _ _,_,_,p,_=>Bool.noConfusion (show false=true from p)
theorem Fj:∀ (ds:List WData)(vs:List Value),WellAll P h vs ds->gH ds=true->(∀ d∈ds,d.weight<=1048576)->∃ A:List Addr,(∀ u∈vs,OkU A u)/\∀ a∈A,ArgOb h A a
 |[],_,x,_,_=>by
  cases x;exact⟨[],fun u m=>absurd m (by simp),fun a m=>absurd m (by simp)⟩
 |d::ds,_,x,p,z=>by
  obtain⟨v,vs,rfl,x1,x2⟩:=OG x;have q:lh d=true/\gH ds=true:=zb.mp p;obtain⟨A,a1,a2⟩:=mY d v x1 q.1 (z d (cY ..));obtain⟨B,b1,b2⟩:=Fj ds vs x2 q.2 fun e he=>z e (dj _ he);have kA:∀ b∈A,b∈A++B:=fun b hb=>dy.mpr (.inl hb);have kB:∀ b∈B,b∈A++B:=fun b hb=>dy.mpr (.inr hb);refine⟨A++B,fun u hu=>?_,fun b hb=>?_⟩
  ·rcases bv.mp hu with e |m
   ·rw [e];exact a1.mono kA
   ·exact(b1 u m).mono kB
  ·rcases dy.mp hb with m |m
   ·exact(a2 b m).mono kA
   ·exact(b2 b m).mono kB
end
end
noncomputable def sN(o:Obj):Option HO:=match o.data with
 |.seq vs _=>if (o.cls==Value.type "list")=true then some (.frz o (.lst (vs.toList.map jH)))else some (.frz o (.tup (vs.toList.map jH)))
 |_=>none
def dX(K:aq)(h:Heap)(A:List Addr):Hp:=fun b=>if b∈A then(if (K.lookup b).isNone=true then(h.get? b).bind sN else none)else none
def uB(H:Hp):Prop:=∀ b,H b=none\/∃ o u,H b=some (.frz o u)
theorem Ol(vs:List Value):sN { cls:=.type "list",data:=.seq vs.toArray }=some (.frz { cls:=.type "list",data:=.seq vs.toArray } (.lst (vs.map jH))):=by
 show(if (Value.type "list"==Value.type "list")=true then some (HO.frz { cls:=.type "list",data:=.seq vs.toArray } (.lst (vs.toArray.toList.map jH)))else some (HO.frz { cls:=.type "list",data:=.seq vs.toArray } (.tup (vs.toArray.toList.map jH))))=_;rw [ae (beq_self_eq_true _)]
theorem On(vs:List Value):sN { cls:=.type "tuple",data:=.seq vs.toArray }=some (.frz { cls:=.type "tuple",data:=.seq vs.toArray } (.tup (vs.map jH))):=by
 show(if (Value.type "tuple"==Value.type "list")=true then some (HO.frz { cls:=.type "tuple",data:=.seq vs.toArray } (.lst (vs.toArray.toList.map jH)))else some (HO.frz { cls:=.type "tuple",data:=.seq vs.toArray } (.tup (vs.toArray.toList.map jH))))=_;rw [ac (by decide)]
section
variable{P:Program}{w:World}{K:aq}{h:Heap}{A:List Addr}
theorem Fv{b:Addr}{o:Obj}(hb:b∈A)(hk:K.lookup b=none)(e:h.get? b=some o):dX K h A b=sN o:=by
 unfold dX;rw [ae hb,hk,ae (show(none:Option Obj).isNone=true from rfl),e]<;>rfl
theorem tq{b:Addr}{u:HO}(q:dX K h A b=some u):b∈A/\K.lookup b=none:=by
 unfold dX at q;by_cases hb:b∈A
 ·rw [ae hb]at q;cases hk:K.lookup b with
  |none=>exact⟨hb,rfl⟩
  |some o =>
   rw [hk,ac (by simp)]at q
   cases q
 ·rw [ac hb]at q;cases q
theorem FA(ar:∀ a∈A,ArgOb h A a){b:Addr}{u:HO}(q:dX K h A b=some u):K.lookup b=none/\∃ vs:List Value,vs.length<=sizeLine/\(∀ u∈vs,OkU A u) /\
  ((h.get? b=some { cls:=.type "list",data:=.seq vs.toArray }/\u=.frz { cls:=.type "list",data:=.seq vs.toArray } (.lst (vs.map jH))) \/
   (h.get? b=some { cls:=.type "tuple",data:=.seq vs.toArray }/\u=.frz { cls:=.type "tuple",data:=.seq vs.toArray } (.tup (vs.map jH)))):=by
 obtain⟨hb,hk⟩:=tq q;obtain⟨vs,h1,h2,h3⟩:=ar b hb;refine⟨hk,vs,h1,h2,?_⟩;rcases h3 with e |e
 ·rw [Fv hb hk e,Ol]at q;exact .inl ⟨e,(Option.some.inj q).symm⟩
 ·rw [Fv hb hk e,On]at q;exact .inr ⟨e,(Option.some.inj q).symm⟩
theorem Zbz(ar:∀ a∈A,ArgOb h A a):uB (dX K h A):=fun b=>by
 cases q:dX K h A b with
 |none=>exact .inl rfl
 |some u =>
  obtain⟨_,vs,_,_,⟨_,e⟩ |⟨_,e⟩⟩:=FA ar q
  ·exact .inr ⟨_,_,by rw [e]⟩
  ·exact .inr ⟨_,_,by rw [e]⟩
theorem rK(ar:∀ a∈A,ArgOb h A a):HOk P w (dX K h A) h:=fun b u q=>by
 obtain⟨_,vs,h1,h2,⟨e,rfl⟩ |⟨e,rfl⟩⟩:=FA ar q
 ·exact⟨e,by rw [aT];exact h1,vs,_,zu h2,e⟩
 ·exact⟨e,by rw [aT];exact h1,vs,zu h2,_,e,rfl,_,rfl⟩
theorem Fz{c c':Value}{vs us:List Value}(e:(some { cls:=c,data:=.seq vs.toArray }:Option Obj)=some { cls:=c',data:=.seq us.toArray }):c=c'/\vs=us:=by
 have e1:=Option.some.inj e;have e2:c=c':=au Obj.cls e1;have e3:Data.seq vs.toArray=Data.seq us.toArray:=au Obj.data e1;injection e3 with e4
 refine⟨e2,?_⟩;have e5:=au Array.toList e4;simpa using e5
theorem Jy(KX:K.In h)(ar:∀ a∈A,ArgOb h A a){a:Addr}{vs:List Value}(ha:a∈A)(e:h.get? a=some { cls:=.type "list",data:=.seq vs.toArray }):(∀ u∈vs,OkU A u)/\SqL K (dX K h A) a (vs.map jH):=by
 obtain⟨us,h1,h2,h3⟩:=ar a ha;have hu:us=vs:=by
  rcases h3 with q |q
  ·rw [e]at q;exact(Fz q).2.symm
  ·rw [e]at q;exact absurd (Value.type.inj (Fz q).1) (by decide)
 subst hu;refine⟨h2,?_⟩;cases hk:K.lookup a with
 |none=>exact .inl (.inr ⟨_,by rw [Fv ha hk e,Ol]⟩)
 |some o =>
  have e2:=KX a o hk;rw [e]at e2;obtain rfl:=Option.some.inj e2;exact .inr ⟨_,us.toArray,_,hk,rfl,rfl,rfl,by rw [fY];exact h1,by simpa using zu h2⟩
theorem Jz(KX:K.In h)(ar:∀ a∈A,ArgOb h A a){a:Addr}{vs:List Value}(ha:a∈A)(e:h.get? a=some { cls:=.type "tuple",data:=.seq vs.toArray }):(∀ u∈vs,OkU A u)/\SqT K (dX K h A) a (vs.map jH):=by
 obtain⟨us,h1,h2,h3⟩:=ar a ha;have hu:us=vs:=by
  rcases h3 with q |q
  ·rw [e]at q;exact absurd (Value.type.inj (Fz q).1) (by decide)
  ·rw [e]at q;exact(Fz q).2.symm
 subst hu;refine⟨h2,?_⟩;cases hk:K.lookup a with
 |none=>exact .inl (.inr ⟨_,by rw [Fv ha hk e,On]⟩)
 |some o =>
  have e2:=KX a o hk;rw [e]at e2;obtain rfl:=Option.some.inj e2;exact .inr ⟨_,us.toArray,_,hk,rfl,rfl,by rw [fY];exact h1,by simpa using zu h2⟩
mutual
theorem wF{Pm:Params}(KX:K.In h)(ar:∀ a∈A,ArgOb h A a):∀ (d:WData)(v:Value),Well Pm h v d->lh d=true->OkU A v->Dw K (dX K h A) (jH v) d
 |.none,_,x,_,_=>by
  cases x;exact .non
 |.bool b,_,x,_,_=>by
  cases x;exact .bl b
 |.int i,_,x,_,_=>by
  cases x;exact .int i
 |.str s,_,x,_,_=>by
  cases x;exact .str s
 |.bytes b,_,x,_,_=>by
  cases x;have z:=Dw.byt (K:=K) (H:=dX K h A) b.toArray;exact z
 |.list ds,_,x,p,hu=>by
  obtain⟨a,vs,rfl,ho,dL⟩:=OD x;obtain⟨h2,hs⟩:=Jy KX ar hu ho;exact .lst hs (FI KX ar ds _ dL p h2)
 |.tuple ds,_,x,p,hu=>by
  obtain⟨a,vs,rfl,ho,dL⟩:=Og x;obtain⟨h2,hs⟩:=Jz KX ar hu ho;exact .tup hs (FI KX ar ds _ dL p h2)
 |.float _,_,_,p,_=>Bool.noConfusion (show false=true from p)
 |.dict _,_,_,p,_=>Bool.noConfusion (show false=true from p)
 |.bytearray _,_,_,p,_=>Bool.noConfusion (show false=true from p)
 |.set _,_,_,p,_=>Bool.noConfusion (show false=true from p)
 |.frozenset _,_,_,p,_=>Bool.noConfusion (show false=true from p)
 |.obj _ _,_,_,p,_=>Bool.noConfusion (show false=true from p)
theorem FI{Pm:Params}(KX:K.In h)(ar:∀ a∈A,ArgOb h A a):∀ (ds:List WData)(vs:List Value),WellAll Pm h vs ds->gH ds=true->(∀ u∈vs,OkU A u)->ez K (dX K h A) (vs.map jH) ds
 |[],_,x,_,_=>by
  cases x;exact .nil
 |d::ds,_,x,p,hu=>by
  obtain⟨v,vs,rfl,x1,x2⟩:=OG x;have q:lh d=true/\gH ds=true:=zb.mp p;exact .cons (wF KX ar d v x1 q.1 (hu _ (cY ..))) (FI KX ar ds vs x2 q.2 fun u m=>hu u (dj _ m))
end
end
theorem Z7N{ds:List WData}(h:WData.layableAll ds=true):∀ d∈ds,d.weight<=1048576:=fun d hd =>
 (PySem.W.layableW_iff.mp (uJ.mp h d hd)).2.2
theorem NX:∀ (cs:List Codec)(a:Codec.denoteAll cs),(Codec.encAll cs a).length=cs.length
 |[],_=>rfl
 |c::cs,a=>by
  show(Codec.encAll cs a.2).length+1=cs.length+1;rw [NX cs a.2]
end L2
end
section
namespace EX
open PySem PySem.Spec PyProof.Rows L2
abbrev iz(C:Addr)(dx:Option Addr)(vs:Array Value)(sl:Array (Option Value)):Obj:={ cls:=.ref C,dict:=dx,data:=.fields vs,slots:=sl }
structure Kp(fs ch:List Addr)(h h':Heap):Prop where
 keep:∀ b o,h.get? b=some o->b∉ch->b∉fs->h'.get? b=some o
 slot:∀ b o,h.get? b=some o->b∉ch->∃ sl,h'.get? b=some { o with slots:=sl }
theorem Kp.trans{fs ch Qi:List Addr}{h h1 h2:Heap}(x:Kp fs ch h h1)(y:Kp fs Qi h1 h2):Kp fs (ch++Qi) h h2:=by
 refine⟨fun b o e n1 n2=>?_,fun b o e n1=>?_⟩
 ·rw [dy,b8]at n1;exact y.keep b o (x.keep b o e n1.1 n2) n1.2 n2
 ·rw [dy,b8]at n1;obtain⟨sl,e1⟩:=x.slot b o e n1.1;obtain⟨tY,e2⟩:=y.slot b _ e1 n1.2;exact⟨tY,e2⟩
structure Fly(z:Bool)(h:Heap)(e T C:Addr)(dx:Option Addr)(fl:Value):Prop where
 obj:∃ vs sl,h.get? e=some (iz C dx vs sl)/\vs[1]?=some (.ref T)
 tb:∃ oT ts,h.get? T=some oT/\oT.data=.fields ts/\ts[3]?=some fl
 ne:T≠e
 cx:z=true->∀ o vs,h.get? e=some o->o.data=.fields vs->vs[2]?=some .none
def Gp(z:Bool)(h:Heap)(e C:Addr)(dx:Option Addr):Prop:=∃ vs sl,h.get? e=some (iz C dx vs sl)/\vs[1]?=some .none/\(z=true->vs[2]?=some .none)
section
variable{M:Model}{A:Around}{E:Value->Shared->Prop}{s:Shared}{z:Bool}
theorem IE{base:Heap}{env:Env}{outer:List Env}{L e C:Addr}{dx:Option Addr}{vs:Array Value}{sl:Array (Option Value)}{sH:Value}{mj:Bool}{Q:Unit->Shared->Prop}
  (cK:A.frames=some (env::outer))(hl:s.heap.FunFrames base (env::outer))(hf:env.frame=some L)(he:s.heap.get? e=some (iz C dx vs sl))(hsz:1<vs.size)(Ke:z=true->vs[2]?=some .none)
  (h:∀ h' T,Fly z h' e T C dx (rawInt L)->s.heap.get? T=none->Kp (b9 (env::outer)) [e] s.heap h'->Q () { s with heap:=h' }) :
  wpAny M A (do let a <-frameOf env;let pl <-entryPlaceOf L mj;let b <-EntryCells.newEntry sH a .none (rawInt L) .none pl;setField (.ref e) 1 b) Q E s:=by
 have bQ:e∉b9 (env::outer):=fun hm=>by
  obtain⟨_,o,ho,KG⟩:=hl.mem hm;rw [he]at ho;cases ho;exact KG vs rfl
 refine aa (wpAny_frameOf_fun cK hl hf fun h1 hs=>aa (wpAny_entryPlaceOf fun pl hp=>?_));unfold EntryCells.newEntry newFields;refine aa (aA ?_ (hp.sizeOk5 ..));have e1:h1.get? e=some (iz C dx vs sl):=(hs.2.1 e bQ).trans he;have nT:s.heap.get? h1.objs.size=none:=AM (by rw [hs.1];exact bK _)
 have neT:h1.objs.size≠e:=kn (cy e1);refine bD (dD _ e1) rfl hsz (h _ h1.objs.size ⟨⟨vs.setIfInBounds 1 (.ref h1.objs.size),sl,?_,by simp [hsz]⟩,⟨_,_,(jZ _ _ neT.symm).trans (fi h1 rfl),rfl,?_⟩,neT,?_⟩ nT ⟨?_,?_⟩)
 ·exact lX (Obj.mapFields (·.setIfInBounds 1 (Value.ref h1.objs.size))) (dD _ e1) rfl
 ·first |(simp;done) |(rcases hp with rfl |⟨_,_,_,_,_,_,_,rfl⟩<;>simp)
 ·intro hz o EG q1 q2;have q4:=Option.some.inj (q1.symm.trans (lX (Obj.mapFields (·.setIfInBounds 1 (Value.ref h1.objs.size))) (dD _ e1) rfl));subst q4;have q5:EG=vs.setIfInBounds 1 (Value.ref h1.objs.size):=by
   have q6:(Data.fields (vs.setIfInBounds 1 (Value.ref h1.objs.size)))=.fields EG:=q2;cases q6;rfl
  subst q5;rw [Array.getElem?_setIfInBounds_ne (by decide)]
  exact Ke hz
 ·intro b o q n1 n2;rw [jZ _ _ (fun z=>n1 (by rw [<-z];exact dq.mpr rfl))]
  exact dD _ ((hs.2.1 b n2).trans q)
 ·intro b o q n1;obtain⟨tY,q'⟩:=hs.2.2 b o q;exact⟨tY,(jZ _ _ (fun z=>n1 (by rw [<-z];exact dq.mpr rfl))).trans (dD _ q')⟩
theorem N9{base:Heap}{env:Env}{outer:List Env}{L e C:Addr}{dx:Option Addr}{Q:Unit->Shared->Prop}
  (cK:A.frames=some (env::outer))(hl:s.heap.FunFrames base (env::outer))(hf:env.frame=some L)(he:Gp z s.heap e C dx)
  (h:∀ h' T,Fly z h' e T C dx (rawInt L)->s.heap.get? T=none->Kp (b9 (env::outer)) [e] s.heap h'->Q () { s with heap:=h' }):wpAny M A (noteFrame (.ref e) env) Q E s:=by
 obtain⟨vs,sl,e1,e2,e2x⟩:=he;unfold noteFrame;rw [hf];refine aa (aL e1 rfl e2 ?_);rw [ac (by decide)]
 exact IE cK hl hf e1 (qv.mp e2).1 e2x h
theorem IH{base:Heap}{env:Env}{outer:List Env}{L e T C:Addr}{dx:Option Addr}{Q:Unit->Shared->Prop}
  (cK:A.frames=some (env::outer))(hl:s.heap.FunFrames base (env::outer))(hf:env.frame=some L)(he:Fly z s.heap e T C dx .none)
  (h:∀ h' T',Fly z h' e T' C dx (rawInt L)->s.heap.get? T'=none->Kp (b9 (env::outer)) [T,e] s.heap h'->Q () { s with heap:=h' }):wpAny M A (noteFrame (.ref e) env) Q E s:=by
 obtain⟨⟨vs,sl,e1,e2⟩,⟨oT,ts,t1,t2,t3⟩,ne,cx⟩:=he;unfold noteFrame;rw [hf];refine aa (aL e1 rfl e2 ?_);rw [ae (show(Value.ref T != Value.none)=true by simp)]
 refine aa (aL t1 t2 t3 ?_);rw [ac (show ¬ ((Value.none==rawInt L)=true) by simp [rawInt])]
 refine aa (bD t1 t2 (qv.mp t3).1 ?_);have fg:∀ b,b≠T->(s.heap.update T (Obj.mapFields (·.setIfInBounds 3 Value.none))).get? b=s.heap.get? b:=fun b hb=>jZ _ _ (Ne.symm hb);have nr:∀ b o,s.heap.get? b=some o->(∀ vs,o.data≠.fields vs)->b≠T:=fun b o hb hn q=>by
  rw [q,t1]at hb;cases hb;exact hn ts t2
 refine IE cK (hl.of_keeps fun b o hb hn=>⟨o,(fg b (nr b o hb hn)).trans hb,rfl⟩) hf ((fg e ne.symm).trans e1) (qv.mp e2).1 (fun hz=>cx hz _ _ e1 rfl) fun h' T' f n k=>h h' T' f ?_ ?_
 ·cases q:s.heap.get? T' with
  |none=>rfl
  |some o =>
   by_cases z:T'=T
   ·have z1:=lX (Obj.mapFields (·.setIfInBounds 3 Value.none)) t1 (Obj.isFreed_of_fields (Obj.data_mapFields t2 _));rw [z]at n;rw [show _=_ from z1]at n;cases n
   ·rw [fg T' z,q]at n;cases n
 ·have k0:Kp (b9 (env::outer)) [T] s.heap (s.heap.update T (Obj.mapFields (·.setIfInBounds 3 Value.none))) :=
   ⟨fun b o q n1 _=>(fg b fun z=>n1 (by rw [z];exact dq.mpr rfl)).trans q,fun b o q n1=>⟨o.slots,(fg b fun z=>n1 (by rw [z];exact dq.mpr rfl)).trans q⟩⟩
  exact k0.trans k
theorem g9{fs:List Addr}{e T C:Addr}{dx:Option Addr}{fl:Value}{Q:Unit->Shared->Prop}(he:Fly z s.heap e T C dx fl)
  (h:∀ h',Fly z h' e T C dx .none->Kp fs [T] s.heap h'->Q () { s with heap:=h' }):wpAny M A (setFlight (.ref e) none) Q E s:=by
 obtain⟨⟨vs,sl,e1,e2⟩,⟨oT,ts,t1,t2,t3⟩,ne,cx⟩:=he;have sz:=(qv.mp t3).1;have fg:∀ b,b≠T->(s.heap.update T (Obj.mapFields (·.setIfInBounds 3 Value.none))).get? b=s.heap.get? b:=fun b hb=>jZ _ _ (Ne.symm hb);refine wpAny_setFlight_none e1 rfl e2 t1 t2 sz (h _ ⟨⟨vs,sl,(fg e ne.symm).trans e1,e2⟩,⟨_,_,lX _ t1 (Obj.isFreed_of_fields (Obj.data_mapFields t2 _)),Obj.data_mapFields t2 _,by simp [sz]⟩,ne,fun hz o vs q=>cx hz o vs ((fg e ne.symm).symm.trans q)⟩ ⟨?_,?_⟩)
 ·exact fun b o q n1 _=>(fg b fun z=>n1 (by rw [z];exact dq.mpr rfl)).trans q
 ·exact fun b o q n1=>⟨o.slots,(fg b fun z=>n1 (by rw [z];exact dq.mpr rfl)).trans q⟩
end
end EX
end
section
namespace EX
open PySem PySem.Spec PyProof.Rows L2
open Builtin Builtin.ObjectAttr
section
variable{prog:Program}{w:World}{A:Around}{E:Value->Shared->Prop}{h:Heap}{g:Array GenState}{d:Drawn}{t:Nat}{os:OsState}
variable{nm q:Str}{C N x:Addr}{bs bm:List Value}{sn:List Str}{sub:List Value}{ab:Bool}{col:Option Bool}{dd:Option Addr}{k0 k1 k2 k3 k5:Option Value}{B c8 sa owner:String}
 {mN mA:Str->Option Value}{name:Str}{v:Value}{o:Obj}
theorem Z8Q{tk:Tok}{Q:Fin->Shared->Prop}(SF:StoreFacts B bm sa owner)
  (hC:h.get? C=some (excClassObj nm q C N bs bm true sn sub ab col dd k0 k1 k2 k3 k5 c8))(hn:h.Ns N mN)(Ce:mN name=none)
  (hB:typeLookup (.type B) name=pure none)(hx:h.get? x=some o)(hc:o.cls=.ref C)(wT:o.dict=none)(Cf:∀ c,o.data≠.cls c)
  (hq:∀ h' uk,h'.get? x=some { o with dict:=some h.objs.size }->h'.Ns1 h.objs.size (fun y=>if y=name then some v else none)->(∀ b o',b≠x->h.get? b=some o'->h'.get? b=some o')->Q (.done (.ret .none)) ⟨h',g,d,uk,os⟩) :
  wpAny (model prog w) A (Builtin.«object.__setattr__» ⟨[.ref x,.str name tk,v],[]⟩) Q E ⟨h,g,d,t,os⟩:=by
 have om:=SF.passes (.ref x);unfold Builtin.«object.__setattr__»
 repeat (first |rw [refuse_eq] |(rw [refuseLoop_ref,om]) |(with_reducible refine a0 hx ?_;rw [hc]) |with_reducible refine wpAny_mroOf_exc hC ?_ |(with_reducible refine wpAny_typeLookup_exc hC hn SF.mro hB ?_;rw [Ce]) |wp_step)
 rw [wT,ac (by simp [typeHasDict])]
 split
 ·rename_i z;cases z
 split
 ·rename_i c z;exact absurd z (Cf c)
 have x1:(h.push { cls:=.type "dict",data:=.dict #[] }).get? x=some o:=dD _ hx;have xs:x≠h.objs.size:=eF (cy hx);refine aa (wpAny_alloc' (aa (wpAny_update' x1 (af ?_))));have gd:((h.push { cls:=.type "dict",data:=.dict #[] }).update x fun o=>{ cls:=o.cls,dict:=some h.objs.size,data:=o.data,slots:=o.slots }).get? h.objs.size
   = some { cls:=.type "dict",data:=.dict #[] }:=(jZ _ _ xs).trans (Heap.get?_push_at rfl rfl)
 have n0:((h.push { cls:=.type "dict",data:=.dict #[] }).update x fun o=>{ cls:=o.cls,dict:=some h.objs.size,data:=o.data,slots:=o.slots }).Ns h.objs.size (fun _=>none) :=
  ⟨_,#[],_,gd,rfl,fun e he=>absurd he (by simp),fun _=>rfl⟩
 show wpAny _ _ (storeInDict h.objs.size (.str name tk) name v) _ _ _;unfold storeInDict newKeyGuard;refine aa (af (aa (wpAny_nsSet1 (Heap.Ns1.of_empty n0) fun h' n1 hs=>?_)));obtain⟨oD,esD,epD,a1,a2,a3⟩:=n1.count (Within.cons name v Within.nil);refine aa (wpAny_lookBehind a1 (by rw [a2];exact pastItsLine_dict (iD a3 (by rw [gB,lA,ak];omega))) ?_)
 wp_walk
 refine hq h' _ ?_ ?_ fun b ob hbx hb=>?_
 ·refine(hs.2 x xs).trans (lX _ x1 ?_);have cK:=(Heap.get?_some_iff.mp hx).2;obtain⟨oc,od,odt,jb⟩:=o;cases odt<;>first |rfl |exact cK
 ·obtain⟨o',es,ep,e1,e2,e3,eu,e4⟩:=n1;exact⟨o',es,ep,e1,e2,e3,eu,fun y=>by rw [e4 y]⟩
 ·exact(hs.2 b (eF (cy hb))).trans ((jZ _ _ (Ne.symm hbx)).trans (dD _ hb))
theorem Zbx{Q:Unit->Shared->Prop}(SF:StoreFacts B bm sa owner)
  (hC:h.get? C=some (excClassObj nm q C N bs bm true sn sub ab col dd k0 k1 k2 k3 k5 c8))(hn:h.Ns N mN)(sM:mN "__setattr__" = none)(Ce:mN name=none)
  (hB:typeLookup (.type B) name=pure none)(hx:h.get? x=some o)(hc:o.cls=.ref C)(wT:o.dict=none)(Cf:∀ c,o.data≠.cls c)
  (hq:∀ h' uk,h'.get? x=some { o with dict:=some h.objs.size }->h'.Ns1 h.objs.size (fun y=>if y=name then some v else none)->(∀ b o',b≠x->h.get? b=some o'->h'.get? b=some o')->Q () ⟨h',g,d,uk,os⟩) :
  wpAny (model prog w) A (setAttr (.ref x) name v) Q E ⟨h,g,d,t,os⟩:=by
 have f3:=SF.slot.bind (.ref x);unfold setAttr callSpecial? specialOf
 repeat (any_goals (first |assumption |(with_reducible refine a0 hx ?_;rw [hc]) |(with_reducible refine wpAny_typeLookup_exc hC hn SF.mro SF.slot.lookup ?_;rw [sM]) |wp_step))
 refine codeAny_call_builtin SF.slot.plain SF.entry (wpAny_check_sa SF hC hx hc (Z8Q SF hC hn Ce hB hx hc wT Cf fun h' uk b1 b2 b3=>?_))
 repeat (any_goals (first |assumption |wp_step))
 exact hq h' uk b1 b2 b3
theorem Ov{dx:Addr}{ns:List Str}{Q:Unit->Shared->Prop}(SF:StoreFacts B bm sa owner)
  (hC:h.get? C=some (excClassObj nm q C N bs bm true sn sub ab col dd k0 k1 k2 k3 k5 c8))(hn:h.Ns N mN)(sM:mN "__setattr__" = none)(Ce:mN name=none)
  (hB:typeLookup (.type B) name=pure none)(hxC:x≠C)(hx:h.get? x=some o)(hc:o.cls=.ref C)(sG:o.dict=some dx)(Cf:∀ c,o.data≠.cls c)(bQ:dx≠x)(KH:h.Ns1 dx mA)(hw:Within mA ns)(hsz:ns.length<=sizeLine)
  (hq:∀ h' uk,h'.get? x=some o->h'.Ns1 dx (fun y=>if y=name then some v else mA y)->(∀ b o',b≠x->b≠dx->h.get? b=some o'->h'.get? b=some o')->Q () ⟨h',g,d,uk,os⟩) :
  wpAny (model prog w) A (setAttr (.ref x) name v) Q E ⟨h,g,d,t,os⟩:=by
 refine store_attr SF hC hn sM Ce hB hxC ⟨o,hx,hc,Cf,.inr ⟨dx,sG,bQ,KH⟩⟩ (fun h' uk b1 b2 b3=>?_) hw hsz;obtain⟨o1,c1,c2,c3,c4,c5⟩:=b3 o hx;have eo:o1=o:=by
  obtain⟨p1,p2,p3,p4⟩:=o;obtain⟨q1,q2,q3,q4⟩:=o1;have z:=c5 dx sG;dsimp only at c2 c3 c4 z sG;rw [c2,c3,c4,z,sG]
 rw [eo]at c1;refine hq h' uk c1 ?_ fun b o' n1 n2 e=>b2 b o' n1 (fun o0 eN e0 e1=>?_) e
 ·obtain⟨o2,d1,_,_,d2⟩:=b1;rw [c1]at d1;cases d1;rcases d2 with⟨z,_⟩ |⟨d',z,_,n1⟩
  ·rw [sG]at z;cases z
  ·rw [sG]at z;cases z;exact n1
 ·rw [hx]at e0;cases e0;rw [sG]at e1;cases e1;exact n2
end
end EX
end
section
namespace EX
open PySem PySem.Spec PyProof.Rows L2
abbrev iF:List Value:=[.type "Exception",.type "BaseException",.type "object"]
theorem tm{K:aq}{h:Heap}{N:Addr}{m:Str->Option Value}{n:Str}{v:Value}(X:K.In h)(G:h.Ns N m)(e:PySem.W.nsIn K N n=some (some v)):m n=some v:=by
 obtain⟨o,es,ep,ho,hd,_,hf⟩:=G;unfold PySem.W.nsIn at e;split at e
 ·rename_i c d FQ n' sl q;have z:=X _ _ q;rw [ho]at z;cases z;cases hd;split at e
  ·rename_i en he;cases e;rw [<-hf];unfold nsFind findBy;rw [<-Array.find?_toList,he];rfl
  ·rename_i he;split at e<;>cases e
 ·cases e
structure XC(K:aq)(C fI:Addr)(fs:List Str):Prop where
 ex:∃ (nm q:Str)(N:Addr)(bs:List Value)(sn:List Str)(sub:List Value)(ab:Bool)(col:Option Bool)(dd:Option Addr)(k0 k1 k2 k3 k5:Option Value),
  K.lookup C=some (excClassObj nm q C N bs iF true sn sub ab col dd k0 k1 k2 k3 k5 "Exception.__new__")/\PySem.W.nsOkIn K N=true/\PySem.W.nsIn K N "__init__" = some (some (.ref fI)) /\
  PySem.W.nsIn K N "__setattr__" = some none/\PySem.W.nsIn K N "__getattribute__" = some none/\PySem.W.nsIn K N "__getattr__" = some none/\∀ f∈fs,PySem.W.nsIn K N f=some none
 base:∀ f∈fs,typeLookup (.type "Exception") f=pure none
 fn:PySem.W.isFn K (.ref fI)=true
 kp:PySem.W.keepIn K (.ref C)=true
theorem XC.at{K:aq}{C fI:Addr}{fs:List Str}(c:XC K C fI fs){h:Heap}(X:K.In h):∃ (nm q:Str)(N:Addr)(bs:List Value)(sn:List Str)(sub:List Value)(ab:Bool)(col:Option Bool)(dd:Option Addr)(k0 k1 k2 k3 k5:Option Value)(m:Str->Option Value),
  h.get? C=some (excClassObj nm q C N bs iF true sn sub ab col dd k0 k1 k2 k3 k5 "Exception.__new__")/\h.Ns N m/\m "__init__" = some (.ref fI) /\
  m "__setattr__" = none/\m "__getattribute__" = none/\m "__getattr__" = none/\∀ f∈fs,m f=none:=by
 obtain⟨nm,q,N,bs,sn,sub,ab,col,dd,k0,k1,k2,k3,k5,a1,a2,a3,a4,a5,a6,a7⟩:=c.ex;have G:h.Ns N (h.nsMap N):=.of_isNs (PySem.W.isNs_of_in X a2);exact⟨nm,q,N,bs,sn,sub,ab,col,dd,k0,k1,k2,k3,k5,h.nsMap N,X _ _ a1,G,tm X G a3,lY X G a4,lY X G a5,lY X G a6,fun f hf=>lY X G (a7 f hf)⟩
structure XP(K:aq)(C:Addr):Prop where
 ex:∃ (nm q:Str)(N:Addr)(bs:List Value)(sn:List Str)(sub:List Value)(ab:Bool)(col:Option Bool)(dd:Option Addr)(k0 k1 k2 k3 k5:Option Value),
  K.lookup C=some (excClassObj nm q C N bs iF true sn sub ab col dd k0 k1 k2 k3 k5 "Exception.__new__")/\PySem.W.nsOkIn K N=true/\PySem.W.nsIn K N "__init__" = some none
 kp:PySem.W.keepIn K (.ref C)=true
def qW(K:aq)(C:Addr):Prop:=∃ (nm q:Str)(N:Addr)(bs:List Value)(sn:List Str)(sub:List Value)(ab:Bool)(col:Option Bool)(dd:Option Addr)(k0 k1 k2 k3 k5:Option Value),
  K.lookup C=some (excClassObj nm q C N bs iF true sn sub ab col dd k0 k1 k2 k3 k5 "Exception.__new__")
theorem XC.k1{K:aq}{C fI:Addr}{fs:List Str}(c:XC K C fI fs):qW K C:=by
 obtain⟨nm,q,N,bs,sn,sub,ab,col,dd,k0,k1,k2,k3,k5,a1,_⟩:=c.ex;exact⟨nm,q,N,bs,sn,sub,ab,col,dd,k0,k1,k2,k3,k5,a1⟩
theorem XP.k1{K:aq}{C:Addr}(c:XP K C):qW K C:=by
 obtain⟨nm,q,N,bs,sn,sub,ab,col,dd,k0,k1,k2,k3,k5,a1,_⟩:=c.ex;exact⟨nm,q,N,bs,sn,sub,ab,col,dd,k0,k1,k2,k3,k5,a1⟩
def Jh(f1 f2 f3:Str)(b:List Stmt):Prop:=∃ p1 p2 p3 p4 p5 p6 p7 p8 p9 Rn Ro Rp:Pos,
 b=[.Assign [.Attribute (.Name "self" p1) f1 p2] (.Name f1 p3) p4,.Assign [.Attribute (.Name "self" p5) f2 p6] (.Name f2 p7) p8,.Assign [.Attribute (.Name "self" p9) f3 Rn] (.Name f3 Ro) Rp]
def flt(f1 f2 f3:Str)(v1 v2 v3:Value):Str->Option Value:=fun y=>if y=f3 then some v3 else if y=f2 then some v2 else if y=f1 then some v1 else none
section
variable{prog:Program}{w:World}{A:Around}{E:Value->Shared->Prop}{s:Shared}{K:aq}{C fI:Addr}{f1 f2 f3:Str}
theorem or{e:Addr}{v1 v2 v3:Value}{us:List Value}{vs:Array Value}{qn:Str}{st:Stmt}{dV:Value}{fd:FuncData}{Q:Value->Shared->Prop}(KX:K.In s.heap)(xM:s.heap.NoLimit)(c:XC K C fI [f1,f2,f3])
  (F:∃ (oc:Value)(od:Option Addr)(kV gU pm:Value)(an:Option Addr)(bp ct:Value)(jb:Array (Option Value)),
    fd=PySem.W.fnOf "__init__" qn (lF st) (eP st) (bj st) dV kV gU pm an bp ct/\K.lookup fI=some ⟨oc,od,.func fd,jb⟩/\PySem.W.codeIn K bp qn=true)
  (S:cU ["self",f1,f2,f3] ["self",f1,f2,f3] (bj st))(bd:BindsTo s fd ⟨.ref e::us,[]⟩ ((["self",f1,f2,f3]:List Str).zip [.ref e,v1,v2,v3]))(body:Jh f1 f2 f3 (eP st))
  (sw:∀ (env:Env)(p1 p2 p3 p4:Pos)(f:Str),swapsWith (.Name f p3) (some (.Attribute (.Name "self" p1) f p2)) p4.line env=pure false)
  (loc:∀ x∈(["self",f1,f2,f3]:List Str),(bj st).names.lookup x=some .local)(nd1:(f1==("__debug__" : Str))=false)(nd2:(f2==("__debug__" : Str))=false)(nd3:(f3==("__debug__" : Str))=false)
  (gN:A.depth<recursionLimit)(Ki:K.lookup e=none)
  (hx:s.heap.get? e=some { cls:=.ref C,dict:=none,data:=.fields vs,slots:=#[] })
  (hq:∀ h' dx tk,h'.get? e=some (iz C (some dx) vs #[])->h'.Ns1 dx (flt f1 f2 f3 v1 v2 v3)->s.heap.get? dx=none->dx≠e->(∀ b o,b≠e->s.heap.get? b=some o->h'.get? b=some o)->Q .none { s with heap:=h',toks:=tk }) :
  wpAny (model prog w) A (call (.ref fI) (.ref e::us)) Q E s:=by
 obtain⟨oc,od,kV,gU,pm,an,bp,ct,jb,rfl,lk,jh⟩:=F;obtain⟨p1,p2,p3,p4,p5,p6,p7,p8,p9,Rn,Ro,Rp,Ka⟩:=body;have oj:∀ y∈(["self",f1,f2,f3]:List Str).zip [Value.ref e,v1,v2,v3],(bj st).names.lookup y.1=some .local\/((bj st).names.lookup y.1=some .cell/\((cellsFrom (s.heap.objs.size+1) (bj st).names []).lookup y.1).isSome=true) :=
  fun⟨n,v⟩ hy=>.inl (loc n (E2 hy).1)
 refine jI (codeAny_call_function gN (KX _ _ lk) rfl S.co S.gen rfl (PySem.W.codeRec_of KX jh) (bd _ _ _ _ ?_));refine wpAny_newFunctionEnv_cells S.kind oj fun env he s1 x=>?_;refine⟨xM.keeps x.toInCall.keep,codeAny_func ?_⟩;have ek:env.scope.kind=.function:=by rw [he];exact S.kind
 have eL:env.locals=s.heap.objs.size:=by rw [he];rfl
 have kl:∀ n∈(["self",f1,f2,f3]:List Str),env.kindOf n=some .local:=fun n hn=>by rw [he];exact loc n hn
 have N1:=x.toInCall.ns;have g0:∀ {i:Nat}{n:Str}{v:Value},(["self",f1,f2,f3]:List Str)[i]?=some n->([Value.ref e,v1,v2,v3]:List Value)[i]?=some v ->
   bindL env.kindOf ((["self",f1,f2,f3]:List Str).zip [Value.ref e,v1,v2,v3]) (fun _=>none) n=some v :=
  fun{i n v} a b=>IK S.nd a b (kl n (gK a))
 have gs:=g0 (i:=0) (n:="self") rfl rfl;have g1:=g0 (i:=1) (n:=f1) rfl rfl;have g2:=g0 (i:=2) (n:=f2) rfl rfl;have g3:=g0 (i:=3) (n:=f3) rfl rfl;have m0:=kl "self" (by simp)
 have m1:=kl f1 (by simp)
 have m2:=kl f2 (by simp)
 have m3:=kl f3 (by simp)
 obtain⟨hh,tk,rfl,kp⟩:=x.done;have Qp:=kp _ _ hx;have Gw:K.In hh:=KX.keeps kp;have Ac:env.locals≠e:=by rw [eL];exact kn (cy hx)
 show wpAny _ _ (execs (eP st) _) _ _ _;rw [Ka];have tw:∀ (h:Heap),K.In h->∃ (nm q:Str)(N:Addr)(bs:List Value)(sn:List Str)(sub:List Value)(ab:Bool)(col:Option Bool)(dd:Option Addr)(k0 k1 k2 k3 k5:Option Value)(m:Str->Option Value),
  h.get? C=some (excClassObj nm q C N bs iF true sn sub ab col dd k0 k1 k2 k3 k5 "Exception.__new__")/\h.Ns N m/\m "__setattr__" = none/\m f1=none/\m f2=none/\m f3=none:=fun h X=>by
  obtain⟨nm,q,N,bs,sn,sub,ab,col,dd,k0,k1,k2,k3,k5,m,c1,c2,c3,c4,c5,c6,c7⟩:=c.at X;exact⟨nm,q,N,bs,sn,sub,ab,col,dd,k0,k1,k2,k3,k5,m,c1,c2,c4,c7 f1 (by simp),c7 f2 (by simp),c7 f3 (by simp)⟩
 have KC:∃ oC,K.lookup C=some oC:=by obtain⟨_,_,_,_,_,_,_,_,_,_,_,_,_,_,a,_⟩:=c.ex;exact⟨_,a⟩
 have QK:e≠C:=by
  rintro rfl;obtain⟨oC,z⟩:=KC;rw [Ki]at z;cases z
 obtain⟨nm,q,N,bs,sn,sub,ab,col,dd,k0,k1,k2,k3,k5,m,c1,c2,c3,c4,c5,c6⟩:=tw hh Gw;refine cG (cq (cj (aX ek m1 N1 g1 (cj (aX ek m0 N1 gs ?_))) nd1) (sw ..));refine Zbx Hb c1 c2 c3 c4 (c.base f1 (by simp)) Qp rfl rfl (fun _ z=>by cases z) fun h2 RI b1 b2 b3=>?_
 have N2:=N1;obtain⟨oL,Qm,Qk,l1,l2,l3,l4⟩:=N2;have N2:h2.Ns env.locals (bindL env.kindOf ((["self",f1,f2,f3]:List Str).zip [Value.ref e,v1,v2,v3]) (fun _=>none)):=⟨oL,Qm,Qk,b3 _ _ Ac l1,l2,l3,l4⟩;have Nz:K.In h2:=fun b o z=>b3 b o (fun q=>by subst q;rw [Ki]at z;cases z) (Gw b o z)
 obtain⟨nm,q,N,bs,sn,sub,ab,col,dd,k0,k1,k2,k3,k5,m,c1,c2,c3,c4,c5,c6⟩:=tw h2 Nz;have Lu:hh.objs.size≠e:=kn (cy Qp);have ndL:env.locals≠hh.objs.size:=eF (cy l1);have hhn:hh.get? hh.objs.size=none:=AM (bK _);refine cG (cq (cj (aX ek m2 N2 g2 (cj (aX ek m0 N2 gs ?_))) nd2) (sw ..));refine Ov (ns:=[f1]) Hb c1 c2 c3 c5 (c.base f2 (by simp)) QK b1 rfl rfl (fun _ z=>by cases z) Lu b2 (Within.cons f1 v1 Within.nil) (by rw [ak];show 1<=16777216;decide) fun h3 tk3 d1 d2 d3=>?_
 have N3:h3.Ns env.locals (bindL env.kindOf ((["self",f1,f2,f3]:List Str).zip [Value.ref e,v1,v2,v3]) (fun _=>none)):=⟨oL,Qm,Qk,d3 _ _ Ac ndL (b3 _ _ Ac l1),l2,l3,l4⟩;have KX3:K.In h3:=fun b o z=>d3 b o (fun q=>by subst q;rw [Ki]at z;cases z) (fun q=>by subst q;have:=Gw _ _ z;rw [hhn]at this;cases this) (Nz b o z)
 obtain⟨nm,q,N,bs,sn,sub,ab,col,dd,k0,k1,k2,k3,k5,m,c1,c2,c3,c4,c5,c6⟩:=tw h3 KX3;refine cG (cq (cj (aX ek m3 N3 g3 (cj (aX ek m0 N3 gs ?_))) nd3) (sw ..));refine Ov (ns:=[f2,f1]) Hb c1 c2 c3 c6 (c.base f3 (by simp)) QK d1 rfl rfl (fun _ z=>by cases z) Lu d2 (Within.cons f2 v2 (Within.cons f1 v1 Within.nil)) (by rw [ak];show 2<=16777216;decide) fun h4 tk4 j1 j2 j3=>?_
 refine dU (hq h4 hh.objs.size tk4 j1 j2 ?_ Lu fun b o nb z=>?_)
 ·cases z:s.heap.get? hh.objs.size with
  |none=>rfl
  |some o=>exact absurd (cy (kp _ _ z)) (ik _)
 ·have z1:=kp _ _ z;exact j3 b o nb (eF (cy z1)) (d3 b o nb (eF (cy z1)) (b3 b o nb z1))
end
structure jl(K:aq)(C fI:Addr)(f1 f2 f3:Str)(d3:Int):Prop where
 c:XC K C fI [f1,f2,f3]
 ex:∃ (qn:Str)(st:Stmt)(dV:Value)(fd:FuncData)(t:Tok),(∃ (oc:Value)(od:Option Addr)(kV gU pm:Value)(an:Option Addr)(bp ct:Value)(jb:Array (Option Value)),
   fd=PySem.W.fnOf "__init__" qn (lF st) (eP st) (bj st) dV kV gU pm an bp ct/\K.lookup fI=some ⟨oc,od,.func fd,jb⟩/\PySem.W.codeIn K bp qn=true) /\
  cU ["self",f1,f2,f3] ["self",f1,f2,f3] (bj st)/\Binds K fd ["self",f1,f2,f3] []/\Binds K fd ["self",f1,f2,f3] [.int d3 t]/\Jh f1 f2 f3 (eP st) /\
  ∀ x∈(["self",f1,f2,f3]:List Str),(bj st).names.lookup x=some .local
 sw:∀ (env:Env)(p1 p2 p3 p4:Pos)(f:Str),swapsWith (.Name f p3) (some (.Attribute (.Name "self" p1) f p2)) p4.line env=pure false
 nd1:(f1==("__debug__" : Str))=false
 nd2:(f2==("__debug__" : Str))=false
 nd3:(f3==("__debug__" : Str))=false
abbrev wg(t:Addr):Array Value:=#[.ref t,.none,.none,.none,.bool false,.none]
def vM(d3:Int)(us:List V)(v1 v2 v3:V):Prop:=us=[v1,v2,v3]\/(us=[v1,v2]/\v3=.int d3)
section
variable{prog:Program}{w:World}{A:Around}{E:Value->Shared->Prop}{s:Shared}{K:aq}{C fI:Addr}{f1 f2 f3:Str}{d3:Int}
theorem Pq{v1 v2 v3:V}{vs:List V}{us:List Value}{Q:Value->Shared->Prop}(KX:K.In s.heap)(xM:s.heap.NoLimit)(T:jl K C fI f1 f2 f3 d3)(gN:A.depth+1<recursionLimit)(hv:vM d3 vs v1 v2 v3)(r:Vals vs us)
  (hq:∀ h' e dx t tk u1 u2 u3,RelV v1 u1->RelV v2 u2->RelV v3 u3->h'.get? e=some (iz C (some dx) (wg t) #[])->h'.Ns1 dx (flt f1 f2 f3 u1 u2 u3)->s.heap.get? e=none->s.heap.get? dx=none->dx≠e->(∀ b o,s.heap.get? b=some o->h'.get? b=some o)->Q (.ref e) { s with heap:=h',toks:=tk }) :
  wpAny (model prog w) A (call (.ref C) us) Q E s:=by
 obtain⟨nm,q,N,bs,sn,sub,ab,col,dd,k0,k1,k2,k3,k5,m,c1,c2,c3,c4,c5,c6,c7⟩:=T.c.at KX;obtain⟨qn,st,dV,fd,tt,F,S,hb3,jR,body,loc⟩:=T.ex;have F':=F;obtain⟨oc,od,kV,gU,pm,an,bp,ct,jb,rfl,lk,jh⟩:=F';have hfc:oc=.type "function":=by
  have z:(K.lookup fI).map (·.cls)=some (.type "function"):=aG.mp (show(PySem.W.typeIn K (.ref fI)==some (.type "function"))=true from T.c.fn);rw [lk]at z;exact Option.some.inj z
 have bds:∃ u1 u2 u3,RelV v1 u1/\RelV v2 u2/\RelV v3 u3/\us.length<=sizeLine/\∀ (s':Shared)(e:Addr),K.In s'.heap->BindsTo s' (PySem.W.fnOf "__init__" qn (lF st) (eP st) (bj st) dV kV gU pm an bp ct) ⟨.ref e::us,[]⟩ ((["self",f1,f2,f3]:List Str).zip [.ref e,u1,u2,u3]):=by
  rcases hv with rfl |⟨rfl,rfl⟩
  ·cases r with
   |cons r1 r=>cases r with
    |cons r2 r=>cases r with
     |cons r3 r =>
      cases r;exact⟨_,_,_,r1,r2,r3,(by show 3<=sizeLine;decide),fun s' e X=>hb3 s' [.ref e,_,_,_] X rfl⟩
  ·cases r with
   |cons r1 r=>cases r with
    |cons r2 r =>
     cases r;exact⟨_,_,.int d3 tt,r1,r2,⟨_,rfl⟩,(by show 2<=sizeLine;decide),fun s' e X=>jR s' [.ref e,_,_] X rfl⟩
 obtain⟨u1,u2,u3,r1,r2,r3,hsz,bd⟩:=bds;obtain⟨hp,g,d,tk,os⟩:=s;refine wpAny_call_exc_init PySem.F.excBase_Exception c1 c2 c3 (KX _ _ lk) hfc (fun h' e hm=>?_) hsz;obtain⟨t,t1,t2,t3⟩:=hm.there;have EQ:K.In h':=KX.keeps hm.keeps;refine or (s:=⟨h',g,d,tk,os⟩) (e:=e) (v1:=u1) (v2:=u2) (v3:=u3) EQ (xM.keeps hm.keeps) T.c F S (bd _ e EQ) body T.sw loc T.nd1 T.nd2 T.nd3 (by rw [NW];exact gN) ?_ t1 fun h2 dx RI b1 b2 b3 b4 b5=>⟨rfl,?_⟩
 ·cases z:K.lookup e with
  |none=>rfl
  |some o =>
   have z1:=KX _ _ z;rw [hm.new]at z1;cases z1
 ·refine hq h2 e dx t RI u1 u2 u3 r1 r2 r3 b1 b2 hm.new ?_ b4 fun b o z=>b5 b o (fun q=>?_) (hm.keeps _ _ z)
  ·cases z:hp.get? dx with
   |none=>rfl
   |some o =>
    have z1:=hm.keeps _ _ z;rw [show h'.get? dx=none from b3]at z1;cases z1
  ·subst q;rw [hm.new]at z;cases z
theorem ZaV{Q:Value->Shared->Prop}(KX:K.In s.heap)(T:XP K C)
  (hq:∀ h' e t,h'.get? e=some (iz C none (wg t) #[])->s.heap.get? e=none->(∀ b o,s.heap.get? b=some o->h'.get? b=some o)->Q (.ref e) { s with heap:=h' }) :
  wpAny (model prog w) A (call (.ref C) []) Q E s:=by
 obtain⟨nm,q,N,bs,sn,sub,ab,col,dd,k0,k1,k2,k3,k5,a1,a2,a3⟩:=T.ex;have G:s.heap.Ns N (s.heap.nsMap N):=.of_isNs (PySem.W.isNs_of_in KX a2);obtain⟨hp,g,d,tk,os⟩:=s;refine wpAny_call_exc_sub PySem.F.excBase_Exception (KX _ _ a1) G (lY KX G a3) (fun h' e hm=>?_) (by show 0<=sizeLine;decide)
 obtain⟨t,t1,t2,t3⟩:=hm.there;exact hq h' e t t1 hm.new hm.keeps
end
section
variable{M:Model}{A:Around}{E:Value->Shared->Prop}{env:Env}
variable{nm q:Str}{C N:Addr}{bs bm:List Value}{fZ:Bool}{sn:List Str}{sub:List Value}{ab:Bool}{col:Option Bool}{dd:Option Addr}{k0 k1 k2 k3 k5:Option Value}{c8:String}
theorem NZ{s:Shared}{x:Sem Value}{Q:Flow->Shared->Prop}(fm:bm.contains (.type "BaseException")=true)(hh:A.handled=none)
  (h:wpAny M A x (fun v s1=>∃ e d t,v=.ref e/\(∃ nm q N bs fZ sn sub ab col dd k0 k1 k2 k3 k5 c8,s1.heap.get? C=some (excClassObj nm q C N bs bm fZ sn sub ab col dd k0 k1 k2 k3 k5 c8)) /\
    s1.heap.get? e=some (iz C d (wg t) #[])/\E (.ref e) s1) E s):wpAny M A (raiseStmt env (some x) none) Q E s:=by
 have BY:(Value.ref C::bm).contains (.type "BaseException")=true:=by rw [E6,fm,Bool.or_true]
 unfold raiseStmt;refine aa (ax h (fun v s1 h1=>?_) fun _ _ x=>x);obtain⟨e,d',t,rfl,⟨nm,q,N,bs,fZ,sn,sub,ab,col,dd,k0,k1,k2,k3,k5,c8,hC⟩,he,hE⟩:=h1;obtain⟨hp,g,d,tk,os⟩:=s1
 repeat (first |with_reducible refine a0 he ?_ |with_reducible refine a0 hC ?_ |(with_reducible refine fX hC ?_;rw [BY]) |wp_step)
 exact wpAny_raiseNew_none hh hE
end
theorem oN{P:Program}{w:World}{H:Hp}{h:Heap}{a:Addr}{o:HO}(x:ObjOk P w H h a o):∃ q,h.get? a=some q:=by
 cases o with
 |lst xs=>obtain⟨_,_,_,_,e⟩:=x;exact⟨_,e⟩
 |tup xs=>obtain⟨_,_,_,ob,e,_⟩:=x;exact⟨_,e⟩
 |dK ah=>obtain⟨_,_,_,_,o,_,_,e,_⟩:=x;exact⟨_,e⟩
 |dT ah=>obtain⟨_,_,_,_,o,_,_,e,_⟩:=x;exact⟨_,e⟩
 |set S n=>obtain⟨o,_,_,_,e,_⟩:=x;exact⟨_,e⟩
 |ins C dx fs=>obtain⟨_,_,_,e,_⟩:=x;exact⟨_,e⟩
 |own y=>exact x
 |xd fs=>obtain⟨_,⟨_,_,_,e,_⟩,_⟩:=x;exact⟨_,e⟩
 |rng lo hi=>obtain⟨_,_,_,e⟩:=x;exact⟨_,e⟩
 |frz ob u=>obtain⟨e,_⟩:=x;exact⟨_,e⟩
 |tbl ps=>exact⟨_,x⟩
 |met f y=>exact⟨_,x⟩
 |ext φ=>obtain⟨_,e,_⟩:=x;exact e
section
variable{X:Cx}{pins:List (Addr×Obj)}{σ:L2.St}{H:Hp}{s:Shared}{a:Addr}{o:HO}
structure New(X:Cx)(pins:List (Addr×Obj))(H:Hp)(a:Addr):Prop where
 hn:H a=none
 h0:X.s_0.heap.get? a=none
 hL:a≠X.env.locals
 hc:∀ x c,X.env.cells.lookup x=some c->c≠a
 hp:∀ p∈X.pn++pins,p.1≠a
 hf:a∉b9 X.stack
theorem kF(I:Inv X pins σ H s)(cu:X.ex=[])(n:s.heap.get? a=none):New X pins H a where
 hn:=by
  cases w:H a with
  |none=>rfl
  |some o =>
   obtain⟨q,z⟩:=oN (I.hok a o w);rw [n]at z;cases z
 h0:=by
  cases w:X.s_0.heap.get? a with
  |none=>rfl
  |some o =>
   obtain⟨q,z⟩:=I.base.there a o w (by rw [cu];simp)
   rw [n]at z;cases z
 hL:=by
  rintro rfl;obtain⟨m,⟨ob,_,_,e,_⟩,_⟩:=I.loc;rw [n]at e;cases e
 hc:=fun x c e z=>by
  subst z;obtain⟨v,ob,e1,_⟩:=I.cell x c e;rw [n]at e1;cases e1
 hp:=fun p hp z=>by
  have e:=(I.pin p hp).1;rw [z,n]at e;cases e
 hf:=fun z=>by
  obtain⟨_,ob,e,_⟩:=I.stack.mem z;rw [n]at e;cases e
theorem lp(I:Inv X pins σ H s)(N:New X pins H a)(new:ObjOk X.prog X.w (upd H a o) s.heap a o):Inv X pins σ (upd H a o) s:=by
 refine⟨I.ok,I.os,I.bare,⟨I.base.keep,I.base.slot,fun b ob q n hx=>?_,I.base.there,fun b xs q=>?_,fun b ob u q=>?_,fun b ps q=>?_⟩,I.loc,I.cell,?_,fun x c e=>?_,fun p hp=>?_,fun b u q=>?_,I.len⟩
 ·rw [aj (fun z=>by rw [z,N.h0]at q;cases q)]
  exact I.base.free b ob q n hx
 ·have z:=I.base.tups b xs q;rw [aj (a9 z N.hn)];exact z
 ·have z:=I.base.frzs b ob u q;rw [aj (a9 z N.hn)];exact z
 ·obtain⟨cZ,z⟩:=I.base.tbls b ps q;exact⟨cZ,by rw [aj (a9 z N.hn)];exact z⟩
 ·rw [aj N.hL.symm];exact I.free
 ·rw [aj (N.hc x c e)];exact I.freeC x c e
 ·obtain⟨p1,p2,p3⟩:=I.pin p hp;exact⟨p1,by rw [aj (N.hp p hp)];exact p2,p3⟩
 ·by_cases hb:b=a
  ·subst hb;rw [Z2j]at q;cases q;exact new
  ·rw [aj hb]at q;exact(I.hok b u q).stay (fun c v _ e=>e) (fun c e=>by rw [aj (a9 e N.hn)];exact e) fun c xs e=>by rw [aj (a9 e N.hn)];exact e
end
section
variable{X:Cx}{pins:List (Addr×Obj)}{σ:L2.St}{H:Hp}{s:Shared}{C fI:Addr}{f1 f2 f3 x:Str}{d3:Int}
def Jk(X:Cx)(E:XK):Prop:=∀ (pins:List (Addr×Obj))(σ:L2.St)(H:Hp)(s:Shared)(e C:Addr)(d:Option Addr),Inv X pins σ H s->Gp true s.heap e C d->H e=none->X.s_0.heap.get? e=none ->
 (∀ dx,d=some dx->∃ fs,H dx=some (.xd fs))->E (.ref C) d H->X.xe (.ref e) s
def yP(C:Addr)(f1 f2 f3:Str)(d3:Int)(E:XK)(ta:TA):TS:=fun _ σ H=>ta σ H fun vs H1=>∃ v1 v2 v3,vM d3 vs v1 v2 v3/\∀ dx,H1 dx=none->E (.ref C) (some dx) (upd H1 dx (.xd [(f3,v3),(f2,v2),(f1,v1)]))
theorem PV{f1 f2 f3:Str}{v1 v2 v3:V}{u1 u2 u3:Value}(r1:RelV v1 u1)(r2:RelV v2 u2)(r3:RelV v3 u3)(f:Str):RelO (([(f3,v3),(f2,v2),(f1,v1)]:List (Str×V)).lookup f) (flt f1 f2 f3 u1 u2 u3 f):=by
 have st:∀ (g:Str)(v:V)(u:Value)(l:List (Str×V))(o:Option Value),RelV v u->RelO (l.lookup f) o->RelO (((g,v)::l).lookup f) (if f=g then some u else o):=fun g v u l o r h=>by
  by_cases a:f=g
  ·rw [ae a];have b:(f==g)=true:=aG.mpr a;simp only [List.lookup,b];exact r
  ·rw [ac a];have b:(f==g)=false:=aO.mpr a;simp only [List.lookup,b];exact h
 unfold flt;exact st f3 v3 u3 _ _ r3 (st f2 v2 u2 _ _ r2 (st f1 v1 u1 _ _ r1 True.intro))
theorem uM{a1:Expr}{as:List Expr}{ta:TA}{p pos br:Pos}{E:XK}(T:jl X.K C fI f1 f2 f3 d3)(hc:X.calm=true)(cu:X.ex=[])(gN:X.A.depth+1<recursionLimit)(hg:Gl X x)(hm:X.mg x=some (.ref C))(hx:Jk X E)(ha:PA X (a1::as) ta)
  (gy:(x==("__debug__" : Str))=false:=by decide)(he:autoParam (starEach (a1::as) X.env=(false,eval a1 X.env)::starEach as X.env) aR._auto_1)(i9:autoParam ((backTo br (starEach as X.env)).any (·.1)=false) aR._auto_1) :
  PS X (.Raise (some (.Call (.Name x p) (a1::as) [] br)) none pos) (yP C f1 f2 f3 d3 E ta):=by
 intro pins s σ H D I h;rw [arm_exec_Raise];have key:wpAny (model X.prog X.w) X.A (eval (.Call (.Name x p) (a1::as) [] br) X.env) (fun v s1=>∃ e d t,v=.ref e /\
   (∃ nm q N bs fZ sn sub ab col dd k0 k1 k2 k3 k5 c8,s1.heap.get? C=some (excClassObj nm q C N bs iF fZ sn sub ab col dd k0 k1 k2 k3 k5 c8))/\s1.heap.get? e=some (iz C d (wg t) #[])/\X.xe (.ref e) s1) X.xe s:=by
  refine aS (ma I hg hm ?_ gy);refine vU (h₀:=X.base) I.ok.mod.kin T.c.kp (aP (ha br pins s σ H _ I h) fun us s1 ⟨vs,H1,I1,r,v1,v2,v3,hv,q⟩=>⟨I1.kIn,?_⟩) he i9;refine Pq I1.kIn I1.nolimit T gN hv r fun h' e dx t tk u1 u2 u3 r1 r2 r3 b1 b2 b3 b4 b5 b6=>⟨e,some dx,t,rfl,?_,b1,?_⟩
  ·obtain⟨nm,q,N,bs,sn,sub,ab,col,dd,k0,k1,k2,k3,k5,m,c1,_⟩:=T.c.at (I1.kIn.keeps b6);exact⟨nm,q,N,bs,true,sn,sub,ab,col,dd,k0,k1,k2,k3,k5,_,c1⟩
  ·have Ne:=kF I1 cu b3;have Nd:=kF I1 cu b4;have I2:Inv X pins σ H1 { s1 with heap:=h',toks:=tk }:=I1.kept b6
   have I3:=lp (o:=.xd [(f3,v3),(f2,v2),(f1,v1)]) I2 Nd ⟨_,b2,fun f=>PV r1 r2 r3 f⟩;exact hx pins σ _ _ e C (some dx) I3 ⟨_,_,b1,rfl,fun _=>rfl⟩ (by rw [aj b5.symm];exact Ne.hn) Ne.h0 (fun eN z=>by cases z;exact⟨_,Z2j⟩) (q dx Nd.hn)
 exact aa (bo (NZ (bm:=iF) (by decide) (I.ok.hd hc) (aa (ax key (fun v s1 h1=>aa (bo (af h1))) fun _ _ z=>z))))
def ui(C:Addr)(E:XK):TS:=fun _ σ H=>E (.ref C) none H
theorem ZbF{p pos br:Pos}{E:XK}(T:XP X.K C)(hc:X.calm=true)(cu:X.ex=[])(hg:Gl X x)(hm:X.mg x=some (.ref C))(hx:Jk X E)(gy:(x==("__debug__" : Str))=false:=by decide) :
  PS X (.Raise (some (.Call (.Name x p) [] [] br)) none pos) (ui C E):=by
 intro pins s σ H D I h;rw [arm_exec_Raise];have key:wpAny (model X.prog X.w) X.A (eval (.Call (.Name x p) [] [] br) X.env) (fun v s1=>∃ e d t,v=.ref e /\
   (∃ nm q N bs fZ sn sub ab col dd k0 k1 k2 k3 k5 c8,s1.heap.get? C=some (excClassObj nm q C N bs iF fZ sn sub ab col dd k0 k1 k2 k3 k5 c8))/\s1.heap.get? e=some (iz C d (wg t) #[])/\X.xe (.ref e) s1) X.xe s:=by
  refine aS (ma I hg hm ?_ gy);refine PySem.W.callWith_K0 I.kIn T.kp (ZaV I.kIn T fun h' e t b1 b2 b3=>⟨e,none,t,rfl,?_,b1,?_⟩)
  ·obtain⟨nm,q,N,bs,sn,sub,ab,col,dd,k0,k1,k2,k3,k5,a1,_⟩:=T.ex;exact⟨nm,q,N,bs,true,sn,sub,ab,col,dd,k0,k1,k2,k3,k5,_,I.kIn.keeps b3 _ _ a1⟩
  ·have Ne:=kF I cu b2;exact hx pins σ H _ e C none (I.kept (t':=s.toks) b3) ⟨_,_,b1,rfl,fun _=>rfl⟩ Ne.hn Ne.h0 (fun eN z=>by cases z) h
 exact aa (bo (NZ (bm:=iF) (by decide) (I.ok.hd hc) (aa (ax key (fun v s1 h1=>aa (bo (af h1))) fun _ _ z=>z))))
end
def CXQ(z:Bool)(P:Program)(w:World):jV:=fun outer H s E e s'=>∃ (ea T C:Addr)(d:Option Addr)(H':Hp),e=.ref ea/\s'.os=s.os/\AllBare s'.gens/\Un (b9 outer) [] H H' s.heap s'.heap/\HOk P w H' s'.heap /\
 Fly z s'.heap ea T C d .none/\H' ea=none/\H' T=none/\s.heap.get? ea=none/\s.heap.get? T=none/\(∀ dx,d=some dx->∃ fs,H' dx=some (.xd fs))/\E (.ref C) d H'
abbrev gO(P:Program)(w:World):jV:=CXQ true P w
theorem Fly.weak{z:Bool}{h:Heap}{e T C:Addr}{dx:Option Addr}{fl:Value}(f:Fly z h e T C dx fl):Fly false h e T C dx fl:=⟨f.obj,f.tb,f.ne,fun q=>by cases q⟩
theorem CXQ.weak{z:Bool}{P:Program}{w:World}{outer:List Env}{H:Hp}{s s':Shared}{E:XK}{e:Value}(c:CXQ z P w outer H s E e s'):CXQ false P w outer H s E e s':=by
 obtain⟨ea,T,C,d,H',h0,h1,h2,h3,h4,h5,h6⟩:=c;exact⟨ea,T,C,d,H',h0,h1,h2,h3,h4,h5.weak,h6⟩
section
variable{X:Cx}{z:Bool}{pins:List (Addr×Obj)}{σ:L2.St}{H:Hp}{s:Shared}{E':Value->Shared->Prop}{E:XK}
theorem Je{env:Env}{outer:List Env}{L:Addr}(h:env.frame=some L):b9 (env::outer)=L::b9 outer:=by
 unfold b9;rw [zc,h]
theorem qo{h2:Heap}{ch:List Addr}(I:Inv X pins σ H s)(cp:X.stack=X.env::X.outer)(cK:X.env.frame=some X.env.locals)(cu:X.ex=[])(k:Kp (b9 X.stack) ch s.heap h2)(h0:∀ b∈ch,X.s_0.heap.get? b=none) :
  Un (b9 X.outer) [] X.H_0 H X.s_0.heap h2:=by
 have lS:∀ b o,X.s_0.heap.get? b=some o->b∉ch:=fun b o q z=>by
  rw [h0 b z]at q;cases q
 have nx:∀ b:Addr,b∉X.ex:=fun b z=>by rw [cu]at z;cases z
 have nL:∀ b o,X.s_0.heap.get? b=some o->b∉b9 X.outer->b∉b9 X.stack:=fun b o q n z=>by
  rw [cp,Je cK]at z;rcases bv.mp z with z |z
  ·exact absurd (iC (cy q) I.ok.above) (by rw [z];exact ik _)
  ·exact n z
 refine⟨fun b o q n hb _=>k.keep b o (I.base.keep b o q n hb (nx b)) (lS b o q) (nL b o q hb),fun b o q n hb _=>?_,fun b o q n _=>I.base.free b o q n (nx b),fun b o q _=>?_,I.base.tups,I.base.frzs,I.base.tbls⟩
 ·obtain⟨sl,e⟩:=I.base.slot b o q n hb (nx b);obtain⟨tY,e'⟩:=k.slot b _ e (lS b o q);exact⟨tY,e'⟩
 ·obtain⟨o',e⟩:=I.base.there b o q (nx b);obtain⟨tY,e'⟩:=k.slot b _ e (lS b o q);exact⟨_,e'⟩
theorem FK{h2:Heap}{ch:List Addr}(I:Inv X pins σ H s)(k:Kp (b9 X.stack) ch s.heap h2)(hH:∀ b∈ch,H b=none):HOk X.prog X.w H h2:=fun a o e =>
 (I.hok a o e).stay (fun b u hb q=>by
   have hs:∃ z,H b=some z:=by
    rcases hb with rfl |hb
    ·exact⟨o,e⟩
    ·exact⟨_,hb⟩
   obtain⟨z,hz⟩:=hs;refine k.keep b u q (fun m=>?_) fun m=>?_
   ·rw [hH b m]at hz;cases hz
   ·rw [I.stkFree b m]at hz;cases hz) (fun _ q=>q) fun _ _ q=>q
theorem gA(I:Inv X pins σ H s)(cu:X.ex=[]){a:Addr}(n:s.heap.get? a=none):H a=none/\X.s_0.heap.get? a=none:=let N:=kF I cu n;⟨N.hn,N.h0⟩
def An(z:Bool)(X:Cx)(H:Hp)(h:Heap)(ea C:Addr)(dx:Option Addr):Prop:=(H ea=none/\X.s_0.heap.get? ea=none)/\(Gp z h ea C dx\/∃ T,Fly z h ea T C dx .none/\H T=none/\X.s_0.heap.get? T=none)
theorem Zbu{Q:Unit->Shared->Prop}{ea C:Addr}{dx:Option Addr}(I:Inv X pins σ H s)(cp:X.stack=X.env::X.outer)(cK:X.env.frame=some X.env.locals)(cu:X.ex=[])(he:An z X H s.heap ea C dx)
  (h:∀ h1 T ch,Fly z h1 ea T C dx (rawInt X.env.locals)->(H T=none/\X.s_0.heap.get? T=none)->Kp (b9 X.stack) ch s.heap h1->(∀ b∈ch,H b=none/\X.s_0.heap.get? b=none)->Q () { s with heap:=h1 }) :
  wpAny (model X.prog X.w) X.A (noteFrame (.ref ea) X.env) Q E' s:=by
 have hF:X.A.frames=some (X.env::X.outer):=by rw [<-cp];exact I.ok.frames
 have hL:s.heap.FunFrames X.base (X.env::X.outer):=by rw [<-cp];exact I.stack
 obtain⟨h0,hf |⟨T,hf,hT⟩⟩:=he
 ·refine N9 hF hL cK hf fun h1 T f n k=>h h1 T [ea] f (gA I cu n) (by rw [cp];exact k) fun b hb=>?_
  rw [dq.mp hb];exact h0
 ·refine IH hF hL cK hf fun h1 T' f n k=>h h1 T' [T,ea] f (gA I cu n) (by rw [cp];exact k) fun b hb=>?_
  rcases bv.mp hb with rfl |hb
  ·exact hT
  ·rw [dq.mp hb];exact h0
theorem HY{ea C:Addr}{dx:Option Addr}(I:Inv X pins σ H s)(cp:X.stack=X.env::X.outer)(cK:X.env.frame=some X.env.locals)(cu:X.ex=[])(he:An z X H s.heap ea C dx)
  (hd:∀ eN,dx=some eN->∃ fs,H eN=some (.xd fs))(hE:E (.ref C) dx H):wpAny (model X.prog X.w) X.A (leaving X.env (.ref ea)) (fun _ s'=>CXQ z X.prog X.w X.outer X.H_0 X.s_0 E (.ref ea) s') E' s:=by
 unfold leaving;refine aa (Zbu I cp cK cu he fun h1 T ch f nT k hc=>?_);refine g9 (fs:=b9 X.stack) (s:={ s with heap:=h1 }) f fun h2 f2 k2=>?_
 have k3:=k.trans k2;have kO:∀ b∈ch++[T],H b=none/\X.s_0.heap.get? b=none:=fun b hb=>by
  rcases dy.mp hb with hb |hb
  ·exact hc b hb
  ·rw [dq.mp hb];exact nT
 exact⟨ea,T,C,dx,H,rfl,I.os,I.bare,qo I cp cK cu k3 fun b hb=>(kO b hb).2,FK I k3 fun b hb=>(kO b hb).1,f2,he.1.1,nT.1,he.1.2,nT.2,hd,hE⟩
end
section
variable{P:Program}{w:World}{K:aq}{mg:Str->Option Value}{base:Heap}{N:List Str}{qual:Str}{scope:Scope}{f:Addr}{cd:Value}{A:Around}{outer:List Env}{s0:Shared}{H0:Hp}{E:XK}{z:Bool}
abbrev uV(z:Bool)(P:Program)(w:World)(K:aq)(mg:Str->Option Value)(base:Heap)(N:List Str)(qual:Str)(scope:Scope)(f:Addr)(cd:Value)(A:Around)(outer:List Env)(s:Shared)(H:Hp)(E:XK):Cx :=
 j5 (CXQ z P w) P w K mg base N qual scope f cd A outer s H E
theorem rB:Jk (uV z P w K mg base N qual scope f cd A outer s0 H0 E) E:=by
 intro pins σ H s e C d I hf h1 h2 hd hE;exact HY I rfl rfl rfl ⟨⟨h1,h2⟩,.inl (by obtain⟨vs,sl,e1,e2,e3⟩:=hf;exact⟨vs,sl,e1,e2,fun _=>e3 rfl⟩)⟩ hd hE
theorem gu:jm (CXQ z P w) (uV z P w K mg base N qual scope f cd A outer s0 H0 E) E:=by
 intro pins σ H s e s' I h;obtain⟨ea,T,C,dx,H',rfl,h1,h2,h3,h4,h5,h6,h7,h8,h9,jt,lM⟩:=h;have I':Inv (uV z P w K mg base N qual scope f cd A outer s0 H0 E) pins σ H' s':=I.call' (ch:=[]) h1 h3 h4 h2 (fun b z=>absurd z (by simp))
 exact HY I' rfl rfl rfl ⟨⟨h6,(gA I rfl h8).2⟩,.inr ⟨T,h5,h7,(gA I rfl h9).2⟩⟩ jt lM
theorem Bi:PassesOwn (model P w) (uV z P w K mg base N qual scope f cd A outer s0 H0 E).A (uV z P w K mg base N qual scope f cd A outer s0 H0 E).env (uV z P w K mg base N qual scope f cd A outer s0 H0 E).xe:=PassesOwn.leaving
theorem kY{x:Str}{st:Stmt}{fd:FuncData}{ps:List Str}{k:Nat}{sp:Sp}(F:Fun K x qual st f fd)(S:cU N ps (bj st))(len:∀ vs H Q E,sp vs H Q E->vs.length=ps.length)
  (gX:∀ (bp:Value)(A:Around)(outer:List Env)(s:Shared)(H:Hp)(vs:List V)(Q:VK)(E:XK),Room k (A.deeper (envOfC qual (bj st) s.heap.objs.size f bp))->sp vs H Q E ->
    ∃ t,PSs (uV z P w K mg base N qual (bj st) f bp A outer s H E) (eP st) t/\t { nx:=fun _ H'=>Q .non H',rt:=Q } (start N vs) H):am P w K mg base (CXQ z P w) (k+1) f fd ps sp:=by
 obtain⟨oc,od,kV,gU,pm,an,bp,ct,jb,rfl,lk,jh⟩:=F.ex;exact nU lk jh S len fun A outer s H vs Q E hr kb=>gX bp A outer s H vs Q E hr kb
theorem iX{k:Nat}{fd:FuncData}{ps:List Str}{sp:Sp}(F:am P w K mg base (CXQ z P w) k f fd ps sp):am P w K mg base (CXQ false P w) k f fd ps sp :=
 ⟨F.len,fun A outer s H args us vs Q E hr he hb hv hs=>dz (F.run A outer s H args us vs Q E hr he hb hv hs) fun r s' q=>by
  cases r with
  |error e=>exact q.weak
  |ok fl=>cases fl<;>exact q⟩
end
structure lw(X:Cx)(pins:List (Addr×Obj))(H:Hp)(b:Addr):Prop where
 hn:H b=none
 h0:X.s_0.heap.get? b=none
 hL:b≠X.env.locals
 hc:∀ x c,X.env.cells.lookup x=some c->c≠b
 hp:∀ p∈X.pn++pins,p.1≠b
theorem New.off{X:Cx}{pins:List (Addr×Obj)}{H:Hp}{b:Addr}(n:New X pins H b):lw X pins H b:=⟨n.hn,n.h0,n.hL,n.hc,n.hp⟩
section
variable{X:Cx}{pins:List (Addr×Obj)}{σ:L2.St}{H:Hp}{s:Shared}
theorem rF{h1:Heap}{ch:List Addr}(I:Inv X pins σ H s)(cp:X.stack=X.env::X.outer)(cK:X.env.frame=some X.env.locals)(cu:X.ex=[])(k:Kp (b9 X.stack) ch s.heap h1)(hc:∀ b∈ch,lw X pins H b) :
  Inv X pins σ H { s with heap:=h1 }:=by
 have u:=qo I cp cK cu k fun b hb=>(hc b hb).h0;have cel:∀ {x:Str}{c:Addr}{v:Option Value},X.env.cells.lookup x=some c->s.heap.IsCell c v->h1.IsCell c v:=fun{x c v} e z=>by
  obtain⟨o,e1,e2⟩:=z;obtain⟨sl,e3⟩:=k.slot c o e1 fun m=>(hc c m).hc x c e rfl;exact⟨_,e3,e2⟩
 refine⟨I.ok,I.os,I.bare,?_,?_,fun x c e=>?_,I.free,I.freeC,fun p hp=>?_,FK I k fun b hb=>(hc b hb).hn,I.len⟩
 ·rw [cu];exact u
 ·obtain⟨m,⟨o,es,ep,e1,e2,r⟩,hl⟩:=I.loc;obtain⟨sl,e3⟩:=k.slot _ o e1 fun z=>(hc _ z).hL rfl;refine⟨m,⟨_,es,ep,e3,e2,r⟩,fun i x v a1 a2 a3=>?_⟩;obtain⟨u',r',q⟩:=hl i x v a1 a2 a3;refine⟨u',r',?_⟩;rcases q with q |⟨q1,c,q2,q3⟩
  ·exact .inl q
  ·exact .inr ⟨q1,c,q2,cel q2 q3⟩
 ·obtain⟨v,z⟩:=I.cell x c e;exact⟨v,cel e z⟩
 ·obtain⟨p1,p2,p3,p4,p5⟩:=I.pin p hp;refine⟨k.keep _ _ p1 (fun m=>(hc _ m).hp p hp rfl) fun m=>?_,p2,p3,p4,p5⟩;rw [cp,Je cK]at m;rcases bv.mp m with m |m
  ·exact p3 m
  ·exact p4 m
def blank(X:Cx):L2.St:=List.replicate X.N.length none
theorem Oc(X:Cx){i:Nat}{v:V}:(blank X)[i]?≠some (some v):=by
 unfold blank;rw [List.getElem?_replicate];split<;>intro z<;>cases z
theorem Inv.blank(I:Inv X pins σ H s):Inv X pins (blank X) H s:=I.weak (by unfold EX.blank;rw [G7,I.len]) fun i v e=>absurd e (Oc X)
theorem Os{h1:Heap}{m:Str->Option Value}{t:Nat}(I:Inv X pins σ H s)(hn:h1.Ns X.env.locals m)(hs:Heap.SameBut X.env.locals s.heap h1):Inv X pins (EX.blank X) H { s with heap:=h1,toks:=t }:=by
 have ne:∀ b o,X.s_0.heap.get? b=some o->b≠X.env.locals:=fun b o e=>eF (iC (cy e) I.ok.above);refine⟨I.ok,I.os,I.bare,⟨fun b o e n hb hx=>(hs.2 b (ne b o e)).trans (I.base.keep b o e n hb hx),fun b o e n hb hx=>?_,I.base.free,fun b o e hx=>?_,I.base.tups,I.base.frzs,I.base.tbls⟩,⟨m,hn,fun i x v _ e _=>absurd e (Oc X)⟩,
  fun x c e=>?_,I.free,I.freeC,fun p hp=>?_,fun a o e=>(I.hok a o e).stay (fun b u hb q=>(hs.2 b ?_).trans q) (fun _ q=>q) fun _ _ q=>q,by unfold EX.blank;rw [G7]⟩
 ·obtain⟨sl,z⟩:=I.base.slot b o e n hb hx;exact⟨sl,(hs.2 b (ne b o e)).trans z⟩
 ·obtain⟨o',z⟩:=I.base.there b o e hx;exact⟨o',(hs.2 b (ne b o e)).trans z⟩
 ·obtain⟨v,z⟩:=I.cell x c e;exact⟨v,z.sameBut hs (I.cne x c e)⟩
 ·obtain⟨p1,p2,p3,p4⟩:=I.pin p hp;exact⟨(hs.2 _ p3).trans p1,p2,p3,p4⟩
 ·rintro rfl;rcases hb with rfl |hb
  ·rw [I.free]at e;cases e
  ·rw [I.free]at hb;cases hb
abbrev XS(X:Cx)(ea:Addr):Cx:={ X with A:=X.A.mark (some (.ref ea)),calm:=false,xe:=fun _ _=>False }
abbrev XB(X:Cx)(pins:List (Addr×Obj))(E:Value->Shared->Prop):Cx:={ X with pn:=X.pn++pins,xe:=E }
theorem Inv.toS(I:Inv X pins σ H s)(ea:Addr):Inv (XS X ea) pins σ H s :=
 ⟨⟨I.ok.mod,I.ok.kind,I.ok.glob,I.ok.blt,I.ok.above,I.ok.inj,I.ok.has,I.ok.cab,(fun h=>by cases h),I.ok.frames,I.ok.stk,I.ok.exf,I.ok.bs,I.ok.bsz,I.ok.noex,I.ok.exfs,I.ok.funs,I.ok.frf⟩,I.os,I.bare,I.base,I.loc,I.cell,I.free,I.freeC,I.pin,I.hok,I.len⟩
theorem Inv.ofS{ea:Addr}(ok:X.Ok)(I:Inv (XS X ea) pins σ H s):Inv X pins σ H s:=⟨ok,I.os,I.bare,I.base,I.loc,I.cell,I.free,I.freeC,I.pin,I.hok,I.len⟩
theorem Inv.toB(I:Inv X pins σ H s)(E:Value->Shared->Prop):Inv (XB X pins E) [] σ H s :=
 ⟨⟨I.ok.mod,I.ok.kind,I.ok.glob,I.ok.blt,I.ok.above,I.ok.inj,I.ok.has,I.ok.cab,I.ok.hd,I.ok.frames,I.ok.stk,I.ok.exf,I.ok.bs,I.ok.bsz,I.ok.noex,I.ok.exfs,I.ok.funs,I.ok.frf⟩,I.os,I.bare,I.base,I.loc,I.cell,I.free,I.freeC,fun p hp=>I.pin p (by rw [jY]at hp;exact hp),I.hok,I.len⟩
theorem Inv.ofB{E:Value->Shared->Prop}{iS:List (Addr×Obj)}(ok:X.Ok)(I:Inv (XB X pins E) iS σ H s):Inv X pins σ H s :=
 ⟨ok,I.os,I.bare,I.base,I.loc,I.cell,I.free,I.freeC,fun p hp=>I.pin p (jX _ hp),I.hok,I.len⟩
def XE(z:Bool)(ea C dx:Addr):HO:=.ext fun h=>∃ vs sl,h.get? ea=some (iz C (some dx) vs sl)/\(z=true->vs[2]?=some .none)
theorem vL{P:Program}{w:World}{H:Hp}{h:Heap}{ea C dx:Addr}{z:Bool}(e:∃ vs sl,h.get? ea=some (iz C (some dx) vs sl)/\(z=true->vs[2]?=some .none)):ObjOk P w H h ea (XE z ea C dx):=by
 obtain⟨vs,sl,e,q⟩:=e;exact⟨⟨vs,sl,e,q⟩,⟨_,e⟩,fun h1 h2 ⟨vs,sl,a,q⟩ k=>⟨vs,sl,k _ a,q⟩⟩
structure qP(z:Bool)(X:Cx)(pins:List (Addr×Obj))(H:Hp)(s:Shared)(ea T C:Addr)(d:Option Addr):Prop where
 inv:Inv X pins (EX.blank X) H s
 fly:Fly z s.heap ea T C d .none
 oe:lw X pins H ea
 oT:lw X pins H T
 fe:ea∉b9 X.stack
 hd:∀ dx,d=some dx->∃ fs,H dx=some (.xd fs)
theorem ZbL{M:Model}{A:Around}{E:Value->Shared->Prop}{h:Heap}{g:Array GenState}{d:Drawn}{t:Nat}{os:OsState}{e C D:Addr}{oe:Obj}{Q:Bool->Shared->Prop}{K:aq}(X:K.In h)
  (kC:qW K C)(kD:qW K D)(he:h.get? e=some oe)(wR:oe.cls=.ref C)(bQ:C≠D)
  (hq:Q false ⟨h,g,d,t,os⟩):wpAny M A (excMatches (.ref e) (.ref D)) Q E ⟨h,g,d,t,os⟩:=by
 obtain⟨nm,q,N,bs,sn,sub,ab,col,dd,k0,k1,k2,k3,k5,lC⟩:=kC;obtain⟨nm',q',N',bs',sn',sub',ab',col',mf,k0',k1',k2',zZ,k5',lD⟩:=kD;have hC:=X _ _ lC;have hD:=X _ _ lD;have BY:(Value.ref D::iF).contains (.type "BaseException")=true:=by rw [E6,show iF.contains (.type "BaseException")=true by decide,Bool.or_true]
 have hcC:(Value.ref C::iF).contains (.ref D)=false:=by
  have:(Value.ref D==Value.ref C)=false:=by
   rw [aO];intro z;cases z;exact bQ rfl
  rw [E6,this];rfl
 have f:=tc_notTuple;unfold excMatches
 repeat (first |(with_reducible refine a0 he ?_;rw [wR]) |with_reducible refine a0 hD ?_ |(with_reducible refine fX hD ?_;rw [BY]) |(with_reducible refine fX hC ?_;rw [hcC]) |wp_step)
 exact hq
section
variable{z:Bool}{C C1 ea T i:Addr}{d:Option Addr}{n x:Str}{p pos:Pos}{b0:Stmt}{jG:List Stmt}{d8:List ExceptHandler}{th:TS}{D:dH}
theorem zo{nm:Option Str}(a:qP z X pins H s ea T C d)(hg:Gl X x)(hm:X.mg x=some (.ref C1))(kC:qW X.K C)(k1:qW X.K C1)(bQ:C≠C1)
  (h:wpAny (model X.prog X.w) X.A (handleBy (.ref ea) X.env d8) (SP X pins D) X.xe s)(gy:(x==("__debug__" : Str))=false:=by decide) :
  wpAny (model X.prog X.w) X.A (handleBy (.ref ea) X.env (.ExceptHandler (some (.Name x p)) nm (b0::jG) pos::d8)) (SP X pins D) X.xe s:=by
 obtain⟨EH,qO,e2,_⟩:=a.fly.obj;refine fV (eI (ma (X:=XS X ea) (Inv.toS a.inv ea) hg hm ?_ gy)) (by intro z;cases z)
 have KX:=a.inv.kIn;obtain⟨hp,g,dr,tk,os⟩:=s;exact ZbL KX kC k1 e2 rfl bQ h
theorem dR{Q:Bool->Shared->Prop}{A:Around}{E:Value->Shared->Prop}(a:qP z X pins H s ea T C d)(kC:qW X.K C)(h:Q true s):wpAny (model X.prog X.w) A (excMatches (.ref ea) (.ref C)) Q E s:=by
 obtain⟨EH,qO,e2,_⟩:=a.fly.obj;obtain⟨nm,q,N,bs,sn,sub,ab,col,dd,k0,k1',k2',k3,k5,c1⟩:=kC;have KX:=a.inv.kIn;obtain⟨hp,g,dr,tk,os⟩:=s;exact wpAny_excMatches_sub_self (KX _ _ c1) e2 rfl (by decide) h
theorem oz(a:qP z X pins H s ea T C d)(cp:X.stack=X.env::X.outer)(cK:X.env.frame=some X.env.locals)(cu:X.ex=[]){h3:Heap}(f3:Fly z h3 ea T C d .none)(k3:Kp (b9 X.stack) [T] s.heap h3):qP z X pins H { s with heap:=h3 } ea T C d :=
 ⟨rF a.inv cp cK cu k3 (fun b hb=>by rw [dq.mp hb];exact a.oT),f3,a.oe,a.oT,a.fe,a.hd⟩
theorem BW{dx:Addr}(a:qP z X pins H s ea T C (some dx))(kC:qW X.K C)(cp:X.stack=X.env::X.outer)(cK:X.env.frame=some X.env.locals)(cu:X.ex=[])(hg:Gl X x)(hm:X.mg x=some (.ref C))(hN:X.N.Nodup)(hi:X.N[i]?=some n)(hl:X.env.scope.names.lookup n=some .local)
  (hs:∀ ea,PSs (XS X ea) (b0::jG) th)(hE:∀ ea,H ea=none->ea≠dx->th { nx:=fun _ _=>False,rt:=D.rt } ((EX.blank X).set i (some (.ref ea))) (upd H ea (XE z ea C dx)))(gy:(x==("__debug__" : Str))=false:=by decide) :
  wpAny (model X.prog X.w) X.A (handleBy (.ref ea) X.env (.ExceptHandler (some (.Name x p)) (some n) (b0::jG) pos::d8)) (SP X pins D) X.xe s:=by
 refine fV (eI (ma (X:=XS X ea) (Inv.toS a.inv ea) hg hm (dR a kC ?_) gy)) (by intro z;cases z)
 refine codeAny_handlers_suite_as ?_;refine g9 (fs:=b9 X.stack) a.fly fun h3 f3 zZ=>?_;have a3:=oz a cp cK cu f3 zZ;obtain⟨Mz,Mf,e3,_⟩:=f3.obj;have I4:=lp (a:=ea) (o:=XE z ea C dx) a3.inv ⟨a.oe.hn,a.oe.h0,a.oe.hL,a.oe.hc,a.oe.hp,a.fe⟩ (vL ⟨Mz,Mf,e3,fun hz=>f3.cx hz _ _ e3 rfl⟩);have hd:ea≠dx:=fun z=>by
  obtain⟨fs,hf⟩:=a.hd dx rfl;rw [<-z,a.oe.hn]at hf;cases hf
 refine Fh (X:=XS X ea) (v:=.ref ea) (Inv.toS I4 ea) hN hi (.inl hl) rfl (fun s5 I5=>?_) (.inr hl);refine ax (hs ea pins s5 _ _ { nx:=fun _ _=>False,rt:=D.rt } I5 (hE ea a.oe.hn hd)) (fun fl s6 h6=>?_) fun _ _ z=>z.elim;cases fl with
 |ret u =>
  obtain⟨v,σ6,H6,I6,r6,q6⟩:=h6;have I7:Inv X pins σ6 H6 s6:=Inv.ofS a.inv.ok I6;obtain⟨m6,n6,_⟩:=I7.loc;refine wpAny_nameGoes hl n6 (by rw [a.inv.ok.kind];rfl) fun h7 m7 n7 sb7=>?_
  exact⟨v,_,H6,Os I7 n7 sb7,r6,q6⟩
 |next=>obtain⟨_,_,_,z⟩:=h6;exact z.elim
 |brk=>obtain⟨_,_,_,z⟩:=h6;exact z.elim
 |cont=>obtain⟨_,_,_,z⟩:=h6;exact z.elim
theorem Jl(a:qP z X pins H s ea T C d)(kC:qW X.K C)(cp:X.stack=X.env::X.outer)(cK:X.env.frame=some X.env.locals)(cu:X.ex=[])(hg:Gl X x)(hm:X.mg x=some (.ref C))
  (hs:∀ ea,PSs (XS X ea) (b0::jG) th)(hE:th { nx:=fun _ _=>False,rt:=D.rt } (EX.blank X) H)(gy:(x==("__debug__" : Str))=false:=by decide) :
  wpAny (model X.prog X.w) X.A (handleBy (.ref ea) X.env (.ExceptHandler (some (.Name x p)) none (b0::jG) pos::d8)) (SP X pins D) X.xe s:=by
 refine fV (eI (ma (X:=XS X ea) (Inv.toS a.inv ea) hg hm (dR a kC ?_) gy)) (by intro z;cases z)
 refine codeAny_handlers_suite ?_;refine g9 (fs:=b9 X.stack) a.fly fun h3 f3 zZ=>?_;have a3:=oz a cp cK cu f3 zZ;refine ax (hs ea pins _ _ _ { nx:=fun _ _=>False,rt:=D.rt } (Inv.toS a3.inv ea) hE) (fun fl s6 h6=>?_) fun _ _ z=>z.elim;cases fl with
 |ret u =>
  obtain⟨v,σ6,H6,I6,r6,q6⟩:=h6;exact⟨v,σ6,H6,Inv.ofS a.inv.ok I6,r6,q6⟩
 |next=>obtain⟨_,_,_,z⟩:=h6;exact z.elim
 |brk=>obtain⟨_,_,_,z⟩:=h6;exact z.elim
 |cont=>obtain⟨_,_,_,z⟩:=h6;exact z.elim
end
theorem wo{z:Bool}{ea T C:Addr}{d:Option Addr}{Q:Flow->Shared->Prop}{g:Sem Flow}(I:Inv X pins σ H s)(cp:X.stack=X.env::X.outer)(cK:X.env.frame=some X.env.locals)(cu:X.ex=[])(oe:lw X pins H ea)(oT:lw X pins H T)(hfe:ea∉b9 X.stack)
  (hf:Fly z s.heap ea T C d .none)(hd:∀ dx,d=some dx->∃ fs,H dx=some (.xd fs))
  (h:∀ s3 T1,qP z X pins H s3 ea T1 C d->wpAny (model X.prog X.w) X.A g Q X.xe s3) :
  wpAny (model X.prog X.w) X.A (noteFrame (.ref ea) X.env) (fun _ s2=>wpAny (model X.prog X.w) X.A (setFlight (.ref ea) none) (fun _ s3=>wpAny (model X.prog X.w) X.A g Q X.xe s3) X.xe s2) X.xe s:=by
 have hF:X.A.frames=some (X.env::X.outer):=by rw [<-cp];exact I.ok.frames
 have hL:s.heap.FunFrames X.base (X.env::X.outer):=by rw [<-cp];exact I.stack
 have Ib:=Inv.blank I;refine IH hF hL cK hf fun h1 T1 f1 nT k1=>?_;rw [<-cp]at k1;refine g9 (fs:=b9 X.stack) (s:={ s with heap:=h1 }) f1 fun h2 f2 k2=>?_
 have Dj:lw X pins H T1:=(kF I cu nT).off;have I2:Inv X pins (EX.blank X) H { s with heap:=h2 }:=rF Ib cp cK cu (k1.trans k2) fun b hb=>by
  rcases dy.mp hb with hb |hb
  ·rcases bv.mp hb with rfl |hb
   ·exact oT
   ·rw [dq.mp hb];exact oe
  ·rw [dq.mp hb];exact Dj
 exact h _ T1 ⟨I2,f2,oe,Dj,hfe,hd⟩
def Ms(W:dH->XK)(tb:XK->TS):TS:=fun D σ H=>tb (W D) D σ H
theorem yt{z:Bool}{dN:Pos}{h0:ExceptHandler}{hs:List ExceptHandler}{body:List Stmt}{tb:XK->TS}{W:dH->XK}
  (cp:X.stack=X.env::X.outer)(cK:X.env.frame=some X.env.locals)(cu:X.ex=[])
  (hb:∀ (pins:List (Addr×Obj))(E1:Value->Shared->Prop)(Ew:XK),jm (CXQ z X.prog X.w) (XB X pins E1) Ew->PSs (XB X pins E1) body (tb Ew))
  (hh:∀ (pins:List (Addr×Obj))(D:dH)(H:Hp)(s:Shared)(ea T C:Addr)(d:Option Addr),qP z X pins H s ea T C d->W D (.ref C) d H->wpAny (model X.prog X.w) X.A (handleBy (.ref ea) X.env (h0::hs)) (SP X pins D) X.xe s) :
  PS X (.Try body (h0::hs) [] [] dN) (Ms W tb):=by
 intro pins s σ H D I h;have hok:=I.ok;refine wpAny_Try_except ?_;have LK:jm (CXQ z X.prog X.w) (XB X pins fun e s1=>wpAny (model X.prog X.w) X.A (noteFrame e X.env) (fun _ s2=>wpAny (model X.prog X.w) X.A (setFlight e none) (fun _ s3 =>
   wpAny (model X.prog X.w) X.A (handleBy e X.env (h0::hs)) (SP X pins D) X.xe s3) X.xe s2) X.xe s1) (W D):=by
  intro iS σ' H' s' e iu I' q;obtain⟨ea,T,C',d,H2,rfl,h1,h2,h3,h4,h5,h6,h7,h8,h9,jt,lM⟩:=q;have I2:=I'.call' (ch:=[]) h1 h3 h4 h2 (fun b z=>absurd z (by simp))
  have J':Inv X pins σ' H' s':=Inv.ofB hok I';have J2:Inv X pins σ' H2 iu:=Inv.ofB hok I2;have Ne:=kF J' cu h8;have NT:=kF J' cu h9;exact wo J2 cp cK cu ⟨h6,Ne.h0,Ne.hL,Ne.hc,Ne.hp⟩ ⟨h7,NT.h0,NT.hL,NT.hc,NT.hp⟩ Ne.hf h5 jt fun s3 T1 a=>hh pins D H2 s3 ea T1 C' d a lM
 refine ax (hb pins _ _ LK [] s σ H D (Inv.toB I _) h) (fun f s1 q=>?_) fun _ _ z=>z;cases f with
 |next =>
  obtain⟨σ',H',I',q⟩:=q;exact dU ⟨σ',H',Inv.ofB hok I',q⟩
 |ret u =>
  obtain⟨v,σ',H',I',r,q⟩:=q;exact⟨v,σ',H',Inv.ofB hok I',r,q⟩
 |brk =>
  obtain⟨σ',H',I',q⟩:=q;exact⟨σ',H',Inv.ofB hok I',q⟩
 |cont =>
  obtain⟨σ',H',I',q⟩:=q;exact⟨σ',H',Inv.ofB hok I',q⟩
end
end EX
end
section
namespace EX
open PySem PySem.Spec PyProof.Rows L2
open Builtin Builtin.ObjectAttr
open PySem.W (Looks)
structure XG(K:aq)(C:Addr):Prop where
 ga:PySem.W.findIn K (.ref C) "__getattribute__" = some (some (.builtin "BaseException.__getattribute__"))
 gh:PySem.W.findIn K (.ref C) "__getattr__" = some none
 hd:PySem.W.hasDictIn K C=true
 sub:PySem.W.mroIn K C (.type "BaseException")=some true
theorem ss:builtinKind "BaseException.__getattribute__" = some .slot:=by decide +kernel
theorem nW:splitId "BaseException.__getattribute__" = some ("BaseException","__getattribute__"):=by decide +kernel
theorem kL:Slot "Exception" "__getattribute__" "BaseException.__getattribute__" :=
 .of (owner:="BaseException") (n:="__getattribute__") (by rw [jS,eG];kernel_rfl) (by decide +kernel) (by decide +kernel) (by decide +kernel)
  (by first |exact .inl (by decide +kernel) |exact .inr (by decide +kernel)) (by rw [isSubtype_type];kernel_rfl)
section
variable{X:Cx}{pins:List (Addr×Obj)}{σ:L2.St}{H:Hp}{s:Shared}{ea C dx:Addr}{fs:List (Str×V)}{f:Str}{v:V}{A:Around}{E:Value->Shared->Prop}
theorem uw{b:Bool}{z:Bool}{Q:Value->Shared->Prop}(I:Inv X pins σ H s)(e:H ea=some (XE z ea C dx))(ed:H dx=some (.xd fs))(g:XG X.K C)(n:NoAttr X.K C f)(l:fs.lookup f=some v)
  (h:∀ u s',Inv X pins σ H s'->RelV v u->Q u s'):wpAny (model X.prog X.w) A (getAttr (.ref ea) f b) Q E s:=by
 obtain⟨⟨vs,sl,e1,_⟩,_⟩:=(show ObjOk X.prog X.w H s.heap ea (XE z ea C dx)from I.hok ea _ e);obtain⟨mA,n1,r⟩:=(show ObjOk X.prog X.w H s.heap dx (.xd fs)from I.hok dx _ ed);obtain⟨u,hu,ru⟩:=RelO.some_of (v:=v) (o:=mA f) (by rw [<-l];exact r f)
 obtain⟨od,ho,hl⟩:=OV n1;have J:PySem.W.InstAt s.heap ea (iz C (some dx) vs sl) C (some od):=⟨e1,rfl,rfl,ho⟩;have hf:PySem.W.findObj X.K C (some od) f=some (.value u):=PySem.W.findObj_own g.hd n rfl (by rw [hl,hu])
 have KX:=I.kIn;have hQ:=h u { s with toks:=s.toks+1 } (I.tok _) ru
 obtain⟨hp,gg,d,tk,os⟩:=s;have L0:Looks (model X.prog X.w) hp (typeOf (.ref ea)) (.ref C):=J.type;have L1:Looks (model X.prog X.w) hp (typeLookup (.ref C) "__getattribute__") (some (.builtin "BaseException.__getattribute__")):=G5 KX g.ga;have L2:Looks (model X.prog X.w) hp (typeLookup (.ref C) "__getattr__") none:=G5 KX g.gh;have L3:Looks (model X.prog X.w) hp (find (.ref ea) (.ref C) f) (.value u):=PySem.W.looks_find KX J hf;have L4:Looks (model X.prog X.w) hp (isInstance (.ref ea) (.type "BaseException")) true:=L0.andThen (PySem.W.looks_mroIn KX g.sub);unfold getAttr getAttrBy;refine aa (wpAny_mkText (bw (aa (L0.at (aa (L1.at ?_))))));show wpAny _ _ (getAttrByItsOwn _ _ _ _ _ _) _ _ _;unfold getAttrByItsOwn;refine aa (L2.at (aa (iy (bw ?_))));have hx0:(b&&onTheHeap (Value.builtin "BaseException.__getattribute__"))=false:=by cases b<;>rfl
 unfold callGetattribute;rw [hx0,ac (by decide)]
 unfold boundAndCalled;rw [kL.bind];refine aa (af ?_);refine jI (codeAny_call_builtin kL.plain PySem.F.entry_bexc_ga (@PySem.W.check_slot (model X.prog X.w) _ _ ⟨hp,gg,d,tk+1,os⟩ "BaseException.__getattribute__" "BaseException" "__getattribute__" (.ref ea) [.str f tk] [] _ ss nW L4 (PySem.F.args_bexc_ga _ _) ?_));unfold Builtin.«object.__getattribute__»
 repeat lk
 show wpAny _ _ (handedOut u) _ _ _;rw [PySem.W.handedOut_of (ON ru)];exact af hQ
def RH(K:aq)(ta:TE)(f:Str):TE:=fun σ H Q=>ta σ H fun x H1=>∃ z ea C dx fs v,x=.ref ea/\H1 ea=some (XE z ea C dx)/\H1 dx=some (.xd fs)/\XG K C/\NoAttr K C f/\fs.lookup f=some v/\Q v H1
theorem DA{e:Expr}{pos:Pos}{ta:TE}(he:PE X e ta)(hb:attributeBase e f X.env (eval e X.env)=eval e X.env):PE X (.Attribute e f pos) (RH X.K ta f):=by
 intro pins s σ H Q I h;refine O9 hb (aP (he pins s σ H _ I h) fun u s1 zz=>?_);obtain⟨x,H1,I1,rx,z,a,C,dx,fs,v,ex,ea,ed,c,n,l,q⟩:=zz;subst ex;obtain rfl:u=Value.ref a:=rx;exact uw I1 ea ed c n l fun u' s2 I2 ru=>⟨v,H1,I2,ru,q⟩
end
section
variable{P:Program}{w:World}{K:aq}{mg:Str->Option Value}{base:Heap}{N ps:List Str}{qual x:Str}{f:Addr}{st:Stmt}{fd:FuncData}{k:Nat}{sp:Sp}
end
section
variable{X:Cx}{k:Nat}{f:Addr}{fd:FuncData}{ps:List Str}{sp:Sp}{x:Str}{p pos:Pos}{e:Expr}{es:List Expr}{t:TA}
end
end EX
end
section
namespace EX
open PySem PySem.Spec PyProof.Rows L2
theorem Z7v{env Bx:Env}(h:env.frame=Bx.frame)(e:Value):noteFrame e env=noteFrame e Bx:=by
 unfold noteFrame PySem.frameOf;rw [h]
theorem Kp.refl(fs ch:List Addr)(h:Heap):Kp fs ch h h:=⟨fun b o e _ _=>e,fun b o e _=>⟨o.slots,e⟩⟩
section
variable{M:Model}{A:Around}{E:Value->Shared->Prop}{s:Shared}
theorem Ir{z:Bool}{base:Heap}{env:Env}{outer:List Env}{L e T C:Addr}{dx:Option Addr}{fl:Value}{Q:Unit->Shared->Prop}
  (cK:A.frames=some (env::outer))(hl:s.heap.FunFrames base (env::outer))(hf:env.frame=some L)(he:Fly z s.heap e T C dx fl)
  (h:∀ h' T',Fly z h' e T' C dx (rawInt L)->(T'=T\/s.heap.get? T'=none)->Kp (b9 (env::outer)) [T,e] s.heap h'->Q () { s with heap:=h' }):wpAny M A (noteFrame (.ref e) env) Q E s:=by
 by_cases B9:(fl==rawInt L)=true
 ·have hfl':=B9;obtain⟨⟨vs,sl,e1,e2⟩,⟨oT,ts,t1,t2,t3⟩,ne⟩:=id he;have q:fl=rawInt L:=eq_of_beq B9;subst q;unfold noteFrame;rw [hf];refine aa (aL e1 rfl e2 ?_);rw [ae (show(Value.ref T != Value.none)=true by simp)]
  refine aa (aL t1 t2 t3 ?_);rw [ae B9];exact af (h s.heap T he (.inl rfl) (Kp.refl _ _ _))
 ·obtain⟨⟨vs,sl,e1,e2⟩,⟨oT,ts,t1,t2,t3⟩,ne,cx⟩:=he;unfold noteFrame;rw [hf];refine aa (aL e1 rfl e2 ?_);rw [ae (show(Value.ref T != Value.none)=true by simp)]
  refine aa (aL t1 t2 t3 ?_);rw [ac B9];refine aa (bD t1 t2 (qv.mp t3).1 ?_);have fg:∀ b,b≠T->(s.heap.update T (Obj.mapFields (·.setIfInBounds 3 Value.none))).get? b=s.heap.get? b:=fun b hb=>jZ _ _ (Ne.symm hb);have nr:∀ b o,s.heap.get? b=some o->(∀ vs,o.data≠.fields vs)->b≠T:=fun b o hb hn q=>by
   rw [q,t1]at hb;cases hb;exact hn ts t2
  refine IE cK (hl.of_keeps fun b o hb hn=>⟨o,(fg b (nr b o hb hn)).trans hb,rfl⟩) hf ((fg e ne.symm).trans e1) (qv.mp e2).1 (fun hz=>cx hz _ _ e1 rfl) fun h' T' f n k=>h h' T' f ?_ ⟨fun b o q n1 n2=>?_,fun b o q n1=>?_⟩
  ·by_cases z:T'=T
   ·exact .inl z
   ·right;rw [<-fg T' z];exact n
  ·simp only [bv,ij,or_false,b8]at n1;exact k.keep b o ((fg b n1.1).trans q) (by simpa using n1.2) n2
  ·simp only [bv,ij,or_false,b8]at n1;exact k.slot b o ((fg b n1.1).trans q) (by simpa using n1.2)
end
section
variable{X:Cx}{pins:List (Addr×Obj)}{σ:L2.St}{H:Hp}{s:Shared}{E':Value->Shared->Prop}{E:XK}
theorem OP{z:Bool}{ea T C:Addr}{dx:Option Addr}{fl:Value}(I:Inv X pins σ H s)(cp:X.stack=X.env::X.outer)(cK:X.env.frame=some X.env.locals)(cu:X.ex=[])(hf:Fly z s.heap ea T C dx fl)
  (h1:H ea=none/\X.s_0.heap.get? ea=none)(hT:H T=none/\X.s_0.heap.get? T=none)
  (hd:∀ eN,dx=some eN->∃ fs,H eN=some (.xd fs))(hE:E (.ref C) dx H):wpAny (model X.prog X.w) X.A (leaving X.env (.ref ea)) (fun _ s'=>CXQ z X.prog X.w X.outer X.H_0 X.s_0 E (.ref ea) s') E' s:=by
 have hF:X.A.frames=some (X.env::X.outer):=by rw [<-cp];exact I.ok.frames
 have hL:s.heap.FunFrames X.base (X.env::X.outer):=by rw [<-cp];exact I.stack
 unfold leaving;refine aa (Ir hF hL cK hf fun FS T' f n k=>?_);have nT:H T'=none/\X.s_0.heap.get? T'=none:=by
  rcases n with rfl |n
  ·exact hT
  ·exact gA I cu n
 have k':Kp (b9 X.stack) [T,ea] s.heap FS:=by rw [cp];exact k
 refine g9 (fs:=b9 X.stack) (s:={ s with heap:=FS }) f fun h2 f2 k2=>?_
 have k3:=k'.trans k2;have kO:∀ b∈[T,ea]++[T'],H b=none/\X.s_0.heap.get? b=none:=fun b hb=>by
  simp only [E5,AE,bv,ij,or_false]at hb;rcases hb with rfl |rfl |rfl
  ·exact hT
  ·exact h1
  ·exact nT
 exact⟨ea,T',C,dx,H,rfl,I.os,I.bare,qo I cp cK cu k3 fun b hb=>(kO b hb).2,FK I k3 fun b hb=>(kO b hb).1,f2,h1.1,nT.1,h1.2,nT.2,hd,hE⟩
theorem rO{z:Bool}{H3:Hp}{s3:Shared}{scope:Scope}{ce:Env}{fp:List Addr}{use:Option (Value->Sem Unit)}{Qf:Value->Shared->Prop}{acc:Value}(I3:Inv X pins σ H3 s3)(cp:X.stack=X.env::X.outer)(cK:X.env.frame=some X.env.locals)(cu:X.ex=[])
  (xp:∀ e s',wpAny (model X.prog X.w) X.A (leaving X.env e) (fun _ iu=>CXQ z X.prog X.w X.outer X.H_0 X.s_0 E e iu) (fun e' iu=>CXQ z X.prog X.w X.outer X.H_0 X.s_0 E e' iu) s'->X.xe e s')
  (f3:∀ b∈fp,eJ X pins H3 b/\b<s3.heap.objs.size)(zN:ce.frame=X.env.frame)(cL:ce.locals=s3.heap.objs.size) :
  jm (CXQ z X.prog X.w) ((X.blk s3 H3 scope ce fp).wish (notedBy (model X.prog X.w) X.A ce fun e s'=>compPost (model X.prog X.w) X.A X.xe use Qf acc s3.heap.objs.size (.error e) s')) E:=by
 intro iS σ' H5 s5 e s6 I5 Ke;obtain⟨ea,T,C,dx,H',rfl,h1,h2,h3,h4,h5,h6,h7,h8,h9,jt,lM⟩:=Ke;have I6:=I5.call' (ch:=[]) h1 h3 h4 h2 (fun b z=>absurd z (by simp))
 show wpAny (model X.prog X.w) X.A (noteFrame (.ref ea) ce) _ _ s6;rw [Z7v zN];have hF:X.A.frames=some (X.env::X.outer):=by rw [<-cp];exact I3.ok.frames
 have hL:s6.heap.FunFrames X.base (X.env::X.outer):=by
  have z:s6.heap.FunFrames X.base X.stack:=I6.stack;rw [<-cp];exact z
 have vK:Un (b9 X.stack) fp H3 H' s3.heap s6.heap:=I6.base;refine Ir hF hL cK h5 fun QB T7 f7 n7 k7=>?_;have k7:Kp (b9 X.stack) [T,ea] s6.heap QB:=by rw [cp];exact k7
 obtain⟨m,hn,_⟩:=I6.loc;have hn:s6.heap.Ns ce.locals m:=hn;rw [cL]at hn;have hnC:=hn;obtain⟨oC,es,ep,eC,dC,rC⟩:=hnC;have Dg:∀ {b:Addr},s6.heap.get? b=none->b∉fp->s3.heap.get? b=none:=fun{b} n hb=>by
  cases w:s3.heap.get? b with
  |none=>rfl
  |some o =>
   obtain⟨q,z⟩:=vK.there b o w hb;rw [n]at z;cases z
 have kX:∀ {b:Addr},s5.heap.get? b=none->b∉fp->s3.heap.get? b=none:=fun{b} n hb=>by
  cases w:s3.heap.get? b with
  |none=>rfl
  |some o =>
   obtain⟨q,z⟩:=I5.base.there b o w hb;rw [n]at z;cases z
 have vk:∀ {b:Addr},(b∉fp->s3.heap.get? b=none)->X.s_0.heap.get? b=none:=fun{b} n=>by
  by_cases hb:b∈fp
  ·rcases(f3 b hb).1.2.2.2.1 with z |z
   ·rw [cu]at z;cases z
   ·exact AM z
  ·exact(gA I3 cu (n hb)).2
 have nCf:s3.heap.objs.size∉b9 X.stack:=fun z=>by
  have zl:s3.heap.FunFrames X.base X.stack:=I3.stack;obtain⟨_,o,ho,_⟩:=zl.mem z;exact absurd (cy ho) (ik _)
 have Lr:s3.heap.objs.size≠ea:=fun z=>by
  obtain⟨⟨vs,sl,e1,e2⟩,_⟩:=h5;rw [z,e1]at eC;cases eC;cases dC
 have nCT:s3.heap.objs.size≠T:=fun z=>by
  obtain⟨_,⟨oT,ts,t1,t2,t3⟩,_⟩:=h5;rw [z,t1]at eC;cases eC;rw [t2]at dC;cases dC
 have JH:QB.get? s3.heap.objs.size=some oC:=k7.keep _ _ eC (by simp only [bv,ij,or_false,b8];exact⟨nCT,Lr⟩) nCf
 have QE:H' T7=none:=by
  rcases n7 with rfl |n7
  ·exact h7
  ·cases w:H' T7 with
   |none=>rfl
   |some o =>
    obtain⟨q,z⟩:=oN (I6.hok T7 o w);rw [n7]at z;cases z
 refine⟨m,⟨oC,es,ep,JH,dC,rC⟩,fun h' sb ci _=>?_⟩;obtain⟨⟨vs,sl,e1,e2⟩,⟨oT,ts,t1,t2,t3⟩,ne,cx7⟩:=id f7;have Lq:s3.heap.objs.size≠T7:=fun z=>by
  rw [z,t1]at JH;cases JH;rw [t2]at dC;cases dC
 have Bv:h'.get? ea=some (iz C dx vs sl):=(sb.2 ea (Ne.symm Lr)).trans e1;have RG:h'.get? T7=some oT:=(sb.2 T7 (Ne.symm Lq)).trans t1;have hsz:=(qv.mp t3).1;unfold PySem.passOn setFlight;refine aa (aL Bv rfl e2 ?_);rw [ac (show ¬ ((Value.ref T7==Value.none)=true) by simp)]
 refine aa (aa (aL Bv rfl e2 ?_));rw [ae (show(Value.ref T7 != Value.none)=true by simp)]
 refine bD RG t2 hsz ?_;refine lV (xp _ _ ?_);generalize B9:(ci.frame.elim Value.none fun f=>rawInt f)=fl;have fg:∀ b,b≠T7->(h'.update T7 (Obj.mapFields (·.setIfInBounds 3 fl))).get? b=h'.get? b:=fun b hb=>jZ _ _ (Ne.symm hb);have f8:Fly z (h'.update T7 (Obj.mapFields (·.setIfInBounds 3 fl))) ea T7 C dx fl:=⟨⟨vs,sl,(fg ea ne.symm).trans Bv,e2⟩,⟨_,_,lX _ RG (Obj.isFreed_of_fields (Obj.data_mapFields t2 _)),Obj.data_mapFields t2 _,by simp [hsz]⟩,ne,fun hz o vs q=>cx7 hz o vs (((fg ea ne.symm).trans (sb.2 ea (Ne.symm Lr))).symm.trans q)⟩
 have k8:Kp (b9 X.stack) [T,ea,s3.heap.objs.size,T7] s6.heap (h'.update T7 (Obj.mapFields (·.setIfInBounds 3 fl))):=by
  refine⟨fun b o q n1 n2=>?_,fun b o q n1=>?_⟩
  ·simp only [bv,ij,or_false,b8]at n1;rw [fg b n1.2.2.2,sb.2 b n1.2.2.1];exact k7.keep b o q (by simp only [bv,ij,or_false,b8];exact⟨n1.1,n1.2.1⟩) n2
  ·simp only [bv,ij,or_false,b8]at n1;rw [fg b n1.2.2.2,sb.2 b n1.2.2.1];exact k7.slot b o q (by simp only [bv,ij,or_false,b8];exact⟨n1.1,n1.2.1⟩)
 have freeC:H' s3.heap.objs.size=none:=by
  have z:H' ce.locals=none:=I6.free;rw [cL]at z;exact z
 have kQ:∀ b∈[T,ea,s3.heap.objs.size,T7],H' b=none/\(b∉fp->s3.heap.get? b=none):=fun b hb=>by
  simp only [bv,ij,or_false]at hb;rcases hb with rfl |rfl |rfl |rfl
  ·exact⟨h7,kX h9⟩
  ·exact⟨h6,kX h8⟩
  ·exact⟨freeC,fun _=>AM (bK _)⟩
  ·refine⟨QE,fun hb=>?_⟩;rcases n7 with rfl |n7
   ·exact kX h9 hb
   ·exact Dg n7 hb
 have un8:Un (b9 X.stack) fp H3 H' s3.heap (h'.update T7 (Obj.mapFields (·.setIfInBounds 3 fl))):=by
  have lS:∀ b o,s3.heap.get? b=some o->b∉fp->b∉[T,ea,s3.heap.objs.size,T7]:=fun b o q hb z=>by
   rw [(kQ b z).2 hb]at q;cases q
  refine⟨fun b o q n hb hx=>k8.keep b o (vK.keep b o q n hb hx) (lS b o q hx) hb,fun b o q n hb hx=>?_,vK.free,fun b o q hx=>?_,vK.tups,vK.frzs,vK.tbls⟩
  ·obtain⟨tY,e'⟩:=vK.slot b o q n hb hx;obtain⟨qO,Bw⟩:=k8.slot b _ e' (lS b o q hx);exact⟨qO,Bw⟩
  ·obtain⟨o',e'⟩:=vK.there b o q hx;obtain⟨qO,Bw⟩:=k8.slot b _ e' (lS b o q hx);exact⟨_,Bw⟩
 have KL:HOk X.prog X.w H' (h'.update T7 (Obj.mapFields (·.setIfInBounds 3 fl))):=FK (X:=(X.blk s3 H3 scope ce fp).wish _) I6 k8 fun b hb=>(kQ b hb).1;have I8:Inv X pins σ H' { s6 with heap:=h'.update T7 (Obj.mapFields (·.setIfInBounds 3 fl)) } :=
  I3.call' (ch:=fp) I6.os un8 KL I6.bare fun b hb=>⟨(f3 b hb).1.2.2.2.1,(f3 b hb).1.2.1,(f3 b hb).1.2.2.2.2.1,(f3 b hb).1.2.2.2.2.2⟩
 exact OP I8 cp cK cu f8 ⟨h6,vk (kX h8)⟩ ⟨QE,vk (kQ T7 (by simp)).2⟩ jt lM
end
theorem Z8A:entryFor table "proto.unchain" = some Builtin.«proto.unchain»:=entryFor_of_tree (by kernel_rfl)
abbrev BL(t ea:Addr):Array Value:=#[.ref t,.none,.ref ea,.ref ea,.bool true,.none]
section
variable{P:Program}{w:World}{A:Around}{E:Value->Shared->Prop}{env:Env}{C ea:Addr}
theorem ZaM{s:Shared}{x c:Sem Value}{Q:Flow->Shared->Prop}(hh:A.handled=some (.ref ea))
  (h:wpAny (model P w) A x (fun v s1=>∃ e d t,v=.ref e/\wpAny (model P w) A c (fun cv s2=>cv=.ref ea/\e≠ea/\(∃ nm q N bs fZ sn sub ab col dd k0 k1 k2 k3 k5 c8,s2.heap.get? C=some (excClassObj nm q C N bs iF fZ sn sub ab col dd k0 k1 k2 k3 k5 c8)) /\
    s2.heap.get? e=some (iz C d (wg t) #[])/\C≠e/\(∃ vs sl dd,s2.heap.get? ea=some (iz C dd vs sl)/\vs[2]?=some .none) /\
    ∀ h',h'.get? e=some (iz C d (BL t ea) #[])->(∀ b,b≠e->h'.get? b=s2.heap.get? b)->E (.ref e) { s2 with heap:=h' }) E s1) E s):wpAny (model P w) A (raiseStmt env (some x) (some c)) Q E s:=by
 have BY:(Value.ref C::iF).contains (.type "BaseException")=true:=by rw [E6,show iF.contains (.type "BaseException")=true by decide,Bool.or_true]
 unfold raiseStmt;refine aa (ax h (fun v s1 h1=>?_) fun _ _ x=>x);obtain⟨e,d',t,rfl,h1⟩:=h1;refine aa (bw (ax h1 (fun cv s2 h2=>aa (af ?_)) fun _ _ x=>x));obtain⟨rfl,ne,⟨nm,q,N,bs,fZ,sn,sub,ab,col,dd,k0,k1,k2,k3,k5,c8,hC⟩,he,xQ,⟨vs,sl,mf,ha,ha2⟩,hE⟩:=h2;obtain⟨hp,g,d,tk,os⟩:=s2
 repeat (first |with_reducible refine a0 he ?_ |with_reducible refine a0 ha ?_ |with_reducible refine a0 hC ?_ |(with_reducible refine fX hC ?_;rw [BY]) |wp_step)
 have e1:(hp.update e (Obj.mapFields fun x=>x.setIfInBounds 3 (Value.ref ea))).get? e=some (iz C d' #[.ref t,.none,.none,.ref ea,.bool false,.none] #[]):=lX _ he rfl;have e2:((hp.update e (Obj.mapFields fun x=>x.setIfInBounds 3 (Value.ref ea))).update e (Obj.mapFields fun x=>x.setIfInBounds 4 (Value.bool true))).get? e=some (iz C d' #[.ref t,.none,.none,.ref ea,.bool true,.none] #[]):=lX _ e1 rfl;have fg:∀ b,b≠e->((hp.update e (Obj.mapFields fun x=>x.setIfInBounds 3 (Value.ref ea))).update e (Obj.mapFields fun x=>x.setIfInBounds 4 (Value.bool true))).get? b=hp.get? b:=fun b hb=>(jZ _ _ (Ne.symm hb)).trans (jZ _ _ (Ne.symm hb));generalize (hp.update e (Obj.mapFields fun x=>x.setIfInBounds 3 (Value.ref ea))).update e (Obj.mapFields fun x=>x.setIfInBounds 4 (Value.bool true))=h2 at e2 fg ⊢;have ha':h2.get? ea=some (iz C mf vs sl):=(fg ea ne.symm).trans ha;unfold raiseNew;refine aa (wpAny_handled ?_);rw [hh];have bQ:(Value.ref ea != Value.ref e)=true:=by
  simp only [gT,F5,Value.ref.injEq];exact ne.symm
 dsimp only;rw [ae bQ];refine aa (bw (runValue_entry Z8A ?_));unfold Builtin.«proto.unchain»;dsimp only;refine aa (aL ha' rfl ha2 ?_);rw [ae (by rfl)]
 refine af ⟨_,rfl,?_⟩;refine aa (bD (i:=2) (x:=.ref ea) e2 rfl (by show 2<6;decide) (lV ?_))
 exact hE _ (lX _ e2 rfl) fun b hb=>(jZ _ _ (Ne.symm hb)).trans (fg b hb)
end
def PN(X:Cx)(E:XK):Prop:=∀ (pins:List (Addr×Obj))(σ:L2.St)(H:Hp)(s:Shared)(ea T C:Addr)(d:Option Addr)(fl:Value),Inv X pins σ H s->Fly false s.heap ea T C d fl->(H ea=none/\X.s_0.heap.get? ea=none)->(H T=none/\X.s_0.heap.get? T=none) ->
 (∀ dx,d=some dx->∃ fs,H dx=some (.xd fs))->E (.ref C) d H->X.xe (.ref ea) s
section
variable{P:Program}{w:World}{K:aq}{mg:Str->Option Value}{base:Heap}{N:List Str}{qual:Str}{scope:Scope}{f:Addr}{cd:Value}{A:Around}{outer:List Env}{s0:Shared}{H0:Hp}{E:XK}
theorem ZaW:PN (uV false P w K mg base N qual scope f cd A outer s0 H0 E) E:=by
 intro pins σ H s ea T C d fl I hf h1 h2 hd hE;exact OP I rfl rfl rfl hf h1 h2 hd hE
end
section
variable{M:Model}{A:Around}{E:Value->Shared->Prop}{s:Shared}
theorem PD{z:Bool}{fs:List Addr}{e T C:Addr}{dx:Option Addr}{fl:Value}{fr:Option Addr}{Q:Unit->Shared->Prop}(he:Fly z s.heap e T C dx fl)
  (h:∀ h' fl',Fly z h' e T C dx fl'->Kp fs [T] s.heap h'->Q () { s with heap:=h' }):wpAny M A (setFlight (.ref e) fr) Q E s:=by
 obtain⟨⟨vs,sl,e1,e2⟩,⟨oT,ts,t1,t2,t3⟩,ne,cx⟩:=he;have sz:=(qv.mp t3).1;have fg:∀ v b,b≠T->(s.heap.update T (Obj.mapFields (·.setIfInBounds 3 v))).get? b=s.heap.get? b:=fun v b hb=>jZ _ _ (Ne.symm hb);unfold setFlight;refine aa (aL e1 rfl e2 ?_);rw [ae (show(Value.ref T != Value.none)=true by simp)]
 refine bD t1 t2 sz (h _ _ ⟨⟨vs,sl,(fg _ e ne.symm).trans e1,e2⟩,⟨_,_,lX _ t1 (Obj.isFreed_of_fields (Obj.data_mapFields t2 _)),Obj.data_mapFields t2 _,by simp [sz];rfl⟩,ne,fun hz o vs q=>cx hz o vs ((fg _ e ne.symm).symm.trans q)⟩ ⟨?_,?_⟩)
 ·exact fun b o q n1 _=>(fg _ b fun z=>n1 (by rw [z];exact dq.mpr rfl)).trans q
 ·exact fun b o q n1=>⟨o.slots,(fg _ b fun z=>n1 (by rw [z];exact dq.mpr rfl)).trans q⟩
theorem EB{z:Bool}{e T C:Addr}{dx:Option Addr}{fl:Value}{Q:Value->Shared->Prop}(he:Fly z s.heap e T C dx fl)(h:Q (.ref T) s):wpAny M A (field (.ref e) 1) Q E s:=by
 obtain⟨⟨vs,sl,e1,e2⟩,_⟩:=he;exact aL e1 rfl e2 h
theorem Fly.same{z:Bool}{L:Addr}{h h':Heap}{e T C:Addr}{dx:Option Addr}{fl:Value}(he:Fly z h e T C dx fl)(sb:Heap.SameBut L h h')(n1:e≠L)(n2:T≠L):Fly z h' e T C dx fl:=by
 obtain⟨⟨vs,sl,e1,e2⟩,⟨oT,ts,t1,t2,t3⟩,ne,cx⟩:=he;exact⟨⟨vs,sl,(sb.2 e n1).trans e1,e2⟩,⟨oT,ts,(sb.2 T n2).trans t1,t2,t3⟩,ne,fun hz o vs q=>cx hz o vs ((sb.2 e n1).symm.trans q)⟩
end
structure AtS(z:Bool)(X:Cx)(pins:List (Addr×Obj))(σ:L2.St)(H:Hp)(s:Shared)(ea T C:Addr)(d:Option Addr):Prop where
 inv:Inv X pins σ H s
 fly:Fly z s.heap ea T C d .none
 oe:lw X pins H ea
 oT:lw X pins H T
 fe:ea∉b9 X.stack
 hd:∀ dx,d=some dx->∃ fs,H dx=some (.xd fs)
theorem AtS.toH{z:Bool}{X:Cx}{pins:List (Addr×Obj)}{σ:L2.St}{H:Hp}{s:Shared}{ea T C:Addr}{d:Option Addr}(a:AtS z X pins σ H s ea T C d):qP z X pins H s ea T C d:=⟨Inv.blank a.inv,a.fly,a.oe,a.oT,a.fe,a.hd⟩
section
variable{X:Cx}{pins:List (Addr×Obj)}{σ:L2.St}{H:Hp}{s:Shared}{C ea T i dx fI:Addr}{n x f1 f2 f3:Str}{d3:Int}{p p1 p2 pos br LY:Pos}{d8:List ExceptHandler}{D:dH}
theorem wO{a1:Expr}{as:List Expr}{ta:TA}{E:XK}(a:AtS true X pins σ H s ea T C (some dx))(TI:jl X.K C fI f1 f2 f3 d3)(cp:X.stack=X.env::X.outer)(cK:X.env.frame=some X.env.locals)(cu:X.ex=[])(gN:X.A.depth+1<recursionLimit)
  (hg:Gl X x)(hm:X.mg x=some (.ref C))(hN:X.N.Nodup)(hi:X.N[i]?=some n)(hl:X.env.scope.names.lookup n=some .local)(hx:PN X E)
  (ha:∀ ea,PA (XS X ea) (a1::as) ta)(hE:∀ ea,H ea=none->ea≠dx->ta (σ.set i (some (.ref ea))) (upd H ea (XE true ea C dx)) fun vs H1=>H1 ea=some (XE true ea C dx) /\
    ∃ v1 v2 v3,vM d3 vs v1 v2 v3/\∀ eZ,H1 eZ=none->E (.ref C) (some eZ) (upd H1 eZ (.xd [(f3,v3),(f2,v2),(f1,v1)])))(gy:(x==("__debug__" : Str))=false:=by decide)(wT:(n==("__debug__" : Str))=false:=by decide)(hcn:(n==("__classdict__" : Str))=false:=by decide)
  (he:autoParam (starEach (a1::as) X.env=(false,eval a1 X.env)::starEach as X.env) aR._auto_1)(i9:autoParam ((backTo br (starEach as X.env)).any (·.1)=false) aR._auto_1) :
  wpAny (model X.prog X.w) X.A (handleBy (.ref ea) X.env (.ExceptHandler (some (.Name x p)) (some n) [.Raise (some (.Call (.Name x p1) (a1::as) [] br)) (some (.Name n p2)) LY] pos::d8)) (SP X pins D) X.xe s:=by
 refine fV (eI (ma (X:=XS X ea) (Inv.toS a.inv ea) hg hm (dR a.toH TI.c.k1 ?_) gy)) (by intro z;cases z)
 refine codeAny_handlers_suite_as ?_;refine g9 (fs:=b9 X.stack) a.fly fun h3 Qt zZ=>?_;have a3:Inv X pins σ H { s with heap:=h3 }:=rF a.inv cp cK cu zZ (fun b hb=>by rw [dq.mp hb];exact a.oT)
 obtain⟨Mz,Mf,e3,_⟩:=Qt.obj;have I4:=lp (a:=ea) (o:=XE true ea C dx) a3 ⟨a.oe.hn,a.oe.h0,a.oe.hL,a.oe.hc,a.oe.hp,a.fe⟩ (vL ⟨Mz,Mf,e3,fun hz=>Qt.cx hz _ _ e3 rfl⟩);have hd:ea≠dx:=fun z=>by
  obtain⟨fs,hf⟩:=a.hd dx rfl;rw [<-z,a.oe.hn]at hf;cases hf
 have QN:i<σ.length:=by rw [a.inv.len];exact(ee.mp hi).1
 refine Fh (X:=XS X ea) (v:=.ref ea) (Inv.toS I4 ea) hN hi (.inl hl) rfl (fun s5 I5=>?_) (.inr hl);refine cG ?_;rw [arm_exec_Raise];refine aa (bo (ZaM (C:=C) (ea:=ea) rfl ?_));have key:wpAny (model X.prog X.w) (XS X ea).A (eval (.Call (.Name x p1) (a1::as) [] br) X.env) (fun v s1=>∃ e2 eZ t H2,v=.ref e2/\Inv (XS X ea) pins (σ.set i (some (.ref ea))) H2 s1/\s1.heap.get? e2=some (iz C (some eZ) (wg t) #[])/\New (XS X ea) pins H2 e2 /\
   H2 ea=some (XE true ea C dx)/\(∃ fs,H2 eZ=some (.xd fs))/\E (.ref C) (some eZ) H2) (fun _ _=>False) s5:=by
  refine aS (ma I5 hg hm ?_ gy);refine vU (h₀:=X.base) I5.ok.mod.kin TI.c.kp (aP (ha ea br pins s5 _ _ _ I5 (hE ea a.oe.hn hd)) fun us s1 ⟨vs,H1,I1,r,wU,v1,v2,v3,hv,q⟩=>⟨I1.kIn,?_⟩) he i9;refine Pq I1.kIn I1.nolimit TI gN hv r fun h' e eZ t tk u1 u2 u3 r1 r2 r3 b1 b2 b3 b4 b5 b6=>⟨e,eZ,t,upd H1 eZ (.xd [(f3,v3),(f2,v2),(f1,v1)]),rfl,?_⟩;have Ne:=kF I1 cu b3;have Nd:=kF I1 cu b4;have I2:Inv (XS X ea) pins _ H1 { s1 with heap:=h',toks:=tk }:=I1.kept b6
  have I3:=lp (o:=.xd [(f3,v3),(f2,v2),(f1,v1)]) I2 Nd ⟨_,b2,fun f=>PV r1 r2 r3 f⟩;refine⟨I3,b1,⟨by rw [aj b5.symm];exact Ne.hn,Ne.h0,Ne.hL,Ne.hc,Ne.hp,Ne.hf⟩,?_,⟨_,Z2j⟩,q eZ Nd.hn⟩
  rw [aj fun z=>?_]
  ·exact wU
  ·rw [z,Nd.hn]at wU;cases wU
 refine aa (ax key (fun v s1 h1=>aa (bo (af ?_))) fun _ _ z=>z.elim);obtain⟨e2,eZ,t,H2,rfl,I2,b1,Ne,wU,sG,hq⟩:=h1;refine⟨e2,some eZ,t,rfl,?_⟩;have ld:∀ {E':Value->Shared->Prop}{Q:Value->Shared->Prop},Q (.ref ea) s1->wpAny (model X.prog X.w) (XS X ea).A (eval (.Name n p2) X.env) Q E' s1:=fun{E' Q} hQ=>by
  obtain⟨m,hn,QQ⟩:=I2.loc;obtain⟨u,r,l⟩:=QQ i n (.ref ea) hi (by rw [AN QN]) (.inl hl)
  obtain rfl:u=.ref ea:=r;rcases l with⟨hk,hmm⟩ |⟨hk,c,hc,hcell⟩
  ·exact cj (aX I2.ok.kind hk hn hmm hQ) wT
  ·rcases hk with hk |hk
   ·exact cj (wpAny_loadName_cell I2.ok.kind hk hc hcell hQ) wT
   ·exact cj (wpAny_loadName_free I2.ok.kind hk hc hcell hQ hcn) wT
 have F6:e2≠ea:=fun z=>by
  rw [<-z,Ne.hn]at wU;cases wU
 obtain⟨⟨EH,qO,ea1,ea2⟩,_⟩:=(show ObjOk X.prog X.w H2 s1.heap ea (XE true ea C dx)from I2.hok ea _ wU);have cls:∃ nm q N bs fZ sn sub ab col dd k0 k1 k2 k3 k5 c8,s1.heap.get? C=some (excClassObj nm q C N bs iF fZ sn sub ab col dd k0 k1 k2 k3 k5 c8):=by
  obtain⟨nm,q,N,bs,sn,sub,ab,col,dd,k0,k1,k2,k3,k5,m,c1,_⟩:=TI.c.at I2.kIn;exact⟨nm,q,N,bs,true,sn,sub,ab,col,dd,k0,k1,k2,k3,k5,_,c1⟩
 have xQ:C≠e2:=fun z=>by
  obtain⟨nm,q,N,bs,fZ,sn,sub,ab,col,dd,k0,k1,k2,k3,k5,c8,hC⟩:=cls;rw [z,b1]at hC;cases hC
 refine aa (ld (aa (bo (af ⟨rfl,F6,cls,b1,xQ,⟨EH,qO,_,ea1,ea2 rfl⟩,fun h' q1 q2=>?_⟩))));have k6:Kp (b9 X.stack) [e2] s1.heap h':=⟨fun b o q n1 _=>(q2 b fun z=>n1 (by rw [z];exact dq.mpr rfl)).trans q,fun b o q n1=>⟨o.slots,(q2 b fun z=>n1 (by rw [z];exact dq.mpr rfl)).trans q⟩⟩
 have Oe:lw (XS X ea) pins H2 e2:=Ne.off;have I6:Inv (XS X ea) pins (σ.set i (some (.ref ea))) H2 { s1 with heap:=h' }:=rF I2 cp cK cu k6 fun b hb=>by rw [dq.mp hb];exact Oe
 have hF:(X.A.mark (some (.ref ea))).frames=some (X.env::X.outer):=by rw [<-cp];exact I6.ok.frames
 have hL6:h'.FunFrames X.base (X.env::X.outer):=by rw [<-cp];exact I6.stack
 refine N9 (z:=false) (s:={ s1 with heap:=h' }) hF hL6 cK ⟨_,_,q1,rfl,fun z=>by cases z⟩ fun h7 T7 f7 n7 k7=>?_
 have k7:Kp (b9 X.stack) [e2] h' h7:=by rw [cp];exact k7
 have I7:Inv (XS X ea) pins (σ.set i (some (.ref ea))) H2 { s1 with heap:=h7 }:=rF (s:={ s1 with heap:=h' }) I6 cp cK cu k7 fun b hb=>by rw [dq.mp hb];exact Oe
 have N7:=kF I6 cu n7;obtain⟨m7,hn7,_⟩:=I7.loc;refine wpAny_nameGoes hl hn7 (by rw [a.inv.ok.kind];rfl) fun h8 m8 n8 Rz=>?_
 have I8:Inv (XS X ea) pins (EX.blank (XS X ea)) H2 { s1 with heap:=h8,toks:=s1.toks+1 }:=Os (s:={ s1 with heap:=h7 }) I7 n8 Rz
 have f8:Fly false h8 e2 T7 C (some eZ) (rawInt X.env.locals):=f7.same Rz Ne.hL N7.hL;unfold PySem.passOn;refine aa (EB (s:={ s1 with heap:=h8,toks:=s1.toks+1 }) f8 ?_)
 rw [ac (show ¬ ((Value.ref T7==Value.none)=true) by simp)]
 refine aa (PD (fs:=b9 X.stack) (s:={ s1 with heap:=h8,toks:=s1.toks+1 }) f8 fun h9 fl9 f9 k9=>lV ?_)
 have I9:Inv (XS X ea) pins (EX.blank (XS X ea)) H2 { s1 with heap:=h9,toks:=s1.toks+1 }:=rF (s:={ s1 with heap:=h8,toks:=s1.toks+1 }) I8 cp cK cu k9 fun b hb=>by rw [dq.mp hb];exact N7.off
 have hL9:h9.FunFrames X.base (X.env::X.outer):=by rw [<-cp];exact I9.stack
 refine Ir (s:={ s1 with heap:=h9,toks:=s1.toks+1 }) hF hL9 cK f9 fun jt GK Qr z9 Ld=>?_
 have Ld:Kp (b9 X.stack) [T7,e2] h9 jt:=by rw [cp];exact Ld
 have GD:lw (XS X ea) pins H2 GK:=by
  rcases z9 with rfl |z9
  ·exact N7.off
  ·exact(kF I9 cu z9).off
 have Ao:Inv (XS X ea) pins (EX.blank (XS X ea)) H2 { s1 with heap:=jt,toks:=s1.toks+1 }:=rF (s:={ s1 with heap:=h9,toks:=s1.toks+1 }) I9 cp cK cu Ld fun b hb=>by
  rcases bv.mp hb with rfl |hb
  ·exact N7.off
  ·rw [dq.mp hb];exact Oe
 show cameBackBy _ _ _ _ _ _;unfold cameBackBy;refine aa (EB (s:={ s1 with heap:=jt,toks:=s1.toks+1 }) Qr ?_)
 rw [ac (show ¬ ((Value.ref GK==Value.none)=true) by simp)]
 refine PD (fs:=b9 X.stack) (s:={ s1 with heap:=jt,toks:=s1.toks+1 }) Qr fun lM JO f11 k11=>?_
 have Ap:Inv (XS X ea) pins (EX.blank (XS X ea)) H2 { s1 with heap:=lM,toks:=s1.toks+1 }:=rF (s:={ s1 with heap:=jt,toks:=s1.toks+1 }) Ao cp cK cu k11 fun b hb=>by rw [dq.mp hb];exact GD
 exact hx pins _ H2 _ e2 GK C (some eZ) JO (Inv.ofS a.inv.ok Ap) f11 ⟨Ne.hn,Ne.h0⟩ ⟨GD.hn,GD.h0⟩ (fun eN z=>by cases z;exact sG) hq
def Ez(sp:Sp)(W:dH->L2.St->XK)(t:TA):TS:=fun D σ H=>t σ H fun vs H1=>sp vs H1 D.rt (W D σ)
theorem tM{z:Bool}{k:Nat}{f:Addr}{fd:FuncData}{ps:List Str}{sp:Sp}{y:Str}{q1 q2 q3 dN:Pos}{e:Expr}{es:List Expr}{t:TA}{h0:ExceptHandler}{hs:List ExceptHandler}{W:dH->L2.St->XK}
  (F:am X.prog X.w X.K X.mg X.base (CXQ z X.prog X.w) k f fd ps sp)(hr:Room k X.A)(hg:Gl X y)(hm:X.mg y=some (.ref f))(hk:PySem.W.keepIn X.K (.ref f)=true)(hb:Binds X.K fd ps [])
  (cp:X.stack=X.env::X.outer)(cK:X.env.frame=some X.env.locals)(cu:X.ex=[])(ha:∀ (pins:List (Addr×Obj))(E1:Value->Shared->Prop),PA (XB X pins E1) (e::es) t)
  (hh:∀ (pins:List (Addr×Obj))(D:dH)(σ:L2.St)(H:Hp)(s:Shared)(ea T C:Addr)(d:Option Addr),AtS z X pins σ H s ea T C d->W D σ (.ref C) d H->wpAny (model X.prog X.w) X.A (handleBy (.ref ea) X.env (h0::hs)) (SP X pins D) X.xe s)
  (gy:(y==("__debug__" : Str))=false:=by decide)(he:autoParam (starEach (e::es) X.env=(false,eval e X.env)::starEach es X.env) aR._auto_1)(i9:autoParam ((backTo q2 (starEach es X.env)).any (·.1)=false) aR._auto_1) :
  PS X (.Try [.Return (some (.Call (.Name y q1) (e::es) [] q2)) q3] (h0::hs) [] [] dN) (Ez sp W t):=by
 intro pins s σ H D I h;have hok:=I.ok;refine wpAny_Try_except (cG (wpAny_Return_some ?_));generalize xp:(fun e s1=>wpAny (model X.prog X.w) X.A (noteFrame e X.env) (fun _ s2=>wpAny (model X.prog X.w) X.A (setFlight e none) (fun _ s3=>wpAny (model X.prog X.w) X.A (handleBy e X.env (h0::hs)) (SP X pins D) X.xe s3) X.xe s2) X.xe s1)=xe;have I':=Inv.toB I xe;refine aS (ma (X:=XB X pins xe) I' hg hm ?_ gy);refine vU (h₀:=X.base) I'.ok.mod.kin hk (aP (ha pins xe q2 [] s σ H _ I' h) fun us s1 hq=>?_) he i9;obtain⟨vs,H1,I1,r,q⟩:=hq;refine⟨I1.kIn,?_⟩;have hl:us.length=ps.length:=by rw [<-r.length];exact F.len _ _ _ _ q
 have j8:=hb s1 us I1.kIn (by rw [jY];exact hl)
 rw [jY]at j8;have J1:Inv X pins σ H1 s1:=Inv.ofB hok I1;refine jI (dz (F.run X.A X.stack s1 H1 ⟨us,[]⟩ us vs D.rt (W D σ) hr J1.env0 j8 r q) fun r s' hq=>?_);cases r with
 |error e =>
  obtain⟨ea,T,C',d,H2,rfl,h1,h2,h3,h4,h5,h6,h7,h8,h9,jt,lM⟩:=hq;show xe _ _;rw [<-xp];have J2:Inv X pins σ H2 s':=J1.call' (ch:=[]) h1 h3 h4 h2 (fun b z=>absurd z (by simp))
  have Ne:=kF J1 cu h8;have NT:=kF J1 cu h9;have hF:X.A.frames=some (X.env::X.outer):=by rw [<-cp];exact J2.ok.frames
  have hL:s'.heap.FunFrames X.base (X.env::X.outer):=by rw [<-cp];exact J2.stack
  refine IH hF hL cK h5 fun g1 T1 f1 nT k1=>?_;rw [<-cp]at k1;refine g9 (fs:=b9 X.stack) (s:={ s' with heap:=g1 }) f1 fun g2 f2 k2=>?_
  have oe:lw X pins H2 ea:=⟨h6,Ne.h0,Ne.hL,Ne.hc,Ne.hp⟩;have Dj:lw X pins H2 T1:=(kF J2 cu nT).off;have J3:Inv X pins σ H2 { s' with heap:=g2 }:=rF J2 cp cK cu (k1.trans k2) fun b hb=>by
   rcases dy.mp hb with hb |hb
   ·rcases bv.mp hb with rfl |hb
    ·exact⟨h7,NT.h0,NT.hL,NT.hc,NT.hp⟩
    ·rw [dq.mp hb];exact oe
   ·rw [dq.mp hb];exact Dj
  exact hh pins D σ H2 _ ea T1 C' d ⟨J3,f2,oe,Dj,Ne.hf,jt⟩ lM
 |ok fl =>
  cases fl with
  |ret u =>
   obtain⟨v,H2,J2,rv,q2⟩:=J1.after hq;exact⟨v,σ,H2,J2,rv,q2⟩
  |next=>exact False.elim hq
  |brk=>exact False.elim hq
  |cont=>exact False.elim hq
end
end EX
end
section
namespace L2
open PySem PySem.Spec PyProof.Rows EX
section
variable{X:Cx}
theorem oA{pins:List (Addr×Obj)}{s:Shared}{σ:St}{H:Hp}{Q:VK}{fb tg iter:Expr}{ff:List Expr}{scope:Scope}{own:List (Str×Nat)}{pos eW:Pos}{wi:TI}{g:TG}{tt:TT}{te:TE}{use:Option (Value->Sem Unit)}{Qf:Value->Shared->Prop}
  {z:Bool}{E:XK}(cp:X.stack=X.env::X.outer)(cK:X.env.frame=some X.env.locals)(cu:X.ex=[])
  (xp:∀ e s',wpAny (model X.prog X.w) X.A (leaving X.env e) (fun _ iu=>CXQ z X.prog X.w X.outer X.H_0 X.s_0 E e iu) (fun e' iu=>CXQ z X.prog X.w X.outer X.H_0 X.s_0 E e' iu) s'->X.xe e s')
  (hc:X.calm=true)(hN:X.N.Nodup)(I:Inv X pins σ H s)(hi:PI X tg iter wi)(ok:cX X.N X.env.scope scope own)
  (hg:∀ (s:Shared)(H:Hp)(C:Addr)(cl:List (Str×Addr))(fp:List Addr)(xe:Value->Shared->Prop),PG (X.blk s H scope (compEnvC scope cl C X.env) fp |>.wish xe) tg g)(ht:∀ (s:Shared)(H:Hp)(C:Addr)(cl:List (Str×Addr))(fp:List Addr)(xe:Value->Shared->Prop),y9 (X.blk s H scope (compEnvC scope cl C X.env) fp |>.wish xe) ff tt)
  (he:∀ (s:Shared)(H:Hp)(C:Addr)(cl:List (Str×Addr))(fp:List Addr)(xe:Value->Shared->Prop),jm (CXQ z X.prog X.w) (X.blk s H scope (compEnvC scope cl C X.env) fp |>.wish xe) E->PE (X.blk s H scope (compEnvC scope cl C X.env) fp |>.wish xe) fb te)(hs:∀ x,foldedSetIterable iter X.env x=pure x)
  (h:yO wi g tt te (own.map (·.2)) σ H Q)
  (J4:∀ D C s' m H',Inv X pins σ H' s'->Q (.ref D) H'->s'.heap.Ns C m->eJ X pins H' C->compPost (model X.prog X.w) X.A X.xe use Qf (.ref D) C (.ok .next) s') :
  wpAny (model X.prog X.w) X.A (comprehension (.ListComp fb [⟨tg,iter,ff,0⟩] scope pos) scope X.env eW (newList []) false (eval iter X.env) use) Qf X.xe s:=by
 have eD:∀ y∈scope.names,y.2=.free->∃ c,X.env.cells.lookup y.1=some c:=fun y hy e=>by
  rcases ok.free y hy e with k |k
  ·exact I.ok.has _ (.inl k)
  ·exact I.ok.has _ (.inr k)
 refine wpAny_comprehension_free (use:=use) rfl hs (HU eD) ok.kind (fun y hy e=>by rw [ok.uniq y hy,e])
  (aP (hi pins s σ H _ I h) fun xv s1 hx=>aP hx fun F1 s2 h2=>?_)
 obtain⟨it,fp,tn,J,H2,e,I2,T,ub,f2,q⟩:=h2;subst e;refine aA (NH ?_) (by show 0<=sizeLine;decide)
 generalize hD:s2.heap.objs.size=D;have JW:H2 D=none:=I2.hok.fresh (vT hD);obtain⟨W,⟨m0,w0⟩,turn⟩:=q D JW;generalize hs3:({ s2 with heap:=s2.heap.push { cls:=.type "list",data:=.seq ([]:List Value).toArray } }:Shared)=s3
 have I3:Inv X pins σ (upd H2 D (.lst [])) s3:=by
  rw [<-hs3];refine I2.laid (t':=s2.toks) (fun b o e=>dD _ e) (vT hD) ⟨fj _,[],0,.nil,?_⟩;rw [<-hD];exact fi _ rfl
 have h3:s3.heap=s2.heap.push { cls:=.type "list",data:=.seq ([]:List Value).toArray }:=by rw [<-hs3]
 have sz:∀ b∈fp,b<s2.heap.objs.size:=fun b hb=>by
  obtain⟨o,e,_⟩:=T.obj _ _ ub b hb;exact cy e
 have f3:∀ b∈fp,eJ X pins (upd H2 D (.lst [])) b/\b<s3.heap.objs.size:=fun b hb=>by
  have cc:=sz b hb;refine⟨⟨?_,(f2 b hb).2⟩,by rw [h3,kq];exact zd cc⟩
  rw [aj (by rw [<-hD];exact eF cc)]
  exact(f2 b hb).1
 have Ai:tn 0 s3.heap:=T.keep _ _ _ ub fun b _ o e=>by rw [h3];exact dD _ e
 have I4:=NJ I3 ok hN f3;have pg:=hg s3 (upd H2 D (.lst [])) s3.heap.objs.size (cellsFrom (s3.heap.objs.size+1) scope.names (eY X.env.cells scope.names [])) fp;have pt:=ht s3 (upd H2 D (.lst [])) s3.heap.objs.size (cellsFrom (s3.heap.objs.size+1) scope.names (eY X.env.cells scope.names [])) fp;have pe:=he s3 (upd H2 D (.lst [])) s3.heap.objs.size (cellsFrom (s3.heap.objs.size+1) scope.names (eY X.env.cells scope.names [])) fp;show codeAny _ _ (.compStart (.ListComp fb [⟨tg,iter,ff,0⟩] scope pos) 0 (.ref it) (.ref D) (compEnvC scope (cellsFrom (s3.heap.objs.size+1) scope.names (eY X.env.cells scope.names [])) s3.heap.objs.size X.env)) (compPost (model X.prog X.w) X.A X.xe use Qf (.ref D) s3.heap.objs.size) { s3 with heap:=pushCells (s3.heap.push { cls:=.type "dict",data:=.dict #[] }) scope.names }
 have De:∀ b∈fp,(upd H2 D (.lst [])) b=none:=fun b hb=>(f3 b hb).1.1;generalize zN:compEnvC scope (cellsFrom (s3.heap.objs.size+1) scope.names (eY X.env.cells scope.names [])) s3.heap.objs.size X.env=ce at I4 pg pt pe ⊢;have cL:ce.locals=s3.heap.objs.size:=by subst zN;rfl
 generalize lN:upd H2 D (.lst [])=H3 at I3 I4 pg pt pe w0 De f3;generalize KQ:({ s3 with heap:=pushCells (s3.heap.push { cls:=.type "dict",data:=.dict #[] }) scope.names }:Shared)=s4 at I4 ⊢
 have Ee:tn 0 s4.heap:=T.keep _ _ _ Ai fun b _ o e=>by rw [<-KQ];exact fu _ _ _ _ (dD _ e)
 generalize Q6:(notedBy (model X.prog X.w) X.A ce fun e s'=>compPost (model X.prog X.w) X.A X.xe use Qf (.ref D) s3.heap.objs.size (.error e) s')=xB;have om:jm (CXQ z X.prog X.w) ((X.blk s3 H3 scope ce fp).wish xB) E:=by
  rw [<-Q6];exact rO I3 cp cK cu xp f3 (by subst zN;rfl) cL
 have ic:∀ {σ':St}{H':Hp}{s':Shared},Inv (X.blk s3 H3 scope ce fp) [] σ' H' s'->(∀ b∈fp,H' b=none)->∀ b∈fp,eJ (X.blk s3 H3 scope ce fp) [] H' b:=fun{σ' H' s'} I' hn b hb =>
  ⟨hn b hb,(I'.ok.exf b hb).1,I'.ok.exfs b hb,.inl hb,fun x c e=>(I'.ok.exf b hb).2 x c e,fun p hp=>absurd (show p∈([]:List (Addr×Obj))++[]from hp) (by simp)⟩
 have oE:codeAny (model X.prog X.w) X.A (.compLoop (.ListComp fb [⟨tg,iter,ff,0⟩] scope pos) 0 (.ref it) (.ref D) ce) (compPost (model X.prog X.w) X.A X.xe use Qf (.ref D) s3.heap.objs.size) s4:=by
  refine NQ (fun n s'=>∃ i H',Inv (X.blk s3 H3 scope ce fp) [] (bV σ (own.map (·.2))) H' s'/\tn i s'.heap/\(∀ b∈fp,H' b=none)/\W i n H') ?_ m0 ⟨0,H3,I4,Ee,De,w0⟩;rintro n s5 ⟨i,H5,I5,uc,n5,w5⟩;rcases turn i n H5 w5 with⟨stop,qq⟩ |⟨go,Nx,hNx,step⟩
  ·have td:=T.done (X.blk s3 H3 scope ce fp) rfl rfl rfl hc i [] s5 _ H5 (fun _ _=>False) I5 (ic I5 n5) uc stop;refine jg td fun r s6 ⟨hr,I6⟩=>?_;subst hr;have I7:Inv X pins σ H5 s6:=I3.call' (ch:=fp) I6.os I6.base I6.hok I6.bare fun b hb=>⟨(f3 b hb).1.2.2.2.1,(f3 b hb).1.2.1,(f3 b hb).1.2.2.2.2.1,(f3 b hb).1.2.2.2.2.2⟩;have nC:H5 s3.heap.objs.size=none:=by
    have z:H5 ce.locals=none:=I6.free;rw [cL]at z;exact z
   obtain⟨m,hn,_⟩:=I6.loc;have hn:s6.heap.Ns ce.locals m:=hn;rw [cL]at hn;exact J4 D s3.heap.objs.size s6 m H5 I7 qq hn (I3.fpOk (bK _) nC)
  ·have ti:=T.item (X.blk s3 H3 scope ce fp) rfl rfl rfl hc i [] s5 _ H5 (fun _ _=>False) I5 (ic I5 n5) uc go;refine jg ti fun r s6 ⟨u,hr,h6⟩=>?_;subst hr;refine jg h6 fun _ s7 zz=>?_;obtain⟨x,H7,I7,r7,y7,yI,n7⟩:=zz;have Gu:=I7.pinned (ic I7 n7) (T.obj _ _ yI);rw [Q6];refine ax (pg xB _ s7 _ H7 x u _ (Gu.wish xB) r7 (step x H7 y7)) (fun _ s8 ⟨σ8,H8,I8,CG,q8⟩=>?_) fun _ _ z=>z;refine ax (pt xB _ s8 σ8 H8 _ I8 q8) (fun b s9 ⟨H9,I9,q9⟩=>?_) fun _ _ z=>z;have fin:∀ {s':Shared}{H':Hp},Inv (X.blk s3 H3 scope ce fp) ([]++zx fp s7.heap) σ8 H' s'->Nx H'->∃ m,m<n/\∃ i H',Inv (X.blk s3 H3 scope ce fp) [] (bV σ (own.map (·.2))) H' s'/\tn i s'.heap/\(∀ b∈fp,H' b=none)/\W i m H':=fun{s' H'} I' nx=>by
    obtain⟨m',hm,w'⟩:=hNx H' nx;have pw:∀ b∈fp,∀ o,s7.heap.get? b=some o->s'.heap.get? b=some o/\H' b=none:=fun b hb o e =>
     let z:=I'.pin (b,o) (ko _ (ko _ (Ff hb e)))
     ⟨z.1,z.2.1⟩
    have hl:(bV σ (own.map (·.2))).length=σ8.length:=by rw [<-CG,Fd]
    refine⟨m',hm,i+1,H',(I'.unpinned (pins:=[])).weak hl (fun j v e=>?_),T.keep _ _ _ yI fun b hb o e=>(pw b hb o e).1,fun b hb=>?_,w'⟩
    ·rw [<-CG]at e;exact(Fq e).1
    ·obtain⟨o,e,_⟩:=T.obj _ _ yI b hb;exact(pw b hb o e).2
   cases b with
   |false =>
    simp only [AB,bu]at q9 ⊢;exact fin I9.unwish q9
   |true =>
    simp only [cr]at q9 ⊢;refine ax (pe xB om _ s9 σ8 H9 _ I9 q9) (fun z s10 zz=>?_) fun _ _ z=>z;obtain⟨yv,H10,Ao,LL,acc,wL,xq,nx⟩:=zz;exact mX (X:=X.blk s3 H3 scope ce fp) Ao.unwish wL xq LL fun s11 Ap=>fin Ap nx
 exact codeAny_compStart_list oE (T.self X.A 0 _ _ _ Ee oE)
theorem II{i:Nat}{y:Str}{py:Pos}{fb tg iter:Expr}{ff:List Expr}{scope:Scope}{own:List (Str×Nat)}{pos qi:Pos}{wi:TI}{g:TG}{tt:TT}{te:TE}{z:Bool}{E:XK}(cp:X.stack=X.env::X.outer)(cK:X.env.frame=some X.env.locals)(cu:X.ex=[])
  (xp:∀ e s',wpAny (model X.prog X.w) X.A (leaving X.env e) (fun _ iu=>CXQ z X.prog X.w X.outer X.H_0 X.s_0 E e iu) (fun e' iu=>CXQ z X.prog X.w X.outer X.H_0 X.s_0 E e' iu) s'->X.xe e s')
  (hc:X.calm=true)(hN:X.N.Nodup)(hy:X.N[i]?=some y)(CJ:X.env.scope.names.lookup y=some .local)
  (u9:swapsWith (.ListComp fb [⟨tg,iter,ff,0⟩] scope pos) (some (.Name y py)) qi.line X.env=pure true)(hi:PI X tg iter wi)(ok:cX X.N X.env.scope scope own)
  (hg:∀ (s:Shared)(H:Hp)(C:Addr)(cl:List (Str×Addr))(fp:List Addr)(xe:Value->Shared->Prop),PG (X.blk s H scope (compEnvC scope cl C X.env) fp |>.wish xe) tg g)(ht:∀ (s:Shared)(H:Hp)(C:Addr)(cl:List (Str×Addr))(fp:List Addr)(xe:Value->Shared->Prop),y9 (X.blk s H scope (compEnvC scope cl C X.env) fp |>.wish xe) ff tt)
  (he:∀ (s:Shared)(H:Hp)(C:Addr)(cl:List (Str×Addr))(fp:List Addr)(xe:Value->Shared->Prop),jm (CXQ z X.prog X.w) (X.blk s H scope (compEnvC scope cl C X.env) fp |>.wish xe) E->PE (X.blk s H scope (compEnvC scope cl C X.env) fp |>.wish xe) fb te)(hs:autoParam (∀ x,foldedSetIterable iter X.env x=pure x) aI._auto_1) :
  PS X (.Assign [.Name y py] (.ListComp fb [⟨tg,iter,ff,0⟩] scope pos) qi) (ug (yO wi g tt te (own.map (·.2))) (iH i)):=by
 intro pins s σ H D I h;rw [exec_Assign_Name_used _ _ _ _ u9];refine aa (bo (aa ?_));show wpAny _ X.A (do let _ <-comprehension (.ListComp fb [⟨tg,iter,ff,0⟩] scope pos) scope X.env (firstIterPos [⟨tg,iter,ff,0⟩] pos) (newList []) false (eval iter X.env) (some (assign (.Name y py) X.env))) _ _ s
 have h:yO wi g tt te (own.map (·.2)) σ H (fun x H1=>iH i x σ H1 D.nx):=h;refine aa (aP (oA (Qf:=fun _ s'=>SP X pins D .next s') cp cK cu xp hc hN I hi ok hg ht he hs h fun L C s' m H' I' q hn f=>?_) fun _ s' hq=>af (af hq));show wpAny _ _ (assign (.Name y py) X.env (.ref L)) _ _ _;refine yV (Iq (v:=V.ref L) I' hN hy (.inl CJ) rfl (fun s2 I2 ⟨a,sb,ha⟩=>?_) (.inr CJ));obtain⟨f0,f1,f2,f3,f4,f5⟩:=f;have J6:C≠a:=by
  rcases ha with z |z
  ·rw [z];exact f1
  ·exact fun e=>f4 y a z e.symm
 refine⟨m,hn.sameBut sb J6,fun h3 L6=>?_⟩;exact⟨_,H',I2.turned (t':=s2.toks) (fun b o hb e=>(L6.2 b hb).trans e) f0 f1 f3 f4 f5,q⟩
end
end L2
end
section
namespace LM
open PySem PySem.Spec PyProof.Rows L2 EX
structure uA(base:Heap)(f:Addr)(fd:FuncData)(qual:Str)(params:Arguments)(body:Expr)(scope:Scope)(cl:List (Str×Addr))(cd:Value)(N:List Str)(vs:List V):Prop where
 ex:∃ (oc:Value)(od:Option Addr)(sl:Array (Option Value))(pm rT:Value),fd=PySem.W.kla_fn "<lambda>" qual params body scope cl pm cd rT/\base.get? f=some ⟨oc,od,.func fd,sl⟩
 rec_:base.CodeRec cd qual
 inj:∀ x y c,cl.lookup x=some c->cl.lookup y=some c->x=y
 has:∀ x,scope.names.lookup x=some .free->∃ c,cl.lookup x=some c
 cell:∀ x c,cl.lookup x=some c->∃ v,base.IsCell c v
 at_:∀ (i:Nat) x v,N[i]?=some x->vs[i]?=some v->∃ c u,cl.lookup x=some c/\base.IsCell c (some u)/\RelV v u
 len:vs.length=N.length
structure FC(N:List Str)(scope:Scope):Prop where
 kind:scope.kind=.function
 co:scope.isCoroutine=false
 gen:scope.isGenerator=false
 names:∀ x∈scope.names,x.2=.free\/x.2=.globalImplicit
 free:∀ x∈N,scope.names.lookup x=some .free
def zH(z:Bool)(P:Program)(w:World)(K:aq)(mg:Str->Option Value)(base:Heap)(N:List Str)(qual:Str)(scope:Scope)(f:Addr)(cd:Value)(cl:List (Str×Addr))(A:Around)(outer:List Env)(s:Shared)(H:Hp)(E:XK):Cx where
 prog:=P
 w:=w
 K:=K
 mg:=mg
 base:=base
 A:=A.deeper (PySem.W.envX qual scope s.heap.objs.size f cd cl)
 N:=N
 s_0:=s
 H_0:=H
 env:=PySem.W.envX qual scope s.heap.objs.size f cd cl
 outer:=outer
 stack:=PySem.W.envX qual scope s.heap.objs.size f cd cl::outer
 ex:=[]
 calm:=true
 fn:=fun _=>false
 pn:=[]
 xe:=fun e s'=>wpAny (model P w) (A.deeper (PySem.W.envX qual scope s.heap.objs.size f cd cl)) (leaving (PySem.W.envX qual scope s.heap.objs.size f cd cl) e) (fun _ iu=>CXQ z P w outer H s E e iu) (fun e' iu=>CXQ z P w outer H s E e' iu) s'
section
variable{P:Program}{w:World}{K:aq}{mg:Str->Option Value}{base:Heap}{N:List Str}{qual:Str}{scope:Scope}{f:Addr}{cd:Value}{cl:List (Str×Addr)}{A:Around}{outer:List Env}{s:Shared}{H:Hp}{E:XK}{z:Bool}
 {fd:FuncData}{params:Arguments}{body:Expr}{vs:List V}
theorem sV{h1:Heap}{t:Nat}(S:FC N scope)(hd:A.handled=none)(e0:Env0 P w K mg base A outer s H)(L:uA base f fd qual params body scope cl cd N vs)(hn:h1.Ns s.heap.objs.size fun _=>none)
  (hk:∀ b o,s.heap.get? b=some o->h1.get? b=some o):Inv (zH z P w K mg base N qual scope f cd cl A outer s H E) [] (vs.map some) H { s with heap:=h1,toks:=t }:=by
 have lT:∀ b:Addr,b∉(zH z P w K mg base N qual scope f cd cl A outer s H E).ex:=fun b z=>absurd (show b∈([]:List Addr)from z) (by simp)
 have cb:∀ {c:Addr}{v:Option Value},base.IsCell c v->s.heap.IsCell c v/\H c=none:=fun{c v} ⟨o,e1,e2⟩=>⟨⟨o,(e0.bs c o e1).1,e2⟩,(e0.bs c o e1).2⟩;have ck:∀ {c:Addr}{v:Option Value},base.IsCell c v->h1.IsCell c v:=fun{c v} z=>let ⟨⟨o,e1,e2⟩,_⟩:=cb z;⟨o,hk c o e1,e2⟩;refine⟨⟨e0.mod,S.kind,rfl,rfl,bK _,L.inj,fun y hy=>?_,(fun y c z _=>absurd (show false=true from z) (by decide)),fun _=>hd,Around.frames_deeper e0.frames,.inr ⟨rfl,rfl⟩,fun b z=>absurd z (lT b),e0.bs,e0.bsz,fun b _ _=>lT b,fun b z=>absurd z (lT b),e0.funs,e0.frf⟩,
  rfl,e0.bare,Un.kept hk,⟨_,hn,fun i y v h1 h2 h3=>?_⟩,fun y c h=>?_,e0.hok.fresh (bK _),fun y c h=>?_,fun p hp=>absurd (show p∈([]:List (Addr×Obj))from hp) (by simp),e0.hok.kept hk,?_⟩
 ·have hy:scope.names.lookup y=some .cell\/scope.names.lookup y=some .free:=hy;rcases hy with hy |hy
  ·rcases S.names _ (PySem.mem_of_lookup hy)with z |z<;>cases z
  ·exact L.has y hy
 ·rw [dP]at h2;cases e:vs[i]? with
  |none=>rw [e]at h2;cases h2
  |some a =>
   rw [e]at h2;cases h2;obtain⟨c,u,q1,q2,q3⟩:=L.at_ i y _ h1 e;exact⟨u,q3,.inr ⟨.inr (S.free y (gK h1)),c,q1,ck q2⟩⟩
 ·obtain⟨v,z⟩:=L.cell y c h;exact⟨v,ck z⟩
 ·obtain⟨v,z⟩:=L.cell y c h;exact(cb z).2
 ·rw [aT];exact L.len
theorem ZaY:jm (CXQ z P w) (zH z P w K mg base N qual scope f cd cl A outer s H E) E:=by
 intro pins σ H' s1 e s' I h;obtain⟨ea,T,C,dx,H2,rfl,h1,h2,h3,h4,h5,h6,h7,h8,h9,jt,lM⟩:=h;have I':Inv (zH z P w K mg base N qual scope f cd cl A outer s H E) pins σ H2 s':=I.call' (ch:=[]) h1 h3 h4 h2 (fun b z=>absurd z (by simp))
 exact HY I' rfl rfl rfl ⟨⟨h6,(gA I rfl h8).2⟩,.inr ⟨T,h5,h7,(gA I rfl h9).2⟩⟩ jt lM
theorem okL{k:Nat}{sp:Sp}(L:uA base f fd qual params body scope cl cd N vs)(S:FC N scope)(len:∀ vs H Q E,sp vs H Q E->vs.length=0)
  (gX:∀ (A:Around)(outer:List Env)(s:Shared)(H:Hp)(Q:VK)(E:XK),Room k (A.deeper (PySem.W.envX qual scope s.heap.objs.size f cd cl))->sp [] H Q E ->
    ∃ t,PE (zH z P w K mg base N qual scope f cd cl A outer s H E) body t/\t (vs.map some) H Q):am P w K mg base (CXQ z P w) (k+1) f fd [] sp:=by
 obtain⟨oc,od,sl,pm,rT,rfl,ho⟩:=L.ex;refine⟨len,fun A outer s H args us EG Q E hr e0 hb r kb=>?_⟩;have hl:=len _ _ _ _ kb;obtain rfl:EG=[]:=E7 hl;have xM:s.heap.NoLimit:=e0.mod.nolimit.keeps fun b o e=>(e0.bs b o e).1;have rc:s.heap.CodeRec cd qual:=by
  obtain⟨c,o,vs,t,e1,e2,r⟩:=L.rec_;exact⟨c,o,vs,t,e1,(e0.bs _ _ e2).1,r⟩
 refine PySem.W.kla_callFunE hr.depth (e0.bs _ _ ho).1 rfl S.co S.gen rfl rc (hb _ _ _ _ ?_);refine wpAny_newFunctionEnv (fun x hx=>by rcases S.names x hx with z |z<;>rw [z]<;>intro q<;>cases q) (fun x hx=>absurd (show x∈(([]:List Str).zip us)from hx) (by simp)) (fun h1 hn hs=>⟨xM.fresh _ hs,?_⟩) S.kind
 have hk:∀ b o,s.heap.get? b=some o->h1.get? b=some o:=fun b o e=>hs.extBut b o (eF (cy e)) (dD _ e);obtain⟨t,ht,hq⟩:=gX A outer s H Q E (hr.deeper _) kb;have I:Inv (zH z P w K mg base N qual scope f cd cl A outer s H E) [] (vs.map some) H { s with heap:=h1,toks:=s.toks+(([]:List Str).zip us).length }:=sV S hr.hd e0 L hn hk
 refine PySem.W.kla_codeExpr (ax (ht [] _ _ H _ I hq) (fun v s' hs=>?_) fun e s' hs=>hs);obtain⟨v',H',J,rv,q⟩:=hs;exact⟨v',H',J.os,J.bare,J.base,J.hok,rv,q⟩
end
section
variable{X:Cx}{CX:jV}{k:Nat}{f:Addr}{fd:FuncData}{sp:Sp}{E:XK}
def Ex(i:Nat)(f:Addr)(sp:Sp)(E:XK):TE:=fun σ H Q=>σ[i]?=some (some (.ref f))/\sp [] H Q E
theorem tL{i:Nat}{x:Str}{p pos:Pos}(F:am X.prog X.w X.K X.mg X.base CX k f fd [] sp)(hr:Room k X.A)(hf:PySem.W.FnAt f X.base)(hb:Binds X.K fd [] [])(hx:jm CX X E)(hi:autoParam (X.N[i]?=some x) aR._auto_1)
  (hv:autoParam (za X.env.scope x) aV._auto_1)(hd:(x==("__debug__" : Str))=false:=by decide)(jh:(x==("__classdict__" : Str))=false:=by decide) :
  PE X (.Call (.Name x p) [] [] pos) (Ex i f sp E):=by
 intro pins s σ H Q I h;refine aS (aP (pc hi hv hd jh pins s σ H (fun v H'=>v=.ref f/\sp [] H' Q E) I ⟨_,h.1,rfl,h.2⟩) fun u s1 ⟨v,H1,I1,rv,ev,q⟩=>?_);subst ev;obtain rfl:u=Value.ref f:=rv;obtain⟨oc,od,fd',sl,e⟩:=hf;exact PySem.W.callWith_F0 ⟨oc,od,fd',sl,I1.bk _ _ e⟩ (FJ (us:=[]) F hr hb .nil hx I1 .nil q)
end
theorem OT{h base uT:Heap}:∀ {l:List Env},h.FunFrames base l->(∀ b∈b9 l,uT.get? b=none)->h.FunFrames uT l
 |[],_,_=>trivial
 |env::r,⟨hk,⟨L,o,hf,hn,ho,hd⟩,hr⟩,hb=>by
  refine⟨hk,⟨L,o,hf,hb L ?_,ho,hd⟩,OT hr fun b m=>hb b ?_⟩
  ·unfold b9;rw [zc,hf];exact cY
  ·unfold b9;rw [zc,hf];exact dj _ m
noncomputable def lQ(fs:List Addr)(H:Hp):Hp:=fun b=>if b∈fs then some (.lst [])else H b
theorem O3{fs:List Addr}{H:Hp}{b:Addr}(h:lQ fs H b=none):b∉fs/\H b=none:=by
 unfold lQ at h;split at h
 ·cases h
 ·exact⟨by assumption,h⟩
theorem xr{fs:List Addr}{H:Hp}{b:Addr}(h1:b∉fs)(h2:H b=none):lQ fs H b=none:=by
 unfold lQ;rw [ac h1];exact h2
section
variable{X:Cx}{CX:jV}{k:Nat}{fA c PT:Addr}{gw:FuncData}{E:XK}{params:Arguments}{body:Expr}{scope:Scope}{gf p pos:Pos}{x:Str}{M:List Str}
def Mi(X:Cx)(PT:Addr)(gf:Pos)(ix:List Nat)(spA:Addr->List V->Sp)(E:XK):TE:=fun σ H Q=>∃ ps vs,H PT=some (.tbl ps)/\codeAmong gf ps.toList=none/\TriplesOk ps.toList /\
 vs.length=ix.length/\(∀ (j i:Nat)(v:V),ix[j]?=some i->vs[j]?=some v->σ[i]?=some (some v))/\∀ f cZ,H f=none->spA f vs [.ref f] (upd H PT (.tbl (ps++cZ))) Q E
theorem yi{ix:List Nat}{spA:Addr->List V->Sp}(hC:PySem.W.CodeHd X.base c PT)(hB:X.base.BuiltinsAt X.mg PT)(B3:X.env.code=.ref c)(cp:X.stack=X.env::X.outer)(cK:X.env.frame=some X.env.locals)(cu:X.ex=[])
  (Ca:∀ x,X.fn x=true)(Kg:defaultsOf params X.env=([],[]))(S:FC M scope)(B1:∀ y∈scope.names,y.2=.free->X.env.scope.names.lookup y.1=some .cell)
  (Ks:∀ (j:Nat)(y:Str),M[j]?=some y->∃ i,ix[j]?=some i/\X.N[i]?=some y)(hlx:ix.length=M.length)(huq:∀ y∈scope.names,scope.names.lookup y.1=some y.2)
  (hg:Gl X x)(hm:X.mg x=some (.ref fA))(hk:PySem.W.keepIn X.K (.ref fA)=true)(hb:Binds X.K gw ["tell"] [])(hr:Room k X.A)(hx:jm CX X E)
  (F:∀ (base:Heap)(f:Addr)(fd:FuncData)(cl:List (Str×Addr))(cd:Value)(vs:List V),X.K.In base->base.Ns mainGlobals X.mg->uA base f fd (X.env.qual++"<lambda>") params body scope cl cd M vs ->
    am X.prog X.w X.K X.mg base CX k fA gw ["tell"] (spA f vs))
  (gy:(x==("__debug__" : Str))=false:=by decide)(he:autoParam (starEach [.Lambda params body scope gf] X.env=(false,eval (.Lambda params body scope gf) X.env)::starEach [] X.env) aR._auto_1) :
  PE X (.Call (.Name x p) [.Lambda params body scope gf] [] pos) (Mi X PT gf ix spA E):=by
 intro pins s σ H Q I h;obtain⟨ps,vs,hT,KG,hto,K2,K3,kb⟩:=h;refine aS (ma I hg hm ?_ gy);have eD:∀ y∈scope.names,y.2=.free->∃ c,X.env.cells.lookup y.1=some c:=fun y hy e=>I.ok.has _ (.inl (B1 y hy e));have hP:s.heap.get? PT=some (PySem.W.tabObj ps):=I.hok PT _ hT;have nbP:∀ b o,X.base.get? b=some o->b≠PT:=fun b o e z=>by
  have:=(I.bs b o e).2;rw [z,hT]at this;cases this
 have hgs:s.heap.Ns mainGlobals X.mg:=I.ok.mod.glob.keeps I.bk;have hgP:mainGlobals≠PT:=by
  obtain⟨o,es,ep,e,_⟩:=I.ok.mod.glob;exact nbP _ o e
 have hBs:s.heap.BuiltinsAt X.mg PT:=by
  obtain⟨bm,ob,a1,a2,a3,a4,a5,a6⟩:=hB;exact⟨bm,ob,a1,a2,a3,a4,I.bk _ _ a5,a6⟩
 refine vU (h₀:=X.base) (Q:=EP X pins σ Q) I.ok.mod.kin hk ?_ he rfl;rw [he];show wpAny _ _ (spliced ((false,eval (.Lambda params body scope gf) X.env)::backTo pos (starEach [] X.env))) _ _ s;refine Calls.spliced_cons (PySem.W.kla_eval Kg (PySem.W.kla_makeFunction (HU eD) I.ok.glob hgs B3 (hC.keeps I.bk) hP hto KG hgP hBs fun c' rT h' tk hx1 u0 cc KP htb=>?_));refine Calls.spliced_nil ?_;generalize QM:PySem.W.kla_obj "<lambda>" (X.env.qual++"<lambda>") params body scope (eY X.env.cells scope.names []) ((X.mg "__name__").getD .none) c' rT=fo;have kp:∀ b o,b≠PT->s.heap.get? b=some o->(h'.push fo).get? b=some o:=fun b o hn e=>dD _ (hx1 b o hn e);have sz:s.heap.objs.size<=h'.objs.size:=iD u0 (vS cc);have xl:(h'.push fo).get? PT=some (PySem.W.tabObj (ps++#[rawInt gf.line,rawInt gf.col,.ref c'])):=dD _ htb;have I3:Inv X pins σ (upd H PT (.tbl (ps++#[rawInt gf.line,rawInt gf.col,.ref c']))) { s with heap:=h'.push fo,toks:=tk }:=by
  refine I.un ⟨fun b o q n _ _=>kp b o (fun z=>by rw [z,hT]at n;cases n) q,fun b o q n _ _=>⟨o.slots,kp b o (fun z=>by rw [z,hT]at n;cases n) q⟩,fun b o q n _=>?_,fun b o q _=>?_,fun b xs q=>?_,fun b o u q=>?_,fun b qs q=>?_⟩ fun a o e=>?_
  ·rw [aj (fun z=>by rw [z,hT]at n;cases n)];exact n
  ·by_cases z:b=PT
   ·rw [z];exact⟨_,xl⟩
   ·exact⟨o,kp b o z q⟩
  ·rw [aj (fun z=>by rw [z,hT]at q;cases q)];exact q
  ·rw [aj (fun z=>by rw [z,hT]at q;cases q)];exact q
  ·by_cases z:b=PT
   ·rw [z,hT]at q;cases q;exact⟨_,by rw [z,Z2j]⟩
   ·exact⟨#[],by rw [aj z,q];simp⟩
  ·by_cases z:a=PT
   ·rw [z,Z2j]at e;cases e;rw [z];exact xl
   ·rw [aj z]at e;refine(I.hok a o e).stay (fun b u hb q=>kp b u (fun z'=>?_) q) (fun b q=>?_) fun b xs q=>?_
    ·rcases hb with hb |hb
     ·exact z (hb ▸ z')
     ·rw [z',hT]at hb;cases hb
    ·rw [aj (fun z'=>by rw [z',hT]at q;cases q)];exact q
    ·rw [aj (fun z'=>by rw [z',hT]at q;cases q)];exact q
 generalize QS:(#[rawInt gf.line,rawInt gf.col,.ref c']:Array Value)=cZ at I3 xl;refine⟨I3.kIn,?_⟩;generalize lN:upd H PT (.tbl (ps++cZ))=H3 at I3;have sub:∀ {b:Addr}{o:Obj},(h'.push fo).get? b=some o->H3 b=none->b∉b9 X.stack->(dY (h'.push fo) (lQ (b9 X.stack) H3)).get? b=some o:=fun e n1 n2=>Pp e (xr n2 n1);have nfr:∀ b o,X.base.get? b=some o->b∉b9 X.stack:=fun b o e z=>by
  have:=(I3.stack.mem z).1;rw [e]at this;cases this
 have bk:∀ b o,X.base.get? b=some o->(dY (h'.push fo) (lQ (b9 X.stack) H3)).get? b=some o:=fun b o e=>sub (I3.bk b o e) (I3.bs b o e).2 (nfr b o e);have zL:X.K.In (dY (h'.push fo) (lQ (b9 X.stack) H3)):=I.ok.mod.kin.keeps bk;have hM:Av X.K X.mg (dY (h'.push fo) (lQ (b9 X.stack) H3)):=⟨zL,I.ok.mod.glob.keeps bk,let ⟨mb,a,b⟩:=I.ok.mod.blt;⟨mb,a.keeps bk,b⟩,I.ok.mod.nolimit.keeps bk⟩;have e0:Env0 X.prog X.w X.K X.mg (dY (h'.push fo) (lQ (b9 X.stack) H3)) X.A X.stack { s with heap:=h'.push fo,toks:=tk } H3 :=
  ⟨I.ok.frames,hM,fun b o e=>⟨(Fw e).1,(O3 (Fw e).2).2⟩,vT (OM _ _),OT I3.stack fun b hb=>?_,I3.stkFree,I3.hok,I3.bare⟩
 case refine_1 =>
  cases z:(dY (h'.push fo) (lQ (b9 X.stack) H3)).get? b with
  |none=>rfl
  |some o=>exact absurd hb (O3 (Fw z).2).1
 have new:∀ {a:Addr},s.heap.objs.size<=a->H3 a=none/\a∉b9 X.stack:=fun{a} ha=>by
  refine⟨?_,fun z=>?_⟩
  ·rw [<-lN,aj (fun z=>by rw [z]at ha;exact absurd (cy hP) (Nat.not_lt_of_le ha))]
   exact I.hok.fresh ha
  ·obtain⟨_,o,e,_⟩:=I.stack.mem z;exact absurd (cy e) (Nat.not_lt_of_le ha)
 have nf:=new sz;have JM:(dY (h'.push fo) (lQ (b9 X.stack) H3)).get? h'.objs.size=some fo:=sub (fi _ (by rw [<-QM];rfl)) nf.1 nf.2
 have cells:∀ {y:Str}{c1:Addr},(eY X.env.cells scope.names []).lookup y=some c1->X.env.cells.lookup y=some c1:=fun{y c1} e=>by
  rcases AV (PySem.mem_of_lookup e)with z |⟨z1,z2⟩
  ·cases z
  ·obtain⟨c2,e2⟩:=eD _ z1 rfl;rw [e2]at z2;rw [e2,z2];rfl
 have Bs:∀ {y:Str}{c1:Addr}{v:Option Value},X.env.cells.lookup y=some c1->s.heap.IsCell c1 v->(dY (h'.push fo) (lQ (b9 X.stack) H3)).IsCell c1 v:=fun{y c1 v} e ⟨o,e1,e2⟩=>by
  have nP:c1≠PT:=fun z=>by
   have:=I.freeC y c1 e;rw [z,hT]at this;cases this
  refine⟨o,sub (kp c1 o nP e1) (by rw [<-lN,aj nP];exact I.freeC y c1 e) fun z=>?_,e2⟩
  rw [cp,Je cK]at z;rcases bv.mp z with z |z
  ·exact I.cne y c1 e z
  ·obtain⟨_,o',e',_⟩:=I.ok.funs.mem z;exact absurd (cy e') (Nat.not_lt_of_le (I.ok.cab y c1 (Ca y) e))
 have JY:uA (dY (h'.push fo) (lQ (b9 X.stack) H3)) h'.objs.size (PySem.W.kla_fn "<lambda>" (X.env.qual++"<lambda>") params body scope (eY X.env.cells scope.names []) ((X.mg "__name__").getD .none) (.ref c') rT) (X.env.qual++"<lambda>") params body scope (eY X.env.cells scope.names []) (.ref c') M vs:=by
  refine⟨⟨_,_,_,_,_,rfl,by rw [JM,<-QM]⟩,?_,fun y z c1 e1 e2=>I.ok.inj y z c1 (cells e1) (cells e2),fun y e=>?_,fun y c1 e=>?_,fun j y v e1 e2=>?_,by rw [K2,hlx]⟩
  ·obtain⟨c2,o2,EH,t2,q1,q2,q3,q4⟩:=KP;cases q1;exact⟨c',o2,EH,t2,rfl,sub (dD _ q2) (new u0).1 (new u0).2,q3,q4⟩
  ·obtain⟨c1,z⟩:=A5 (AX (cells:=X.env.cells) (acc:=[]) (PySem.mem_of_lookup e));exact⟨c1,z⟩
  ·obtain⟨v,z⟩:=I.cell y c1 (cells e);exact⟨v,Bs (cells e) z⟩
  ·obtain⟨i,i1,i2⟩:=Ks j y e1;have hi:=K3 j i v i1 e2;obtain⟨m,hn,hl⟩:=I.loc;have yf:=S.free y (gK e1);have yc:=B1 _ (PySem.mem_of_lookup yf) rfl;obtain⟨u,ru,lk⟩:=hl i y v i2 hi (.inr (.inl yc));rcases lk with⟨z,_⟩ |⟨_,c1,z1,z2⟩
   ·have z:X.env.scope.names.lookup y=some .local:=z;rw [yc]at z;cases z
   ·obtain⟨c2,z3⟩:=A5 (AX (cells:=X.env.cells) (acc:=[]) (PySem.mem_of_lookup yf));have z4:=cells z3;rw [z1]at z4;cases z4;exact⟨c1,u,z3,Bs z1 z2,ru⟩
 have FF:=F _ _ _ _ _ vs zL hM.glob JY;have Cp:=kb h'.objs.size cZ (I.hok.fresh sz);rw [lN]at Cp;have j8:=hb { s with heap:=h'.push fo,toks:=tk } [.ref h'.objs.size] I3.kIn rfl
 refine jI (dz (FF.run X.A X.stack _ H3 ⟨[.ref h'.objs.size],[]⟩ [.ref h'.objs.size] [.ref h'.objs.size] Q E hr e0 j8 (.cons rfl .nil) Cp) fun r s' hq=>?_);cases r with
 |error e=>exact hx pins σ H3 _ e s' I3 hq
 |ok fl =>
  cases fl with
  |ret u=>exact I3.after hq
  |next=>exact False.elim hq
  |brk=>exact False.elim hq
  |cont=>exact False.elim hq
end
end LM
end
section
set_option maxHeartbeats 2000000
namespace LM
open PySem PySem.Spec PyProof.Rows L2 EX
open PySem.W (WData Codec OpenSpec Well WellAll ReadsW ReadsAllW)
theorem ZaQ{P:Program}{w:World}{K:aq}{mg mb:Str->Option Value}{CX:jV}{k:Nat}{fa c PT:Addr}{fd:FuncData}{ps:List Str}{sp:Sp}{s₁:Shared}{iw:List Value}{ds:List WData}{R:PySem.W.WRecords}{cl:Str->Option Addr}{d0:WData}
  (KX:K.In s₁.heap)(nT:PySem.W.noTabs K=true)(hC:PySem.W.CodeHd s₁.heap c PT)(hT:s₁.heap.get? PT=some (PySem.W.tabObj #[]))
  (hBm:∃ bm ob,mg "__builtins__" = some (.ref bm)/\bm≠builtinsNs/\s₁.heap.get? bm=some ob/\ob.cls=.type "module"/\ob.dict=some builtinsNs/\ob.data=.plain)
  (sM:s₁.heap.Ns mainGlobals mg)(hb:s₁.heap.Ns builtinsNs mb)(hbb:∀ x:Str,x≠"__name__"->mb x=bootBuiltins x)(Kz:s₁.heap.NoLimit)(hg:s₁.gens=#[])
  (vb:WellAll w.params s₁.heap iw ds)(i9:gH ds=true)(hwt:∀ d∈ds,d.weight<=1048576)(hr:Room k callerA)
  (F:∀ base:Heap,K.In base->base.Ns mainGlobals mg->PySem.W.CodeHd base c PT->base.BuiltinsAt mg PT->am P w K mg base CX k fa fd ps sp)(BX:∀ (s:Shared)(us:List Value),us.length=ps.length->BindsTo s fd ⟨us,[]⟩ (ps.zip us))(bO:ds.length=ps.length)
  (kb:∀ (H:Hp)(xs:List V),ez K H xs ds->H PT=none->sp xs (upd H PT (.tbl #[])) (fun v H'=>Dw K H' v d0) fun _ _ _=>False)
  (JV:∀ H e s',CX [] H s₁ (fun _ _ _=>False) e s'->False) :
  codeAny (model P w) callerA (.call (.ref fa) ⟨iw,[]⟩) (fun r s'=>∃ u as,r=.ok (.ret u)/\ReadsW R cl s'.heap u d0 as/\OldK s₁.heap s'.heap/\s'.os=s₁.os/\AllBare s'.gens) s₁:=by
 obtain⟨A,ho,ar⟩:=Fj ds iw vb i9 hwt;have hO:uB (dX K s₁.heap A):=Zbz ar;have w6:HOk P w (dX K s₁.heap A) s₁.heap:=rK ar;have hS:=FI KX ar ds iw vb i9 ho;have hV:=zu ho;have QC:∀ b u,dX K s₁.heap A b=some u->K.lookup b=none:=fun b u q=>(FA ar q).1;have lT:∀ {b:Addr}{o:Obj},s₁.heap.get? b=some o->(∀ vs n,o.data≠.seq vs n)->dX K s₁.heap A b=none:=fun{b o} e d=>by
  cases q:dX K s₁.heap A b with
  |none=>rfl
  |some u =>
   obtain⟨_,vs,_,_,⟨e2,_⟩ |⟨e2,_⟩⟩:=FA ar q
   ·rw [e2]at e;cases e;exact absurd rfl (d vs.toArray _)
   ·rw [e2]at e;cases e;exact absurd rfl (d vs.toArray _)
 have FT:dX K s₁.heap A PT=none:=lT hT (fun vs n z=>by cases z)
 generalize dX K s₁.heap A=H0 at hO w6 hS QC lT FT;have hok:HOk P w (upd H0 PT (.tbl #[])) s₁.heap:=fun a o e=>by
  by_cases z:a=PT
  ·rw [z,Z2j]at e;cases e;rw [z];exact hT
  ·rw [aj z]at e;exact(w6 a o e).stay (fun b u _ q=>q) (fun b q=>by rw [aj (a9 q FT)];exact q) fun b xs q=>by rw [aj (a9 q FT)];exact q
 have Rb:∀ b o,K.lookup b=some o->b≠PT:=fun b o e z=>by
  have e2:=KX b o e;rw [z,hT]at e2;have h2:=uJ.mp nT (b,o) (PySem.W.mem_of_lookupK e);cases e2;exact absurd (show false=true from h2) fh
 have gL:∀ {b:Addr}{o:Obj},s₁.heap.get? b=some o->H0 b=none->b≠PT->(dY s₁.heap (upd H0 PT (.tbl #[]))).get? b=some o:=fun e n z=>Pp e (by rw [aj z];exact n)
 have F7:∀ {b:Addr}{m:Str->Option Value},s₁.heap.Ns b m->(dY s₁.heap (upd H0 PT (.tbl #[]))).Ns b m:=fun{b m} ⟨o,es,ep,e,d,r⟩ =>
  ⟨o,es,ep,gL e (lT e fun vs n z=>by rw [d]at z;cases z) (fun z=>by rw [z,hT]at e;cases e;cases d),d,r⟩
 have nK:∀ b o,K.lookup b=some o->H0 b=none:=fun b o e=>by
  cases q:H0 b with
  |none=>rfl
  |some u =>
   rw [QC b u q]at e;cases e
 have zL:K.In (dY s₁.heap (upd H0 PT (.tbl #[]))):=fun b o e=>gL (KX b o e) (nK b o e) (Rb b o e);have hM:Av K mg (dY s₁.heap (upd H0 PT (.tbl #[]))):=⟨zL,F7 sM,⟨mb,F7 hb,hbb⟩,let ⟨mc,h1,h2⟩:=Kz;⟨mc,F7 h1,h2⟩⟩;have e0:Env0 P w K mg (dY s₁.heap (upd H0 PT (.tbl #[]))) callerA [] s₁ (upd H0 PT (.tbl #[])):=⟨rfl,hM,fun b o e=>Fw e,vT (OM _ _),trivial,fun b hb=>absurd (show b∈([]:List Addr)from hb) (by simp),hok,.of_eq hg⟩
 have hC':PySem.W.CodeHd (dY s₁.heap (upd H0 PT (.tbl #[]))) c PT:=by
  obtain⟨o,vs,JN,tf,BI,tg,inF,text,tt,e1,r1,r2,r3,r4,r5,r6,r7,r8,bQ⟩:=hC;exact⟨o,vs,JN,tf,BI,tg,inF,text,tt,gL e1 (lT e1 fun _ _ z=>by rw [r2]at z;cases z) bQ,r1,r2,r3,r4,r5,r6,r7,r8,bQ⟩
 have hB':(dY s₁.heap (upd H0 PT (.tbl #[]))).BuiltinsAt mg PT:=by
  obtain⟨bm,ob,b1,b2,b3,b4,b5,b6⟩:=hBm;have n1:bm≠PT:=fun z=>by rw [z,hT]at b3;cases b3;cases b4
  have n2:bm≠mainGlobals:=fun z=>by
   obtain⟨o,es,ep,e,d,_⟩:=sM;rw [z,e]at b3;cases b3;rw [d]at b6;cases b6
  exact⟨bm,ob,b1,b2,n2,n1,gL b3 (lT b3 fun _ _ z=>by rw [b6]at z;cases z) n1,b4,b5,b6⟩
 have hl:iw.length=ps.length:=by rw [Fe vb];exact bO
 refine dz ((F _ zL (F7 sM) hC' hB').run callerA [] s₁ (upd H0 PT (.tbl #[])) ⟨iw,[]⟩ iw (iw.map jH) _ _ hr e0 (BX s₁ iw hl) hV (kb H0 _ hS FT)) fun r s' x=>?_;cases r with
 |error e=>exact(JV _ e s' x).elim
 |ok fl =>
  cases fl with
  |next=>exact False.elim x
  |brk=>exact False.elim x
  |cont=>exact False.elim x
  |ret u =>
   obtain⟨v,H',os,bare,un,wZ,r',q⟩:=x;have kept:∀ b o,b≠PT->s₁.heap.get? b=some o->s'.heap.get? b=some o:=fun b o nb e=>by
    cases q2:H0 b with
    |none=>exact un.keep b o e (by rw [aj nb];exact q2) (by intro z;exact absurd (show b∈([]:List Addr)from z) (by simp)) (by simp)
    |some u2 =>
     rcases hO b with z |⟨ob,u3,z⟩
     ·rw [q2]at z;cases z
     ·have z2:=un.frzs b ob _ (by rw [aj nb];exact z)
      obtain⟨e1,_⟩:=w6 b _ z;obtain⟨e2,_⟩:=wZ b _ z2;rw [e]at e1;cases e1;exact e2
   have EQ:K.In s'.heap:=fun b o e=>kept b o (Rb b o e) (KX b o e);obtain⟨as,QX⟩:=Dw.reads (R:=R) (cl:=cl) wZ EQ d0 v u q r';obtain⟨cZ,hm⟩:=un.tbls PT #[] Z2j;have QR:s'.heap.get? PT=some (PySem.W.tabObj (#[]++cZ)):=wZ PT _ hm;refine⟨u,as,rfl,QX,⟨fun b o e=>?_,fun b o e=>?_⟩,os,bare⟩
   ·by_cases z:b=PT
    ·subst z;rw [hT]at e;cases e;exact .inr (.inl ⟨(hC.tab hT).isCodeTable,rfl,#[],cZ,rfl,QR⟩)
    ·exact .inl (kept b o z e)
   ·by_cases z:b=PT
    ·subst z;exact⟨_,QR⟩
    ·exact⟨o,kept b o z e⟩
theorem ZbT{r:OpenSpec}{k:Nat}{q:Program}{loose:List Str}{XP:(Str->Option Value)->Heap->Prop}{YP:World->Heap->Prop}{d:DefRec}{K:Params->aq}{CX:jV}{ps:List Str}{sp:aq->Addr->Sp}
  (CH:r.wellSaid=true)(hdf:d.params.defaults=[])(bO:r.args.length=ps.length)(hr:Room k callerA)(B8:(recsOf q).find? (fun e=>e.name==d.name)=some d)
  (hY:∀ (w:World)(h:Heap),YP w h->(K w.params).In h)
  (nT:∀ w:World,PySem.W.noTabs (K w.params)=true)
  (F:∀ (w:World)(mg:Str->Option Value)(fa:Addr)(h:Heap),YP w h->(K w.params).In h->h.Ns mainGlobals mg->mg d.name=some (.ref fa) ->
    ∃ (fd:FuncData)(c PT:Addr),PySem.W.tabIn (K w.params) d.name=some (c,PT)/\(∀ (s:Shared)(us:List Value),us.length=ps.length->BindsTo s fd ⟨us,[]⟩ (ps.zip us)) /\
     ∀ base:Heap,(K w.params).In base->base.Ns mainGlobals mg->PySem.W.CodeHd base c PT->base.BuiltinsAt mg PT->am r.prog w (K w.params) mg base CX k fa fd ps (sp (K w.params) PT))
  (kb:∀ (K:aq)(PT:Addr)(H:Hp)(xs:List V)(a:Codec.denoteAll r.args),H PT=none->Codec.withinAll r.args a=true->Codec.app r.args r.asked a=true->ez K H xs (Codec.encAll r.args a) ->
    sp K PT xs (upd H PT (.tbl #[])) (fun v H'=>Dw K H' v (r.ret.enc (Codec.app r.args r.f a))) fun _ _ _=>False)
  (JV:∀ (H:Hp)(s:Shared)(e:Value)(s':Shared),CX [] H s (fun _ _ _=>False) e s'->False) :
  PySem.W.WalkOS q loose XP YP r d [] (fun f vs=>PySem.call f vs):=by
 intro w s_0 s₁ mg mb G Y fa o pm cd gU dV kV ho hd jh hD KA hg args iw as xh Kw QX vb QQ;obtain⟨a,e1,e2⟩:=PySem.W.os_pre_some xh;obtain⟨e3,va⟩:=Codec.encAll_of_decAll r.args args a e1;subst e3;have KX:=hY w _ Y;obtain⟨fd,c,PT,hti,hb,hF⟩:=F w mg fa _ Y KX G.T.g KA;obtain⟨hC,hT⟩:=PySem.W.tab_of G.T KX B8 hti;refine PySem.W.enter_call (dz (ZaQ (R:=[]) (cl:=classAt s_0.heap) (d0:=r.ret.enc (Codec.app r.args r.f a)) KX (nT w) hC hT G.T.bmain G.T.g G.T.b G.T.builtins G.T.nolimit hg vb (OS _ _) (Z7N Kw) hr hF hb (by rw [NX];exact bO)
  (fun H xs hS hP=>kb _ PT H xs a hP va e2 hS) fun H e s'=>JV H s₁ e s') fun r' s' hq=>?_)
 obtain⟨u,uS,rfl,h1,h2,h3,h4⟩:=hq;exact⟨.inl ⟨u,_,uS,rfl,fun _=>rfl,h1,(OpenSpec.post_iff CH va _ _).mpr rfl,fun z=>Bool.noConfusion (show false=true from z)⟩,h2,h3,h4⟩
end LM
end
section
namespace EX
open PySem PyProof.Rows HT
def cM:List Int->List Int->Bool
 |[],_=>true
 |_::_,[]=>false
 |x::xs,y::ys=>if x=y then cM xs ys else decide (x<=y)
theorem HX(x y:Int)(xs ys:List Int):cM (x::xs) (y::ys)=if x=y then cM xs ys else decide (x<=y):=rfl
theorem pE(A:Around)(s:Shared)(a:Int)(t:Tok)(c:Int)(u:Tok)(prog:Program)(w:World)(E:Value->Shared->Prop)(Q:Value->Shared->Prop)(h:Q (.bool (decide (a<=c))) s) :
  wpAny (model prog w) A (richCompare .LtE (.int a t) (.int c u)) Q E s :=
 (PyProof.Rows.le_int h:wpAny (model prog w) A (compareOp .LtE (.int a t) (.int c u)) Q E s)
section
open PySem.SeqAt
open PySem.AutoSeq1 (wpAny_loadPart')
open PySem.MeetsSeq PySem.MeetsSeq2 PySem.MeetsSeq3
theorem Z8x(l b:Addr)(items dM:Array Value)(n n2:Nat)(dd zI:Option Addr)(sl qO:Array (Option Value))(ns ms:List Int)(hi:IntsAre items.toList ns)(hj:IntsAre dM.toList ms) :
  Meets (Builtin.«tuple.__le__» ⟨[.ref l,.ref b],[]⟩)
   (fun _ R s=>s.heap.get? l=some { cls:=.type "tuple",dict:=dd,data:=.seq items n,slots:=sl }/\s.heap.get? b=some { cls:=.type "tuple",dict:=zI,data:=.seq dM n2,slots:=qO } /\
     R (.ok (.ret (.bool (cM ns ms)))) s) :=
 .of_wp fun prog w A R s h=>by
  obtain⟨hp,g,d,tk,os⟩:=s;obtain⟨hl,hb,h⟩:=h;have f2:=AutoSeq1.sub_tuple_tuple;have z1:items.size=ns.length:=by rw [<-hi.length];simp
  have z2:dM.size=ms.length:=by rw [<-hj.length];simp
  wp_walk using jT hl,jT hb,wpAny_forIn_list _ (fun d8 b s'=>b.1=none/\s'=⟨hp,g,d,tk,os⟩/\∃ (vs ws:List Value)(Ad z7:List Int),d8=vs.zip ws /\
   IntsAre vs Ad/\IntsAre ws z7/\Ad.length+dM.size=z7.length+items.size/\R (.ok (.ret (.bool (cM Ad z7)))) ⟨hp,g,d,tk,os⟩) _
  case turn =>
   rintro⟨y,x⟩ d8 b s' ⟨j8,rfl,vs,ws,Ad,z7,hz,hvi,va,bO,hR⟩;cases hvi with
   |nil=>rw [List.zip_nil_left]at hz;cases hz
   |cons a t hvi' =>
    cases va with
    |nil=>rw [List.zip_nil_right]at hz;cases hz
    |cons c u hwi' =>
     rw [E8]at hz;injection hz with CK hrest
     injection CK with hy hx
     subst hy hx;rw [HX]at hR;simp only [gB]at bO;obtain⟨e,he,Cb⟩:=nQ A.in1 ⟨hp,g,d,tk,os⟩ a t c u;refine aa (he prog w _ _ ?_);cases e with
     |true =>
      rw [ae (Cb.mp rfl)]at hR
      wp_walk
      exact⟨rfl,rfl,_,_,_,_,hrest,hvi',hwi',by omega,hR⟩
     |false =>
      rw [ac (fun q=>absurd (Cb.mpr q) fh)]at hR;have hri:=pE A.in1 ⟨hp,g,d,tk,os⟩ a t c u prog w
      wp_walk using hri
      exact⟨_,rfl,by simpa using hR⟩
  case fin =>
   rintro⟨b1,b2⟩ s' ⟨j8,rfl,vs,ws,Ad,z7,hz,hvi,va,bO,hR⟩;simp only at j8;subst j8;have hv:cM Ad z7=decide (items.size<=dM.size):=by
    cases hvi with
    |nil =>
     simp only [lA]at bO;exact(ai (by omega)).symm
    |cons a t hv =>
     cases va with
     |nil =>
      simp only [lA,gB]at bO;exact(aw (by omega)).symm
     |cons c u hw =>
      rw [E8]at hz;cases hz
   rw [hv]at hR
   wp_walk
   exact⟨_,rfl,by simpa [Builtin.Tuple.tupleCompareSizes]using hR⟩
  case h =>
   exact⟨rfl,rfl,items.toList,dM.toList,ns,ms,rfl,hi,hj,by omega,h⟩
end
section
variable{prog:Program}{w:World}{A:Around}{E:Value->Shared->Prop}{s:Shared}
theorem Zbe{l b:Addr}{items dM:Array Value}{ns ms:List Int}{Q:Value->Shared->Prop}(hl:IsTup s.heap l items)(hb:IsTup s.heap b dM)(hi:IntsAre items.toList ns)(hj:IntsAre dM.toList ms)
  (hu:A.units<cLine)(h:Q (.bool (cM ns ms)) s):wpAny (model prog w) A (compareOp .LtE (.ref l) (.ref b)) Q E s:=by
 obtain⟨⟨cls,dd,data,sl⟩,ho,hc,n,hd⟩:=id hl;obtain⟨⟨cls2,zI,data2,qO⟩,ho2,gM,n2,hd2⟩:=id hb;simp only at hc hd gM hd2;subst hc hd gM hd2;exact richCompare_meets_room (op:=.LtE) ⟨_,ho,rfl⟩ ⟨_,ho2,rfl⟩ PySem.F.slot_tuple_le PySem.F.entry_tuple_le (PySem.F.args_tuple_le_2 _ _) (Z8x l b items dM n n2 dd zI sl qO ns ms hi hj)
  ⟨ho,ho2,show Value.bool (cM ns ms)≠Value.notImplemented/\Q (.bool (cM ns ms)) s from⟨(fun x=>nomatch x),h⟩⟩ hu
end
open L2
def LR(K:aq):R2:=fun x y H Q=>∃ a b ns ms,x=.ref a/\y=.ref b/\SqT K H a (ns.map V.int)/\SqT K H b (ms.map V.int)/\Q (.bl (cM ns ms)) H
theorem yg{X:Cx}(hu:X.A.units<cLine):iB X (compareOp .LtE) (LR X.K):=by
 intro pins s σ H x y v u Q I rx ry h;obtain⟨a,b,ns,ms,rfl,rfl,ha,hb,q⟩:=h;cases rx;cases ry;obtain⟨its,r1,p1,_⟩:=I.tuple ha;obtain⟨gG,r2,p2,_⟩:=I.tuple hb;exact Zbe p1 p2 (NS r1) (NS r2) hu ⟨.bl (cM ns ms),H,I,rfl,q⟩
end EX
end
section
namespace RD
open PySem PySem.Spec PyProof.Rows L2 EX
section
variable{X:Cx}
theorem ay{x:Str}{v:V}{pos:Pos}(hg:Gl X x)(h:∃ u,X.mg x=some u/\RelV v u)(hd:(x==("__debug__" : Str))=false:=by decide):PE X (.Name x pos) (tC v):=by
 obtain⟨u,a,b⟩:=h;exact Bg hg a b hd
end
theorem so{K:aq}{a:Addr}{xs:List V}{g:TG}{tb:TS}{D:dH}{σ:L2.St}{H:Hp}(Pv:Nat->L2.St->Hp->Prop)(h0:Pv 0 σ H)(hl:∀ i σ H,i<=xs.length->Pv i σ H->SqL K H a xs)
  (hs:∀ i x σ H,i<xs.length->xs[xs.length-1-i]?=some x->Pv i σ H->g x σ H fun σ2 H2=>tb { D with nx:=Pv (i+1),ct:=Pv (i+1),bk:=D.nx } σ2 H2)(hd:∀ σ H,Pv xs.length σ H->D.nx σ H) :
  ∃ W:Nat->Nat->L2.St->Hp->Prop,(∃ m,W 0 m σ H)/\∀ i m σ H,W i m σ H ->
   ((At K a xs.length).stop i H/\D.nx σ H)\/((At K a xs.length).go i H/\∃ N:L2.St->Hp->Prop,(∀ σ' H',N σ' H'->∃ m',m' < m/\W (i+1) m' σ' H')/\∀ x H',(At K a xs.length).yld i H x H'->g x σ H' fun σ2 H2=>tb { D with nx:=N,ct:=N,bk:=D.nx } σ2 H2):=by
 refine⟨fun i m σ H=>m=xs.length-i/\i<=xs.length/\Pv i σ H,⟨xs.length,by simp,fj _,h0⟩,?_⟩
 rintro i m σ H ⟨rfl,hi,p⟩;have q:=hl i σ H hi p;by_cases cc:i<xs.length
 ·have hx:xs.length-1-i<xs.length:=by omega
  refine .inr ⟨⟨cc,xs,xs[xs.length-1-i],q,by simp [hx]⟩,Pv (i+1),fun σ' H' p'=>⟨xs.length-(i+1),by omega,rfl,cc,p'⟩,fun x H' y=>?_⟩
  obtain⟨e,y⟩:=y;subst e;exact hs i x σ _ cc (y xs q) p
 ·have e:i=xs.length:=by omega
  subst e;exact .inl ⟨bK _,hd σ H p⟩
def Only(r:Addr)(H H':Hp):Prop:=∀ b o,H b=some o->b≠r->H' b=some o
theorem Only.refl(r:Addr)(H:Hp):Only r H H:=fun _ _ h _=>h
theorem Only.trans{r:Addr}{H H1 H2:Hp}(a:Only r H H1)(b:Only r H1 H2):Only r H H2:=fun c o h n=>b c o (a c o h n) n
theorem Only.upd{r:Addr}{H:Hp}(o:HO):Only r H (L2.upd H r o):=fun b o' h n=>by rw [aj n];exact h
theorem Only.new{r a:Addr}{H H1:Hp}{o:HO}(h:Only r H H1)(n:H1 a=none):Only r H (L2.upd H1 a o):=fun b o' e hb=>by
 have e1:=h b o' e hb;rw [aj (a9 e1 n)];exact e1
theorem Same.new{a:Addr}{H:Hp}{o:HO}(n:H a=none):Same H (L2.upd H a o):=fun b o' e=>by
 rw [aj (a9 e n)];exact e
theorem Only.sq{K:aq}{r a C dx:Addr}{fs:List (Str×V)}{H H':Hp}{xs:List V}(h:Only r H H')(hr:H r=some (.ins C dx fs))(s:SqL K H a xs):SqL K H' a xs:=by
 rcases s with(s |⟨o,s⟩) |s
 ·exact .inl (.inl (h _ _ s (az s hr (by intro z;cases z))))
 ·exact .inl (.inr ⟨o,h _ _ s (az s hr (by intro z;cases z))⟩)
 ·exact .inr s
theorem Only.sqT{K:aq}{r a C dx:Addr}{fs:List (Str×V)}{H H':Hp}{xs:List V}(h:Only r H H')(hr:H r=some (.ins C dx fs))(s:SqT K H a xs):SqT K H' a xs:=by
 rcases s with(s |⟨o,s⟩) |s
 ·exact .inl (.inl (h _ _ s (az s hr (by intro z;cases z))))
 ·exact .inl (.inr ⟨o,h _ _ s (az s hr (by intro z;cases z))⟩)
 ·exact .inr s
theorem Same.sqT{K:aq}{H H':Hp}{a:Addr}{xs:List V}(e:Same H H')(h:SqT K H a xs):SqT K H' a xs:=by
 rcases h with(h |⟨o,h⟩) |h
 ·exact .inl (.inl (e _ _ h))
 ·exact .inl (.inr ⟨o,e _ _ h⟩)
 ·exact .inr h
def rf(a:Addr)(p:Int):List (Str×V):=[("form",.ref a),("place",.int p)]
theorem zr(a:Addr)(p:Int):(rf a p).lookup ("form" : Str)=some (.ref a):=by
 unfold rf;rw [bh,show(("form" : Str)=="form")=true by decide]
theorem lZ(a:Addr)(p:Int):(rf a p).lookup ("place" : Str)=some (.int p):=by
 unfold rf;rw [bh,show(("place" : Str)=="form")=false by decide,bh,show(("place" : Str)=="place")=true by decide]
theorem cw(a:Addr)(p:Int){m:Str}(h:(m=="form")=false)(h':(m=="place")=false):(rf a p).lookup m=none:=by
 unfold rf;rw [bh,h,bh,h'];rfl
theorem pH(a:Addr)(p q:Int):dv "place" (.int q) (rf a p)=rf a q:=by
 unfold rf dv;rw [ac (by decide)]
 unfold dv;rw [ae rfl]
theorem DH(a:Addr)(p:Int):dv "place" (.int p) (dv "form" (.ref a) [])=rf a p:=by
 unfold rf;show dv "place" (.int p) [("form",.ref a)]=_;unfold dv;rw [ac (by decide)]
 rfl
def dW(C:Addr)(H:Hp)(r a:Addr)(p:Nat):Prop:=∃ dx,H r=some (.ins C dx (rf a p))
def xf(rule dG EJ:Int):List (Str×V):=[("which",.int EJ),("place",.int dG),("rule",.int rule)]
theorem qt(r p w:Int):(xf r p w).lookup ("which" : Str)=some (.int w):=by
 unfold xf;rw [bh,show(("which" : Str)=="which")=true by decide]
theorem O2(r p w:Int):(xf r p w).lookup ("place" : Str)=some (.int p):=by
 unfold xf;rw [bh,show(("place" : Str)=="which")=false by decide,bh,show(("place" : Str)=="place")=true by decide]
theorem PF(r p w:Int):(xf r p w).lookup ("rule" : Str)=some (.int r):=by
 unfold xf;rw [bh,show(("rule" : Str)=="which")=false by decide,bh,show(("rule" : Str)=="place")=false by decide,bh,show(("rule" : Str)=="rule")=true by decide]
def Flt(CF:Addr)(E:XK)(H:Hp)(r:Addr)(rule dG:Int):Prop:=∀ H' dx,Only r H H'->H' dx=some (.xd (xf rule dG 0))->E (.ref CF) (some dx) H'
theorem Flt.only{CF:Addr}{E:XK}{H H1:Hp}{r:Addr}{rule dG:Int}(f:Flt CF E H r rule dG)(o:Only r H H1):Flt CF E H1 r rule dG:=fun H' dx o' h=>f H' dx (o.trans o') h
def fq(l:List Int):Int:=l.foldr (fun b n=>b+256*n) 0
noncomputable def aW(bs:List Int)(p size:Nat)(lo hi:Int):Except (Int×Int) Int :=
 if bs.length<p+size then .error (5,bs.length)else
 if fq ((bs.drop p).take size)<lo\/hi<fq ((bs.drop p).take size)then .error (2,p)else .ok (fq ((bs.drop p).take size))
noncomputable def bX(bs:List Int):Nat->List Int->Except (Int×Int) Nat
 |p,[]=>.ok p
 |p,m::ms=>if p=bs.length then .error (5,p)else if bs[p]?≠some m then .error (1,p)else bX bs (p+1) ms
theorem rV(xs:List V)(p q:Nat)(h:q<=xs.length)(hp:p<=q):j4 xs (some (p:Int)) (some (q:Int))=(xs.drop p).take (q-p):=by
 unfold j4;rw [HT.sIx_nat,HT.sIx_nat,Nat.min_eq_left h,Nat.min_eq_left (iD hp h)]
theorem Zbn{l:List Int}{i:Nat}{x:Int}(hi:i<l.length)(h:l[l.length-1-i]?=some x):fq (l.drop (l.length-(i+1)))=fq (l.drop (l.length-i))*256+x:=by
 have h1:l.length-(i+1)<l.length:=by omega
 have e1:l.length-1-i=l.length-(i+1):=by omega
 rw [e1]at h;have e2:l.length-(i+1)+1=l.length-i:=by omega
 have hx:l[l.length-(i+1)]=x:=by
  rw [du h1]at h;exact Option.some.inj h
 rw [Hc h1,e2,hx];show x+256*fq (l.drop (l.length-i))=_;omega
section
variable{X:Cx}
theorem PM(K:aq)(hK:X.K=K){e:Expr}{f:Str}{pos:Pos}{ta:TE}(he:PE X e ta)(hb:attributeBase e f X.env (eval e X.env)=eval e X.env):PE X (.Attribute e f pos) (En K ta f):=by subst hK;exact bq he hb
def Tups(H:Hp)(ts:List Addr)(ls:List (List Int)):Prop:=ts.length=ls.length/\∀ (j:Nat)(t:Addr)(m:List Int),ts[j]?=some t->ls[j]?=some m->H t=some (.tup (m.map V.int))
theorem Tups.same{H H':Hp}{ts:List Addr}{ls:List (List Int)}(h:Tups H ts ls)(k:∀ b xs,H b=some (.tup xs)->H' b=some (.tup xs)):Tups H' ts ls:=⟨h.1,fun j t m a b=>k _ _ (h.2 j t m a b)⟩
theorem Tups.snoc{H:Hp}{ts:List Addr}{ls:List (List Int)}{t:Addr}{m:List Int}(h:Tups H ts ls)(ht:H t=some (.tup (m.map V.int))):Tups H (ts++[t]) (ls++[m]):=by
 refine⟨by simp [h.1],fun j t' m' a b=>?_⟩
 rw [List.getElem?_append]at a b;rw [h.1]at a;split at a
 ·rename_i hj;rw [ae hj]at b;exact h.2 j t' m' a b
 ·rename_i hj;rw [ac hj]at b;cases z:j-ls.length with
  |zero =>
   rw [z]at a b;cases a;cases b;exact ht
  |succ n=>rw [z]at a;simp at a
open Classical in
end
end RD
end
section
namespace L2
open PySem PySem.Spec PyProof.Rows
theorem Fn{K:aq}{a:Addr}{xs:List V}{g:TG}{tb:TS}{D:dH}{σ:St}{H:Hp}(Pv:Nat->St->Hp->Prop)(h0:Pv 0 σ H)(hl:∀ i σ H,i<=xs.length->Pv i σ H->SqL K H a xs)
  (hs:∀ i x σ H T,xs[i]?=some x->Pv i σ H->H T=none->g (.ref T) σ (upd H T (.tup [.int (i:Nat),x])) fun σ2 H2=>tb { D with nx:=Pv (i+1),ct:=Pv (i+1),bk:=D.nx } σ2 H2)(hd:∀ σ H,Pv xs.length σ H->D.nx σ H) :
  ∃ W:Nat->Nat->St->Hp->Prop,(∃ m,W 0 m σ H)/\∀ i m σ H,W i m σ H ->
   ((Ar K a).stop i H/\D.nx σ H)\/((Ar K a).go i H/\∃ N:St->Hp->Prop,(∀ σ' H',N σ' H'->∃ m',m' < m/\W (i+1) m' σ' H')/\∀ x H',(Ar K a).yld i H x H'->g x σ H' fun σ2 H2=>tb { D with nx:=N,ct:=N,bk:=D.nx } σ2 H2):=by
 refine⟨fun i m σ H=>m=xs.length-i/\i<=xs.length/\Pv i σ H,⟨xs.length,by simp,fj _,h0⟩,?_⟩
 rintro i m σ H ⟨rfl,hi,p⟩;have q:=hl i σ H hi p;by_cases cc:i<xs.length
 ·refine .inr ⟨⟨xs,xs[i],q,by simp [cc]⟩,Pv (i+1),fun σ' H' p'=>⟨xs.length-(i+1),by omega,rfl,cc,p'⟩,fun x H' y=>?_⟩
  obtain⟨T,y,rfl,hT,rfl,h⟩:=y;exact hs i y σ _ T (h xs q) p hT
 ·have e:i=xs.length:=by omega
  subst e;exact .inl ⟨⟨xs,q,bK _⟩,hd σ H p⟩
theorem IY{n j:Nat}(h:j<n):qM n (j:Int)=some j:=by
 unfold qM;rw [ae (by omega),ae (by omega)]
 simp
section
variable{X:Cx}
def DB(K:aq):V->V->Hp->VK->Prop:=fun x y H Q=>∃ (p:Addr)(xs:List V)(j:Nat)(v:V),x=.ref p/\y=.int (j:Int)/\SqL K H p xs/\xs[j]?=some v/\Q v H
theorem O4:Ax X (DB X.K):=by
 intro pins s σ H o i ov iv Q I ro ri h;obtain⟨p,xs,j,z,rfl,rfl,hq,he,q⟩:=h;cases ro;obtain⟨t,rfl⟩:=ri;obtain⟨its,r,pl,hz⟩:=I.list hq;obtain⟨w,ew,gI⟩:=r.get he;have hl:=r.length;have hn:=zy;have hj:=(ee.mp he).1;exact wpAny_getItem_list pl.isList (by omega) (by omega) (by simpa using ew) ⟨z,H,I,gI,q⟩
end
def Bt(P:Program)(w:World)(a:Addr)(xs:List (List Key×Addr×Value))(h:Heap):Prop :=
 ∃ o es ep,h.get? a=some o/\o.ExactDict/\o.data=.dict es ep/\es.toList=xs.map (entryOfKey (tupleKind (gS P w)))/\(xs.map (·.1)).Nodup
def gP(P:Program)(w:World)(a:Addr)(xs:List (List Key×Addr×Value)):HO:=.ext (Bt P w a xs)
theorem nH{P:Program}{w:World}{H:Hp}{h:Heap}{a:Addr}{xs:List (List Key×Addr×Value)}(p:Bt P w a xs h):ObjOk P w H h a (gP P w a xs):=by
 refine⟨p,?_,fun h1 h2 q k=>?_⟩
 ·obtain⟨o,_,_,e,_⟩:=p;exact⟨o,e⟩
 ·obtain⟨o,es,ep,e,r⟩:=q;exact⟨o,es,ep,k o e,r⟩
abbrev KX(K:aq)(H:Hp):List (List Key×V)->List (List Key×Addr×Value)->Prop:=Paired fun p q=>p.1=q.1/\SqT K H q.2.1 (p.1.map kV)/\RelV p.2 q.2.2
structure DX(K:aq)(P:Program)(w:World)(H:Hp)(a:Addr)(ah:List (List Key×V))(xs:List (List Key×Addr×Value)):Prop where
 at_:H a=some (gP P w a xs)
 rel:KX K H ah xs
 len:ah.length<=sizeLine
 sys:(a==sysModules)=false
def DXe(K:aq)(P:Program)(w:World)(H:Hp)(a:Addr)(ah:List (List Key×V)):Prop:=∃ xs,DX K P w H a ah xs
theorem SqT.keep{K:aq}{H H':Hp}{a:Addr}{xs:List V}(h:SqT K H a xs)(k:∀ o,H a=some o->H' a=some o):SqT K H' a xs:=by
 rcases h with(h |⟨o,h⟩) |h
 ·exact .inl (.inl (k _ h))
 ·exact .inl (.inr ⟨o,k _ h⟩)
 ·exact .inr h
theorem KX.keep{K:aq}{H H':Hp}{ah:List (List Key×V)}{xs:List (List Key×Addr×Value)}(h:KX K H ah xs)(k:∀ b ys,SqT K H b ys->SqT K H' b ys):KX K H' ah xs:=Paired.mapP h fun _ _ z=>⟨z.1,k _ _ z.2.1,z.2.2⟩
theorem DX.keep{K:aq}{P:Program}{w:World}{H H':Hp}{a:Addr}{ah:List (List Key×V)}{xs:List (List Key×Addr×Value)}(d:DX K P w H a ah xs)(h1:∀ o,H a=some o->H' a=some o)(k:∀ b ys,SqT K H b ys->SqT K H' b ys):DX K P w H' a ah xs :=
 ⟨h1 _ d.at_,d.rel.keep k,d.len,d.sys⟩
theorem DXe.same{K:aq}{P:Program}{w:World}{H H':Hp}{a:Addr}{ah:List (List Key×V)}(d:DXe K P w H a ah)(s:Same H H'):DXe K P w H' a ah :=
 let ⟨xs,d⟩:=d;⟨xs,d.keep (fun o e=>s _ _ e) fun b ys h=>h.keep fun o e=>s _ _ e⟩
theorem KX.val{K:aq}{H:Hp}{ah:List (List Key×V)}{xs:List (List Key×Addr×Value)}(r:KX K H ah xs)(k:List Key):RelO (aJ ah k) ((atKey xs k).map (·.2)):=by
 induction r with
 |nil=>exact True.intro
 | @cons p q ps qs h t ih =>
  obtain⟨h1,_,h2⟩:=h;by_cases e:p.1=k
  ·have e':q.1=k:=h1.symm.trans e;have b:atKey (q::qs) k=some q.2:=by simp [atKey,qX,e']
   rw [lE e,b];exact h2
  ·have e':¬ q.1=k:=fun z=>e (h1.trans z);have b:atKey (q::qs) k=atKey qs k:=by simp [atKey,qX,e']
   rw [kt e,b];exact ih
theorem KX.repl{K:aq}{H:Hp}{ah:List (List Key×V)}{xs:List (List Key×Addr×Value)}(r:KX K H ah xs)(k:List Key){y:V}{u:Value}(ry:RelV y u) :
  KX K H (ah.map fun kv=>if kv.1=k then(kv.1,y)else kv) (xs.map (putAt k u)):=by
 induction r with
 |nil=>exact .nil
 | @cons p q ps qs h t ih =>
  rw [ei,ei];refine .cons ?_ ih;obtain⟨h1,h2,h3⟩:=h;unfold putAt;by_cases e:p.1=k
  ·rw [ae e,ae (h1.symm.trans e)];exact⟨h1,h2,ry⟩
  ·rw [ac e,ac (fun z=>e (h1.trans z))];exact⟨h1,h2,h3⟩
theorem KX.put{K:aq}{H:Hp}{ah:List (List Key×V)}{xs:List (List Key×Addr×Value)}(r:KX K H ah xs)(k:List Key){b:Addr}{y:V}{u:Value}(hb:SqT K H b (k.map kV))(ry:RelV y u) :
  KX K H (aE ah k y) (storedH xs k b u):=by
 have e:(ah.any fun kv=>decide (kv.1=k))=(atKey xs k).isSome:=by
  rw [v0,(r.val k).isSome_eq,AC]
 unfold aE storedH;rw [e];by_cases q:(atKey xs k).isSome=true
 ·rw [ae q,ae q];exact r.repl k ry
 ·rw [ac q,ac q];exact Paired.snoc r ⟨rfl,hb,ry⟩
section
variable{X:Cx}{pins:List (Addr×Obj)}{σ:St}{H:Hp}{s:Shared}{a b:Addr}{y v d:V}{u r:Value}{A:Around}{E:Value->Shared->Prop}{ah:List (List Key×V)}{xs:List (List Key×Addr×Value)}{k:List Key}
theorem oy(I:Inv X pins σ H s)(h:SqT X.K H b (k.map kV)):(tupleKind (gS X.prog X.w)).is s.heap k b:=by
 obtain⟨its,r,⟨o,h1,h2,n,h3⟩,_⟩:=I.tuple h;exact⟨o,its.toArray,n,h1,h2,h3,by simpa using IM r⟩
theorem fk(I:Inv X pins σ H s)(d:DX X.K X.prog X.w H a ah xs):s.heap.DictOfH (tupleKind (gS X.prog X.w)) a xs:=by
 obtain⟨⟨o,es,ep,h1,h2,h3,h4,h5⟩,_⟩:=(show ObjOk X.prog X.w H s.heap a (gP X.prog X.w a xs)from I.hok a _ d.at_);refine⟨o,es,ep,h1,h2,h3,h4,?_,h5⟩;have all:∀ {l:List (List Key×V)}{m:List (List Key×Addr×Value)},KX X.K H l m->∀ x∈m,(tupleKind (gS X.prog X.w)).is s.heap x.1 x.2.1:=by
  intro l m q
  induction q with
  |nil=>intro x hx;exact nomatch hx
  | @cons p q ps qs hq t ih =>
   intro x hx;rcases bv.mp hx with e |hx
   ·subst e;exact oy I (by rw [<-hq.1];exact hq.2.1)
   ·exact ih x hx
 exact all d.rel
theorem wG{Q:Value->Shared->Prop}(hu:A.units+1<cLine)(I:Inv X pins σ H s)(d:DX X.K X.prog X.w H a ah xs)(hk:SqT X.K H b (k.map kV))(l:aJ ah k=some v)(h:∀ w' s',Inv X pins σ H s'->RelV v w'->Q w' s') :
  wpAny (model X.prog X.w) A (getItem (.ref a) (.ref b)) Q E s:=by
 obtain⟨w',hw,gI⟩:=RelO.some_of (v:=v) (o:=(atKey xs k).map (·.2)) (by rw [<-l];exact d.rel.val k)
 obtain⟨p,hp,Ci⟩:=EV.mp hw;refine wpAny_getItem_heap (bi hu) (oy I hk) (fk I d) hp ?_;rw [Ci];exact h w' _ (I.tok _) gI
theorem nN{Q:Value->Shared->Prop}(hu:A.units+1<cLine)(I:Inv X pins σ H s)(d:DX X.K X.prog X.w H a ah xs)(hk:SqT X.K H b (k.map kV))(h:∀ s',Inv X pins σ H s'->Q (.bool (!(aJ ah k).isSome)) s') :
  wpAny (model X.prog X.w) A (compareOp .NotIn (.ref b) (.ref a)) Q E s:=by
 refine wpAny_notIn_heap (bi hu) (oy I hk) d.sys (fk I d) ?_;have q:=(d.rel.val k).isSome_eq;rw [AC]at q;rw [<-q];exact h _ (I.tok _)
theorem sf{Q:Value->Shared->Prop}(hu:A.units+1<cLine)(I:Inv X pins σ H s)(dd:DX X.K X.prog X.w H a ah xs)(hk:SqT X.K H b (k.map kV))(rd:RelV d r)(h:∀ w' s',Inv X pins σ H s'->RelV ((aJ ah k).getD d) w'->Q w' s') :
  wpAny (model X.prog X.w) A (call (.builtin "dict.get") [.ref a,.ref b,r]) Q E s:=by
 have dh:=fk I dd;refine call_meetsIn PySem.F.slot_dict_get dh.typeIs PySem.F.entry_dict_get (PySem.F.args_dict_get_3 _ _ _) (meetsH_dict_get_default (tupleKind (gS X.prog X.w)) a b dd.sys r) ⟨bi hu,k,xs,oy I hk,dh,h _ _ (I.tok _) ?_⟩;exact(dd.rel.val k).getD rd
theorem wH{Q:Unit->Shared->Prop}(hu:A.units+1<cLine)(I:Inv X pins σ H s)(d:DX X.K X.prog X.w H a ah xs)(hk:SqT X.K H b (k.map kV))(rv:RelV v r)(hl:ah.length<sizeLine)
  (h:∀ s' H',(∀ c o,H c=some o->c≠a->H' c=some o)->DX X.K X.prog X.w H' a (aE ah k v) (storedH xs k b r)->Inv X pins σ H' s'->Q () s') :
  wpAny (model X.prog X.w) A (setItem (.ref a) (.ref b) r) Q E s:=by
 have hz:xs.length<=sizeLine:=by rw [<-Paired.length d.rel];exact d.len
 refine wpAny_setItem_heap (hsz:=hz) (bi hu) (oy I hk) (fk I d) fun h' mf hs=>?_;obtain⟨q,es,ep,hq,h2,h3,h4,_,h5⟩:=mf;have kp:∀ b' ys,SqT X.K H b' ys->SqT X.K (upd H a (gP X.prog X.w a (storedH xs k b r))) b' ys:=fun b' ys z=>by
  rcases z with(z |⟨o,z⟩) |z
  ·exact .inl (.inl (by rw [aj (az z d.at_ (by intro y;cases y))];exact z))
  ·exact .inl (.inr ⟨o,by rw [aj (az z d.at_ (by intro y;cases y))];exact z⟩)
  ·exact .inr z
 refine h _ (upd H a (gP X.prog X.w a (storedH xs k b r))) (fun c o e n=>by rw [aj n];exact e) ⟨Z2j,(d.rel.put k hk rv).keep kp,?_,d.sys⟩ (A9 I (by rw [d.at_];exact True.intro) hs ⟨q,hq⟩ (nH ⟨q,es,ep,hq,h2,h3,h4,h5⟩))
 have:=mK ah k v;omega
end
def Er(P:Program)(w:World):TE:=fun _ H Q=>∀ p,H p=none->(p==sysModules)=false->Q (.ref p) (upd H p (gP P w p []))
def Eo(K:aq)(P:Program)(w:World)(td ty:TE):TE:=fun σ H Q=>td σ H fun x H1=>ty σ H1 fun y H2=>∃ a b ah k v,x=.ref a/\y=.ref b/\DXe K P w H2 a ah/\SqT K H2 b (k.map kV)/\aJ ah k=some v/\Q v H2
def yM(K:aq)(P:Program)(w:World)(td ty tx:TE):TE:=fun σ H Q=>td σ H fun x H1=>∃ a ah,x=.ref a/\DXe K P w H1 a ah/\ty σ H1 fun y H2=>tx σ H2 fun z H3=>∃ b k,y=.ref b/\DXe K P w H3 a ah/\SqT K H3 b (k.map kV)/\Q ((aJ ah k).getD z) H3
def DO(K:aq)(P:Program)(w:World)(td ty tv:TE):TS:=fun D σ H=>tv σ H fun v H1=>td σ H1 fun x H2=>ty σ H2 fun y H3=>∃ a b ah k,x=.ref a/\y=.ref b/\DXe K P w H3 a ah/\SqT K H3 b (k.map kV)/\ah.length<sizeLine /\
 ∀ H4,(∀ c o,H3 c=some o->c≠a->H4 c=some o)->DXe K P w H4 a (aE ah k v)->D.nx σ H4
theorem DX.empty{K:aq}{P:Program}{w:World}{H:Hp}{p:Addr}(h:(p==sysModules)=false):DXe K P w (upd H p (gP P w p [])) p []:=⟨[],Z2j,.nil,fj _,h⟩
section
variable{X:Cx}{o e f i value:Expr}{pos eW cz br:Pos}{td ty tx tv:TE}
theorem Pw:PE X (.Dict [] [] pos) (Er X.prog X.w):=fun pins s σ H Q I h=>by
 have hs:(s.heap.objs.size==sysModules)=false:=by
  have:=I.big;rw [aO];exact kn this
 refine EK ⟨.ref s.heap.objs.size,_,I.laid (a:=s.heap.objs.size) (o:=gP X.prog X.w s.heap.objs.size []) (t':=s.toks) (fun _ _ q=>dD _ q) (bK _) (nH ?_),rfl,h _ (I.hok.fresh (bK _)) hs⟩;exact⟨_,#[],0,fi _ rfl,⟨rfl,rfl,rfl⟩,rfl,rfl,uI⟩
theorem PX(hu:X.A.units+1<cLine)(ho:PE X o td)(hi:PE X i ty)(hs:vN i):PE X (.Subscript o i pos) (Eo X.K X.prog X.w td ty):=by
 intro pins s σ H Q I h;refine Pr PySem.F.slot_dict_getitem.lookup hs (aP (ho pins s σ H _ I h) fun u s1 ⟨x,H1,I1,rx,q1⟩=>aP (hi pins s1 σ H1 _ I1 q1) fun iv s2 zz=>?_);obtain⟨y,H2,I2,ry,a,b,ah,k,v,ex,ey,⟨xs,d⟩,hk,l,q2⟩:=zz;subst ex ey;obtain rfl:u=Value.ref a:=rx;obtain rfl:iv=Value.ref b:=ry;exact⟨(fk I2 d).typeIs,wG hu I2 d hk l fun w' s3 I3 gI=>⟨v,H2,I3,gI,q2⟩⟩
theorem oW(hu:X.A.units+1<cLine)(ho:PE X o td)(he:PE X e ty)(hf:PE X f tx)(m:M2 X o "get" cz e f br):PE X (.Call (.Attribute o "get" cz) [e,f] [] br) (yM X.K X.prog X.w td ty tx):=by
 intro pins s σ H Q I h;refine yU m.base m.few m.line PySem.F.plainAttrs_dict PySem.F.slot_dict_get PySem.F.type_dict_get (aP (ho pins s σ H _ I h) fun u s1 zz=>?_);obtain⟨x,H1,I1,rx,a,ah,ex,⟨xs,d⟩,q1⟩:=zz;subst ex;obtain rfl:u=Value.ref a:=rx;have dh:=fk I1 d;refine⟨dh.typeIs,fun b q=>?_,?_⟩
 ·cases q;obtain⟨ob,_,_,h1,h2,_⟩:=dh;exact⟨ob,h1,h2.2.1⟩
 rw [m.trees];refine Calls.callWith_builtin rfl (Calls.evalArgs_plain (Calls.spliced_cons (aP (he pins s1 σ H1 _ I1 q1) fun iv s2 ⟨y,H2,I2,ry,q2⟩ =>
  Calls.spliced_cons (aP (hf pins s2 σ H2 _ I2 q2) fun fv s3 ⟨z,H3,I3,rz,b,k,ey,⟨jU,d'⟩,hk,q3⟩=>Calls.spliced_nil ?_))))
 subst ey;obtain rfl:iv=Value.ref b:=ry;exact sf hu I3 d' hk rz fun w' s4 I4 gI=>⟨_,H3,I4,gI,q3⟩
theorem Ps(hu:X.A.units+1<cLine)(ho:PE X o td)(hi:PE X i ty)(hv:PE X value tv)(hs:swapsWith value (some (.Subscript o i eW)) pos.line X.env=pure false) :
  PS X (.Assign [.Subscript o i eW] value pos) (DO X.K X.prog X.w td ty tv):=by
 intro pins s σ H D I h;refine wpAny_Assign_Subscript (aP (hv pins s σ H _ I h) fun r s1 ⟨v,H1,I1,rv,q1⟩=>aP (ho pins s1 σ H1 _ I1 q1) fun u s2 ⟨x,H2,I2,rx,q2⟩=>aP (hi pins s2 σ H2 _ I2 q2) fun iv s3 zz=>?_) hs;obtain⟨y,H3,I3,ry,a,b,ah,k,ex,ey,⟨xs,d⟩,hk,hl,q3⟩:=zz;subst ex ey;obtain rfl:u=Value.ref a:=rx;obtain rfl:iv=Value.ref b:=ry;exact wH hu I3 d hk rv hl fun s4 H4 k4 d4 I4=>⟨σ,H4,I4,q3 H4 k4 ⟨_,d4⟩⟩
end
section
variable{prog:Program}{w:World}{A:Around}{E:Value->Shared->Prop}{s:Shared}
theorem Z9Q(hh:A.handled=none)(it d:Addr)(bQ:d≠it){o:Obj}{es:Array DictEntry}{ep n:Nat}(gb:o.data=.dict es ep)(hn:es.size=n) :
  Walks prog w A it [it,d] [it] n (fun i v=>∃ en,es[i]?=some en/\v=en.key) (fun i h=>h.IsKeyIter it d i n ep/\h.get? d=some o) where
 sub:=fun b hb=>by simp at hb;simp [hb]
 frame:=fun _ _ _ st hk=>⟨st.1.at fun o e=>hk it (by simp) o e,hk d (by simp) o st.2⟩
 item:=fun i s Q E hi st hQ=>by
  have hx:es[i]?=some es[i]:=AD (by omega)
  refine Z8z st.1 st.2 gb hn hx fun h' jF sb=>?_;exact hQ _ h' s.toks ⟨_,hx,rfl⟩ ⟨jF,(sb.2 d bQ).trans st.2⟩ fun b o hb e=>(sb.2 b (fun h=>hb (by simp [h]))).trans e
 done:=fun s Q E st hQ=>Z9k hh st.1 st.2 gb hn (bK _) fun h' B4=>hQ h' s.toks fun b o hb e=>B4 b o (fun h=>hb (by simp [h])) e
 self:=fun _ _ _ _ st hQ=>wpAny_pyIter_keyiter st.1 hQ
theorem Z9u{v d:Addr}{o:Obj}{es:Array DictEntry}{ep:Nat}{Q:Value->Shared->Prop}(hv:PySem.W.KdlKeysView s.heap v d)(ho:s.heap.get? d=some o)(sE:o.data=.dict es ep)
  (hQ:Q (.ref s.heap.objs.size) { s with heap:=s.heap.push { cls:=.type "dict_keyiterator",data:=.fields #[.ref d,.int 0 0,.int es.size 0,.int ep 0] } }) :
  wpAny (model prog w) A (pyIter (.ref v)) Q E s:=by
 obtain⟨ov,KM,hcv,Kh⟩:=id hv;refine wpAny_pyIter_slot hv.typeIs PySem.W.kdl_slot_keys_iter (cF PySem.W.kdl_slot_keys_iter hv.typeIs PySem.W.kdl_entry_keys_iter ?_ (PySem.W.kdl_args_keys_iter _));unfold Builtin.«dict_keys.__iter__»;refine aa (af ?_);refine aa ?_;unfold Builtin.Dict_items.dictOf;refine aa (aL KM Kh (x:=.ref d) rfl (af ?_));refine aa ?_;unfold Builtin.Dict_items.newIterator;refine aa (c9 ho sE ?_);refine aa (dS ho sE ?_);have gZ:Builtin.Dict_items.ownsTuple "dict_keyiterator" = false:=by decide
 simp only [gZ,AB,bu];refine aA (af ⟨_,rfl,"dict_keyiterator",_,⟨_,fi _ rfl,rfl⟩,PySem.F.slot_dict_keyiterator_next.lookup,?_⟩);simpa [rawInt]using hQ
theorem Zbr{r d:Addr}{o:Obj}{es:Array DictEntry}{ep n:Nat}(gb:o.data=.dict es ep)(hn:es.size=n) :
  PySem.W.KdlSrc prog w "dict_keys" r d n (fun i v=>∃ en,es[i]?=some en/\v=en.key) (fun h=>PySem.W.KdlKeysView h r d/\h.get? d=some o) where
 type:=fun _ hm=>hm.1.typeIs
 there:=fun _ hm=>⟨let ⟨_,ho,_⟩:=hm.1;cy ho,cy hm.2⟩
 keep:=fun _ _ hm hk=>⟨let ⟨o,ho,x⟩:=hm.1;⟨o,hk r (.inl rfl) o ho,x⟩,hk d (.inr rfl) _ hm.2⟩
 notList:=by decide
 notTuple:=by decide
 hint:=fun _ _ _ _ hm hq=>PySem.W.kdl_hint_keys hm.1.typeIs hq
 iter:=fun _ s hh hm=>⟨_,_,(fun _ _ hq=>Z9u hm.1 hm.2 gb hq),Z9Q hh _ d (eF (cy hm.2)) gb hn,⟨⟨_,fi _ rfl,rfl,by rw [hn];rfl⟩,dD _ hm.2⟩⟩
theorem Z9W{R:List Value->Shared->Prop}{T:String}{r d:Addr}{n:Nat}{P:Nat->Value->Prop}{OK:Heap->Prop}(S:PySem.W.KdlSrc prog w T r d n P OK)(hh:A.handled=none)(hok:OK s.heap)(hn:n<=sizeLine)
  (h:∀ (h':Heap)(tk:Nat)(acc:Array Value),(∀ b o,s.heap.get? b=some o->h'.get? b=some o)->s.heap.objs.size<=h'.objs.size->ItemsOf P acc n->R acc.toList { s with heap:=h',toks:=tk }) :
  wpAny (model prog w) A (collect (.ref r)) R E s:=by
 have hr:=(S.there _ hok).1;have hd:=(S.there _ hok).2;unfold collect;refine aa (wpAny_runValue (codeAny_builtin PySem.F.entry_proto_collect ?_));rw [Around.under_plainId PySem.F.plain_proto_collect _];show wpAny _ A.in1 (newList [] >>= fun l=>again (.builtin "list.__iadd__" ⟨[l,.ref r],[]⟩)) _ _ s;refine aa (aA ?_);refine af ⟨plainId_quiet PySem.F.plain_list_iadd _,codeAny_builtin PySem.F.entry_list_iadd ?_⟩;rw [Around.under_plainId PySem.F.plain_list_iadd _];have hS₁:(s.heap.push { cls:=.type "list",data:=.seq ([]:List Value).toArray }).get? s.heap.objs.size=some { cls:=.type "list",data:=.seq #[] }:=fi _ rfl;show wpAny _ A.in1 (Builtin.List.listExtendWith (.ref s.heap.objs.size) (.ref r) (.ref s.heap.objs.size)) _ _ _;have key:=PySem.W.kdl_extend (A:=A) (s:={ s with heap:=s.heap.push { cls:=.type "list",data:=.seq ([]:List Value).toArray } })
  (R:=fun(q:Result)(s':Shared)=>∃ (h':Heap)(tk:Nat)(jp:Array Value)(c':Nat),q=.ok (.ret (.ref s.heap.objs.size))/\s'={ s with heap:=h',toks:=tk } /\
    (∀ b o,s.heap.get? b=some o->h'.get? b=some o)/\h'.get? s.heap.objs.size=some { cls:=.type "list",dict:=none,data:=.seq jp c',slots:=#[] }/\ItemsOf P jp n)
  S hh (S.keep _ _ hok fun b _ o e=>dD _ e) s.heap.objs.size (kn hr) (kn hd) (.ref s.heap.objs.size) 0 hS₁
  (fun h' tk jp c' hk qF i7=>⟨h',tk,jp,c',rfl,rfl,fun b o e=>hk b o (eF (cy e)) (dD _ e),qF,i7⟩) hn
 refine ax key (fun fin s' x=>?_) fun e s' x=>?_
 ·cases fin with
  |done f =>
   obtain⟨h',tk,jp,c',e,rfl,hk,qF,i7⟩:=x;cases e;show wpAny _ A (load s.heap.objs.size >>= _) _ _ _;refine aa (wpAny_load qF ?_);exact af (h h' tk jp hk (vS (cy qF)) i7)
  |again c₁ =>
   refine⟨x.1,dz x.2 fun q s₂ y=>?_⟩;obtain⟨h',tk,jp,c',rfl,rfl,hk,qF,i7⟩:=y;show wpAny _ A (load s.heap.objs.size >>= _) _ _ _;refine aa (wpAny_load qF ?_);exact af (h h' tk jp hk (vS (cy qF)) i7)
 ·obtain⟨_,_,_,_,e',_⟩:=x;cases e'
theorem Zbf{r:Addr}{vs fs:List Value}{Q:Value->Shared->Prop}{shape:Nat->Bool}
  (hc:∀ (A':Around)(E':Value->Shared->Prop)(R:List Value->Shared->Prop),A'.handled=A.handled->(∀ h' tk,(∀ b o,s.heap.get? b=some o->h'.get? b=some o)->s.heap.objs.size<=h'.objs.size->R vs { s with heap:=h',toks:=tk })->wpAny (model prog w) A' (collect (.ref r)) R E' s)
  (ht:TupsOf s.heap shape vs fs)(hk:∀ v,v∈vs->∃ l,G.tupKeyC s.heap shape v=some l)(hL:vs.length<=sizeLine)
  (h:∀ (uR:Array Keyed)(h':Heap)(tk:Nat)(p:Addr)(c:Nat),uR.Perm (pairsOf vs)->SortedToK (G.tupKindC s.heap shape) uR (pairsOf vs).size->(∀ b o,s.heap.get? b=some o->h'.get? b=some o)->s.heap.objs.size<=p->h'.get? p=some (seqObj "list" (uR.map (·.2)) c)->Q (.ref p) { s with heap:=h',toks:=tk }) :
  wpAny (model prog w) A (call (.builtin "sorted") [.ref r]) Q E s:=by
 refine Calls.call_function_entry kind_sorted plain_sorted entry_sorted (args_sorted1 _) ?_;unfold Builtin.«sorted»;refine aa (m:=checkCount "sorted" 1 1 _) (af ?_);refine aa (hc _ _ _ rfl fun h1 tk k1 z1=>?_);refine aa (wpAny_newList ?_);have zS:(h1.push (seqObj "list" vs.toArray 0)).get? h1.objs.size=some (seqObj "list" vs.toArray 0):=fi _ rfl;show wpAny _ _ _ _ _ { s with heap:=h1.push (seqObj "list" vs.toArray 0),toks:=tk }
 have k0:G.KeepsTups s.heap (h1.push (seqObj "list" vs.toArray 0)):=fun b o e _=>dD _ (k1 b o e);have k6:=k0.trans (G.keeps_sort6 (vs:=vs) zS);refine aa (bw (cF slot_list_sort ⟨_,zS,rfl⟩ entry_list_sort (G.list_sort_treeG (κ:=G.tupKindC s.heap shape) (kd:=tuples' true) zS (G.tupKeys hk) ?ordG ?keyG hL fun jF a1 a2 a3=>⟨_,rfl,?retG⟩) (args_list_sort _)))
 case ordG=>exact G.tupC_ltAt (s:={ s with heap:=_,toks:=tk }) true k6
 case keyG =>
  intro h2 R hq;exact tup_kind (s:={ s with heap:=_,toks:=tk }) (by rw [G.TupsOf.length ht];omega) (G.TupsOf.keep k6 ht) hq
 case retG =>
  obtain⟨ep,he⟩:=sortedHeap_at (vs:=vs) (out:=(arrOf jF).map (·.2)) zS;refine af ⟨_,rfl,h (arrOf jF) _ tk _ ep a1 a2 (fun b o e=>?_) z1 he⟩;have lt:b<h1.objs.size:=cy (k1 b o e);rw [sortedHeap_old (eF lt) (by rw [size_push'];exact zd lt)]
  exact dD _ (k1 b o e)
end
theorem Iv{α β:Type}{f:α->β}{l m:List β}(h:l.Perm m):∀ {k:List α},m=k.map f->∃ k':List α,k'.Perm k/\l=k'.map f:=by
 induction h with
 |nil=>intro k e;exact⟨[],by cases k with |nil=>exact .nil |cons=>simp at e,rfl⟩
 | @cons x l₁ l₂ h ih =>
  intro k e;cases k with
  |nil=>simp at e
  |cons a k =>
   rw [ei]at e;injection e with e1 e2
   obtain⟨k',p,q⟩:=ih e2;exact⟨a::k',p.cons a,by rw [ei,q,e1]⟩
 |swap x y l =>
  intro k e
  match k,e with
  |[],e=>simp at e
  |[_],e=>simp at e
  |a::b::k,e =>
   rw [ei,ei]at e;injection e with e1 e2
   injection e2 with e2 e3
   exact⟨b::a::k,List.Perm.swap _ _ _,by rw [ei,ei,e1,e2,e3]⟩
 |trans h1 h2 ih1 ih2 =>
  intro k e;obtain⟨k1,p1,q1⟩:=ih2 e;obtain⟨k2,p2,q2⟩:=ih1 q1;exact⟨k2,p2.trans p1,q2⟩
def pk(p:Int×Int):List Key:=[.inl p.1,.inl p.2]
theorem yp{p q:Int×Int}(h:pk p=pk q):p=q:=by
 unfold pk at h;injection h with h1 h2
 injection h2 with h2 _
 exact Prod.ext (Sum.inl.inj h1) (Sum.inl.inj h2)
theorem vp(p:Int×Int):(pk p).map kV=[.int p.1,.int p.2]:=rfl
def y8(x y:Int×Int):Prop:=x.1<y.1\/(x.1=y.1/\x.2<y.2)
theorem Lj(x y:Int×Int):lexLt itemOrd [Sum.inl x.1,Sum.inl x.2] [Sum.inl y.1,Sum.inl y.2]=true↔y8 x y:=by
 rw [lex_true];unfold y8;have e1:itemOrd.blt (Sum.inl x.1) (Sum.inl y.1)=decide (x.1<y.1):=rfl;have e2:itemOrd.blt (Sum.inl y.1) (Sum.inl x.1)=decide (y.1<x.1):=rfl;have e3:lexLt itemOrd [Sum.inl x.2] [Sum.inl y.2]=decide (x.2<y.2):=by
  rw [lex_cons];have:itemOrd.blt (Sum.inl x.2) (Sum.inl y.2)=decide (x.2<y.2):=rfl;rw [this];show(_ ||(_&&false))=_;rw [Bool.and_false,Bool.or_false]
 rw [e1,e2,e3,ag,decide_eq_false_iff_not,ag];omega
def vwP(v d:Addr)(h:Heap):Prop:=PySem.W.KdlKeysView h v d
def qU(v d:Addr):HO:=.ext (vwP v d)
theorem EI{P:Program}{w:World}{H:Hp}{h:Heap}{v d:Addr}(p:PySem.W.KdlKeysView h v d):ObjOk P w H h v (qU v d):=by
 refine⟨p,?_,fun h1 h2 q k=>?_⟩
 ·obtain⟨o,e,_⟩:=p;exact⟨o,e⟩
 ·obtain⟨o,e,r⟩:=q;exact⟨o,k o e,r⟩
def yN(K:aq)(P:Program)(w:World)(td:TE):TE:=fun σ H Q=>td σ H fun x H1=>∃ d ah,x=.ref d/\DXe K P w H1 d ah/\∀ v,H1 v=none->Q (.ref v) (upd H1 v (qU v d))
def pA(K:aq)(P:Program)(w:World):List V->Hp->VK->Prop:=fun vs H Q=>∃ (v d:Addr)(ah:List (List Key×V))(ps:List (Int×Int)),vs=[.ref v]/\H v=some (qU v d)/\DXe K P w H d ah/\ah.map (·.1)=ps.map pk /\
 ∀ (p:Addr)(qs:List (Int×Int))(as:List Addr),H p=none->qs.Perm ps->qs.Pairwise (fun x y=>¬ y8 y x)->as.length=qs.length->(∀ (j:Nat)(q:Int×Int)(b:Addr),qs[j]?=some q->as[j]?=some b->SqT K H b [.int q.1,.int q.2])->Q (.ref p) (upd H p (.lst (as.map V.ref)))
section
variable{X:Cx}{e:Expr}{td:TE}{cz br:Pos}
theorem oY(he:PE X e td)(fm:autoParam (attributeBase e "keys" X.env (eval e X.env)=eval e X.env) aR._auto_1)(gY:autoParam ((cz.endLine==br.line)=true) aR._auto_1):PE X (.Call (.Attribute e "keys" cz) [] [] br) (yN X.K X.prog X.w td):=by
 intro pins s σ H Q I h;refine yU (T:="dict") (id:="dict.keys") fm rfl gY F.plainAttrs_dict F.slot_dict_keys F.type_dict_keys (aP (he pins s σ H _ I h) fun u s1 zz=>?_);obtain⟨x,H1,I1,rx,d,ah,ex,⟨xs,dx⟩,q⟩:=zz;subst ex;obtain rfl:u=Value.ref d:=rx;have dh:=fk I1 dx;refine⟨dh.typeIs,fun b q=>?_,?_⟩
 ·cases q;obtain⟨ob,_,_,h1,h2,_⟩:=dh;exact⟨ob,h1,h2.2.1⟩
 have fin:EP X pins σ Q (.ref s1.heap.objs.size) { s1 with heap:=s1.heap.push { cls:=.type "dict_keys",data:=.fields #[.ref d] } } :=
  ⟨.ref s1.heap.objs.size,_,I1.laid (a:=s1.heap.objs.size) (o:=qU s1.heap.objs.size d) (t':=s1.toks) (fun _ _ q=>dD _ q) (bK _) (EI ⟨_,fi _ rfl,rfl,rfl⟩),rfl,q _ (I1.hok.fresh (bK _))⟩
 have oG:MeetsIn X.prog X.w (Builtin.«dict.keys» ⟨[.ref d],[]⟩) (fun _ R s=>(∃ xs,s.heap.DictOfH (tupleKind (gS X.prog X.w)) d xs) /\
   R (.ok (.ret (.ref s.heap.objs.size))) { s with heap:=s.heap.push { cls:=.type "dict_keys",data:=.fields #[.ref d] } }) :=
  .of_wp fun A R s ⟨⟨ah,hm⟩,h⟩=>by
   refine aa ?_;unfold Builtin.Dict.noArgs;refine aa (wpAny_notOrdered_dict hm.typeIs ?_);show wpAny _ _ (pure d) _ _ s;refine af ?_;show wpAny _ _ (Builtin.Dict.showsAll d >>= _) _ _ s;unfold Builtin.Dict.showsAll;rw [ac (by rw [dx.sys];exact fh)]
   refine aa (af ?_);exact aa (aA (af ⟨_,rfl,h⟩))
 show wpAny _ _ (callWith br (.builtin "dict.keys") [.ref d] [] []) _ X.xe s1;exact method_meetsIn F.slot_dict_keys F.entry_dict_keys rfl (PySem.evalArgs_none ⟨rfl,dh.typeIs,F.args_dict_keys_1 _,_,oG,⟨xs,dh⟩,fin⟩)
theorem ZaO{α β γ:Type}{R:α->β->Prop}{l:List α}{m:List β}(h:Paired R l m){f:α->γ}{g:β->γ}(k:∀ a b,R a b->f a=g b):l.map f=m.map g:=by
 induction h with
 |nil=>rfl
 |cons h t ih=>rw [ei,ei,k _ _ h,ih]
theorem Po{α β:Type}(f:α->β):∀ l:List α,(l.map f).zip (l.map f)=l.map fun x=>(f x,f x)
 |[]=>rfl
 |x::l=>by rw [ei,E8,Po f l];rfl
theorem OH:∀ as:List Addr,Vals (as.map V.ref) (as.map Value.ref)
 |[]=>.nil
 |a::as=>.cons rfl (OH as)
theorem ZaR(BZ:X.calm=true):jk X (.builtin "sorted") (pA X.K X.prog X.w):=by
 intro pins s σ H vs us Q I r h;obtain⟨v,d,ah,ps,rfl,hv,⟨xs,dx⟩,hps,q⟩:=h;rw [Vals.ref1 r];have dh:=fk I dx;obtain⟨o,es,ep,ho,hx,sE,oi,_,wX⟩:=id dh;obtain⟨vw,_⟩:=(show ObjOk X.prog X.w H s.heap v (qU v d)from I.hok v _ hv);have vw:PySem.W.KdlKeysView s.heap v d:=vw;have hsz:es.size=xs.length:=by
  have:=au List.length oi;rw [aT,AK]at this;exact this
 have hl:ah.length=xs.length:=Paired.length dx.rel;have kx:xs.map (·.1)=ps.map pk:=by
  rw [<-hps];exact(ZaO dx.rel fun a b z=>z.1).symm
 have sq:∀ x∈xs,SqT X.K H x.2.1 (x.1.map kV):=by
  have all:∀ {l:List (List Key×V)}{m:List (List Key×Addr×Value)},KX X.K H l m->∀ x∈m,SqT X.K H x.2.1 (x.1.map kV):=by
   intro l m z
   induction z with
   |nil=>intro x hx;exact nomatch hx
   | @cons p q ps qs hq t ih =>
    intro x hx;rcases bv.mp hx with e |hx
    ·subst e;rw [<-hq.1];exact hq.2.1
    ·exact ih x hx
  exact all dx.rel
 have Ra:∀ x∈xs,∃ p:Int×Int,p∈ps/\x.1=pk p:=fun x hx=>by
  have:x.1∈ps.map pk:=by rw [<-kx];exact i3.mpr ⟨x,hx,rfl⟩
  obtain⟨p,hp,e⟩:=i3.mp this;exact⟨p,hp,e.symm⟩
 have tup:∀ x∈xs,∀ p:Int×Int,x.1=pk p->∃ o n t t',s.heap.get? x.2.1=some o/\o.cls=.type "tuple"/\o.data=.seq #[.int p.1 t,.int p.2 t'] n:=fun x hx p e=>by
  obtain⟨its,rv,⟨o,h1,h2,n,h3⟩,_⟩:=I.tuple (sq x hx);rw [e,vp]at rv;cases rv with
  | @cons a b as bs ha t =>
   cases t with
   | @cons a b as bs hb t =>
    cases t;obtain⟨t1,rfl⟩:=ha;obtain⟨t2,rfl⟩:=hb;exact⟨o,n,t1,t2,h1,h2,h3⟩
 have key:∀ x∈xs,∀ p:Int×Int,x.1=pk p->G.tupKeyC s.heap (fun _=>false) (.ref x.2.1)=some [Sum.inl p.1,Sum.inl p.2]:=fun x hx p e=>by
  obtain⟨o,n,t,t',h1,h2,h3⟩:=tup x hx p e;unfold G.tupKeyC;rw [ae (by simp [G.isTupObj,h1,h2])]
  simp only [tupKey,h1,h3];rfl
 have tups:∀ (l:List (List Key×Addr×Value)),(∀ x∈l,x∈xs)->∃ fs,TupsOf s.heap (fun _=>false) (l.map fun x=>Value.ref x.2.1) fs:=by
  intro l
  induction l with
  |nil=>exact fun _=>⟨[],.nil⟩
  |cons x l ih =>
   intro hm;obtain⟨fs,t⟩:=ih fun y hy=>hm y (dj _ hy);have hx:=hm x (cY ..);obtain⟨p,_,e⟩:=Ra x hx;obtain⟨o,n,t1,t2,h1,h2,h3⟩:=tup x hx p e;exact⟨.int p.1 t1::fs,.cons ⟨x.2.1,o,_,n,rfl,h1,h2,h3,rfl,fun _=>⟨_,_,rfl⟩,fun z=>by cases z⟩ t⟩
 obtain⟨fs,ht⟩:=tups xs fun _ h=>h;have hh:=I.ok.hd BZ;refine Zbf (vs:=xs.map fun x=>Value.ref x.2.1) (fs:=fs) (shape:=fun _=>false) (fun A' E' R hA hR=>?_) ht (fun u hu=>?_) ?_ fun uR h' tk p c hp hs k' zp Ku=>?_
 ·refine Z9W (Zbr (r:=v) (d:=d) sE hsz) (hA.trans hh) ⟨vw,ho⟩ (by rw [<-hl];exact dx.len) fun h' tk acc k' z i7=>?_
  have:acc.toList=xs.map fun x=>Value.ref x.2.1:=by
   apply List.ext_getElem?;intro i;rw [G8,dP];have e1:=entry_at oi i;by_cases hi:i<xs.length
   ·have ha:i<acc.size:=by rw [i7.1];exact hi
    obtain⟨en,e2,e3⟩:=i7.2 i acc[i] (AD ha);rw [AD ha,e3];rw [e2]at e1;cases q:xs[i]? with
    |none=>rw [q]at e1;cases e1
    |some x=>rw [q]at e1;cases e1;rfl
   ·rw [Ha (by rw [i7.1];omega),G9 (by omega)];rfl
  rw [this];exact hR h' tk k' z
 ·obtain⟨x,hx,rfl⟩:=i3.mp hu;obtain⟨p,_,e⟩:=Ra x hx;exact⟨_,key x hx p e⟩
 ·rw [aT,<-hl];exact dx.len
 ·have pl:uR.toList.Perm ((xs.map fun x=>Value.ref x.2.1).zip (xs.map fun x=>Value.ref x.2.1)):=by
   have e:=Array.perm_iff_toList_perm.mp hp;rw [pairsOf_toList]at e;exact e
  obtain⟨jU,px,ea⟩:=Iv pl (Po (fun x:List Key×Addr×Value=>Value.ref x.2.1) xs);obtain⟨qs,pq,eq⟩:=Iv (px.map (·.1)) kx;have lq:jU.length=qs.length:=by have:=au List.length eq;rw [aT,aT]at this;exact this
  have lx:jU.length=xs.length:=px.length_eq;have ix:∀ {j:Nat}{x:List Key×Addr×Value}{q:Int×Int},jU[j]?=some x->qs[j]?=some q->x∈xs/\x.1=pk q:=fun{j x q} h1 h2=>by
   refine⟨px.mem_iff.mp (gK h1),?_⟩;have e1:(jU.map (·.1))[j]?=some x.1:=by rw [dP,h1];rfl
   rw [eq,dP,h2]at e1;exact(Option.some.inj e1).symm
  have out:(uR.map (·.2)).toList=(jU.map (·.2.1)).map Value.ref:=by
   rw [Array.toList_map,ea,jL,jL];rfl
  have kk:∀ {i:Nat}{x:List Key×Addr×Value}{q:Int×Int},jU[i]?=some x->qs[i]?=some q->KK (G.tupKindC s.heap fun _=>false) uR i=[Sum.inl q.1,Sum.inl q.2]:=fun{i x q} h1 h2=>by
   obtain⟨m,e⟩:=ix h1 h2;have e2:uR[i]?=some (Value.ref x.2.1,Value.ref x.2.1):=by rw [<-G8,ea,dP,h1];rfl
   unfold KK;rw [e2];show(G.tupKeyC s.heap (fun _=>false) (Value.ref x.2.1)).getD []=_;rw [key x m q e];rfl
  have KN:qs.Pairwise (fun x y=>¬ y8 y x):=by
   rw [List.pairwise_iff_getElem];intro i j hi hj hij cc;have h1:jU[i]?=some jU[i]:=du (by omega)
   have h2:jU[j]?=some jU[j]:=du (by omega)
   have e:=hs i j (by omega) (by rw [pairsOf_size,aT];omega)
   rw [kk h1 (du hi),kk h2 (du hj)]at e;have e':lexLt itemOrd [Sum.inl qs[j].1,Sum.inl qs[j].2] [Sum.inl qs[i].1,Sum.inl qs[i].2]=false:=e;rw [(Lj _ _).mpr cc]at e';cases e'
  have bO:((jU.map (·.2.1)).map V.ref).length<=sizeLine:=by rw [aT,aT,lx,<-hl];exact dx.len
  refine⟨.ref p,upd H p (.lst ((jU.map (·.2.1)).map V.ref)),I.laid (t':=tk) (fun b o e=>k' b o e) zp ⟨bO,(jU.map (·.2.1)).map Value.ref,c,OH _,?_⟩,rfl,q p qs (jU.map (·.2.1)) (I.hok.fresh zp) pq KN (by rw [aT,lq]) fun j q' b h1 h2=>?_⟩
  ·rw [Ku,<-out]
  ·rw [dP]at h2;cases e:jU[j]? with
   |none=>rw [e]at h2;cases h2
   |some x =>
    rw [e]at h2;cases h2;obtain⟨m,e2⟩:=ix e h1;have:=sq x m;rw [e2,vp]at this;exact this
end
section
variable{prog:Program}{w:World}{A:Around}{E:Value->Shared->Prop}{s:Shared}
theorem ow{v d:Addr}{n ep:Nat}{od:Obj}{es:Array DictEntry}{Q:Value->Shared->Prop}(hv:s.heap.IsItemsView v d)(gb:s.heap.get? d=some od)(iI:od.data=.dict es ep)(hsz:es.size=n)
  (hQ:Q (.ref s.heap.objs.size) { s with heap:=s.heap.push { cls:=.type "dict_itemiterator",data:=.fields #[.none,.bool false,.ref d,.int 0 0,.int n 0,.int ep 0,.none,.none] } }) :
  wpAny (model prog w) A (pyIter (.ref v)) Q E s:=by
 obtain⟨ov,KM,hcv,Kh⟩:=id hv;refine wpAny_pyIter_slot hv.typeIs F.slot_dict_items_iter (cF F.slot_dict_items_iter hv.typeIs F.entry_dict_items_iter ?_ (F.args_dict_items_iter_1 _));unfold Builtin.«dict_items.__iter__»;refine aa (af ?_);refine aa ?_;unfold Builtin.Dict_items.dictOf;refine aa (aL KM Kh (x:=.ref d) rfl (af ?_));refine aa ?_;unfold Builtin.Dict_items.newIterator;refine aa (c9 gb iI ?_);refine aa (dS gb iI ?_);have gZ:Builtin.Dict_items.ownsTuple "dict_itemiterator" = true:=by decide
 simp only [gZ,cr];refine aA (af ⟨_,rfl,"dict_itemiterator",_,⟨_,fi _ rfl,rfl⟩,F.slot_dict_itemiterator_next.lookup,?_⟩)
  (by simp only [sizeOk,Builtin.Dict_items.ownedTupleFields,fY,gC,gB,lA,ak];omega)
 simpa [rawInt,hsz,Builtin.Dict_items.ownedTupleFields]using hQ
theorem oM{it d:Addr}{i n ep:Nat}{od:Obj}{es:Array DictEntry}{en:DictEntry}{ok ov:Value}{Q:Option Value->Shared->Prop}(dR:IsItemIter s.heap it d i n ep ok ov)
  (gb:s.heap.get? d=some od)(iI:od.data=.dict es ep)(hsz:es.size=n)(hx:es[i]?=some en)
  (hQ:∀ h',IsItemIterOut h' it d (i+1) n ep en.key en.val s.heap.objs.size ->
    h'.get? s.heap.objs.size=some { cls:=.type "tuple",data:=.seq #[en.key,en.val] }->h'.objs.size=s.heap.objs.size+1 ->
    (∀ b o,b≠it->s.heap.get? b=some o->h'.get? b=some o)->Q (some (.ref s.heap.objs.size)) { s with heap:=h' }) :
  wpAny (model prog w) A (pyNext (.ref it)) Q E s:=by
 obtain⟨hp,g,dr,tk,os⟩:=s;have hT:Shared.TypeIs ⟨hp,g,dr,tk,os⟩ (.ref it) "dict_itemiterator":=⟨_,dR,rfl⟩;unfold pyNext;refine aa (iy (d6 (name:=Str.ofString "__next__") hT F.slot_dict_itemiterator_next
  (cF F.slot_dict_itemiterator_next hT F.entry_dict_itemiterator_next ?_ (F.args_dict_itemiterator_next_1 _))))
 refine aa (af ?_);refine aa ?_;refine aa ?_
 first |refine aa (cJ hT (af ?_)) |refine aa (dB hT (af ?_))
 refine aa (lU dR rfl ?_);have gZ:Builtin.Dict_items.ownsTuple "dict_itemiterator" = true:=by decide
 simp only [gZ,cr];show wpAny _ _ (if (Value.ref d==Value.none)=true then _ else _) _ _ _;rw [ac (show ¬ ((Value.ref d==Value.none)=true)from fh)];refine aa (af ?_);refine aa (c9 gb iI ?_);rw [ac (by rw [hsz];simp)]
 refine aa (af ?_);refine aa (dS gb iI ?_);rw [ac (by simp)]
 refine af ?_;obtain⟨wW,B5⟩:=qv.mp hx;subst B5;simp only [show ¬ ((i:Int)<0)from by omega,bu,AO,AD wW]
 refine aa ?_
 first |refine aa (cJ hT (af ?_)) |refine aa (dB hT (af ?_))
 refine aa (jJ hT ?_);show wpAny _ _ (setField (.ref it) 3 (rawInt ((i:Int)+1)) >>= _) _ _ ⟨hp,g,dr,tk,os⟩;refine aa (d5 dR (by simp) fun h₁ B6 Cq=>?_)
 replace Cq:Heap.SameBut it hp h₁:=Cq
 replace B6:IsItemIter h₁ it d (i+1) n ep ok ov:=by
  have e:((i+1:Nat):Int)=(i:Int)+1:=by omega
  unfold IsItemIter;rw [e];simpa [rawInt]using B6
 have J5:Shared.TypeIs ⟨h₁,g,dr,tk,os⟩ (.ref it) "dict_itemiterator":=⟨_,B6,rfl⟩;refine aa (bw ?_);refine aa (jJ J5 ?_);refine aa (jJ J5 ?_);show wpAny _ _ (Builtin.Dict_items.pairFromOwner (.ref it) 6 es[i].key es[i].val) _ _ ⟨h₁,g,dr,tk,os⟩;unfold Builtin.Dict_items.pairFromOwner;refine aa (wpAny_newTuple ?_);have B7:IsItemIter (h₁.push { cls:=.type "tuple",data:=.seq #[es[i].key,es[i].val] }) it d (i+1) n ep ok ov:=dD _ B6;generalize FV:h₁.push { cls:=.type "tuple",data:=.seq #[es[i].key,es[i].val] }=h₂ at B7;have FZ:h₁.objs.size=hp.objs.size:=Cq.1;have sJ:it<hp.objs.size:=cy dR;have ht₂:h₂.get? hp.objs.size=some { cls:=.type "tuple",data:=.seq #[es[i].key,es[i].val] }:=by rw [<-FV,<-FZ];exact fi _ rfl
 have hz₂:h₂.objs.size=hp.objs.size+1:=by rw [<-FV,kq,FZ]
 have hk₂:∀ b o,b≠it->hp.get? b=some o->h₂.get? b=some o:=fun b o hb e=>by rw [<-FV];exact dD _ (Cq.extBut b o hb e)
 show wpAny _ _ (Builtin.Dict_items.ownedTupleIsFree (.ref it) >>= _) _ _ ⟨h₂,g,dr,tk,os⟩;rw [FZ]
 clear FV B6 Cq J5 FZ h₁
 refine aa ?_;unfold Builtin.Dict_items.ownedTupleIsFree;refine aa (aL B7 rfl (x:=.none) rfl (af ?_));simp only [cr];refine aa (aL B7 rfl (x:=ok) rfl ?_);refine aa (aL B7 rfl (x:=ov) rfl ?_);refine aa (d5 B7 (by simp) fun h₃ Kj Cr=>?_)
 replace Cr:Heap.SameBut it h₂ h₃:=Cr
 replace Kj:IsItemIter h₃ it d (i+1) n ep es[i].key ov:=Kj
 refine aa (d5 Kj (by simp) fun h₄ Kk Cs=>?_)
 replace Cs:Heap.SameBut it h₃ h₄:=Cs
 replace Kk:IsItemIter h₄ it d (i+1) n ep es[i].key es[i].val:=Kk
 refine aa (d5 Kk (by simp) fun h₅ Kl Ct=>?_)
 replace Ct:Heap.SameBut it h₄ h₅:=Ct
 replace Kl:IsItemIterOut h₅ it d (i+1) n ep es[i].key es[i].val hp.objs.size:=Kl
 refine aa (d5 Kl (by simp) fun h₆ Km Cu=>?_)
 replace Cu:Heap.SameBut it h₅ h₆:=Cu
 replace Km:IsItemIterOut h₆ it d (i+1) n ep es[i].key es[i].val hp.objs.size:=Km
 refine aa (wpAny_letGo (af (af ⟨_,rfl,af (hQ h₆ Km ?_ ?_ ?_)⟩)))
 ·exact Cu.extBut _ _ (kn sJ) (Ct.extBut _ _ (kn sJ) (Cs.extBut _ _ (kn sJ) (Cr.extBut _ _ (kn sJ) ht₂)))
 ·show h₆.objs.size=hp.objs.size+1;rw [Cu.1,Ct.1,Cs.1,Cr.1,hz₂]
 ·exact fun b o hb e=>Cu.extBut b o hb (Ct.extBut b o hb (Cs.extBut b o hb (Cr.extBut b o hb (hk₂ b o hb e))))
theorem oI{it d:Addr}{i n ep:Nat}{od:Obj}{es:Array DictEntry}{ok ov:Value}{Q:Option Value->Shared->Prop}(hh:A.handled=none)(dR:IsItemIter s.heap it d i n ep ok ov)
  (gb:s.heap.get? d=some od)(iI:od.data=.dict es ep)(hsz:es.size=n)(hx:n<=i)
  (hQ:∀ h',Heap.ExtBut it s.heap h'->Q none { s with heap:=h' }):wpAny (model prog w) A (pyNext (.ref it)) Q E s:=by
 have hT:s.TypeIs (.ref it) "dict_itemiterator":=⟨_,dR,rfl⟩;unfold pyNext;refine aa (iy (d6 (name:=Str.ofString "__next__") hT F.slot_dict_itemiterator_next
  (cF F.slot_dict_itemiterator_next hT F.entry_dict_itemiterator_next ?_ (F.args_dict_itemiterator_next_1 _))))
 refine aa (af ?_);refine aa ?_;refine aa ?_
 first |refine aa (cJ hT (af ?_)) |refine aa (dB hT (af ?_))
 refine aa (lU dR rfl ?_);have gZ:Builtin.Dict_items.ownsTuple "dict_itemiterator" = true:=by decide
 simp only [gZ,cr];show wpAny _ _ (if (Value.ref d==Value.none)=true then _ else _) _ _ s;rw [ac (show ¬ ((Value.ref d==Value.none)=true)from fh)];refine aa (af ?_);refine aa (c9 gb iI ?_);rw [ac (by rw [hsz];simp)]
 refine aa (af ?_);refine aa (dS gb iI ?_);rw [ac (by simp)]
 refine af ?_;have u0:es.size<=i:=by rw [hsz];exact hx
 simp only [show ¬ ((i:Int)<0)from by omega,bu,AO,Ha u0]
 refine aa ?_
 first |refine aa (cJ hT (af ?_)) |refine aa (dB hT (af ?_))
 show wpAny _ _ (setField (.ref it) 2 .none >>= _) _ _ s;refine aa (bD dR rfl (by simp) ?_)
 show wpAny _ _ (newExc (.type "StopIteration") [] >>= _) _ _ _;refine aa ?_;simp only [newExc,newTuple];refine aa (aA ?_ (by size_fits))
 refine aa (m:=firstArgMember _ _) (wpAny_of_eq (a:=Value.none) (by first |rfl |(simp only [firstArgMember];rfl)) ?_)
 refine aA ?_ (by size_fits)
 simp only [raiseNew];refine aa (wpAny_handled ?_);rw [show A.in1.handled=none from hh];refine aa (af (lV ?_));refine aa (wpAny_isInstance (T:="StopIteration") (b:=true) ⟨_,fi _ rfl,rfl⟩ isSubtype_stop ?_);exact af (hQ _ (((Heap.SameBut.update ..).extBut.push _).push _))
end
def jK(a:Addr)(ob:Obj):HO:=.ext fun h=>h.get? a=some ob
def my(a:Addr)(ob:Obj)(its:List (Addr×V)):It :=
 ⟨fun i H=>H a=some (jK a ob)/\i<its.length,fun i H x H'=>∃ T b v,x=.ref T/\H T=none/\H'=upd H T (.tup [.ref b,v])/\its[i]?=some (b,v),fun i H=>H a=some (jK a ob)/\its.length<=i⟩
theorem Z9N{P:Program}{w:World}{K:aq}{gE:List Expr}{kk:Nat}{dN:Pos}{a it:Addr}{ob:Obj}{es:Array DictEntry}{ep:Nat}{its:List (Addr×V)}(iI:ob.data=.dict es ep)(hsz:es.size=its.length)
  (hes:∀ (i:Nat)(b:Addr)(v:V),its[i]?=some (b,v)->∃ en,es[i]?=some en/\en.key=.ref b/\RelV v en.val) :
  iY P w K (.Tuple gE kk dN) (my a ob its) [it] it (fun i h=>∃ ok ov,IsItemIter h it a i its.length ep ok ov) where
 mem:=by simp
 obj:=fun i h st b hb=>by
  obtain⟨ok,ov,he⟩:=st;rw [show b=it by simpa using hb]
  exact⟨_,he,fun v q=>nomatch q⟩
 keep:=fun i h h' st k=>let ⟨ok,ov,he⟩:=st;⟨ok,ov,k it (by simp) _ he⟩
 item:=by
  intro X hP hw hK hc i pins s σ H E I hf st hg;subst hP hw hK;obtain⟨ok,ov,he⟩:=st;obtain⟨ha,hi⟩:=hg;obtain⟨gb,_⟩:=(show ObjOk X.prog X.w H s.heap a (jK a ob)from I.hok a _ ha);have hx:its[i]?=some its[i]:=du hi;obtain⟨en,e1,e2,rv⟩:=hes i its[i].1 its[i].2 hx;have sJ:it<s.heap.objs.size:=cy he;refine oM he gb iI hsz e1 fun h' ho hT hz hk=>?_;refine⟨_,rfl,wpAny_letOwnedTupleGo_items (s:={ s with heap:=h' }) ho fun mh B4 sb=>?_⟩
  have BS:mh.get? s.heap.objs.size=some { cls:=.type "tuple",data:=.seq #[en.key,en.val] }:=(sb.2 _ (kn sJ)).trans hT;have new:ObjOk X.prog X.w (upd H s.heap.objs.size (.tup [.ref its[i].1,its[i].2])) mh s.heap.objs.size (.tup [.ref its[i].1,its[i].2]) :=
   ⟨by show 2<=sizeLine;decide,[en.key,en.val],.cons (by rw [e2];rfl) (.cons rv .nil),⟨_,BS,rfl,_,rfl⟩⟩
  have I1:Inv X pins σ (upd H s.heap.objs.size (.tup [.ref its[i].1,its[i].2])) { s with heap:=mh,toks:=s.toks } :=
   I.turnedNew (ch:=[it]) (fun b ob hb q=>(sb.2 b (fun z=>hb (by simp [z]))).trans (hk b ob (fun z=>hb (by simp [z])) q)) hf (bK _) new
  refine⟨.ref s.heap.objs.size,_,I1,rfl,⟨_,_,_,rfl,I.hok.fresh (bK _),rfl,hx⟩,⟨_,_,B4⟩,fun b hb=>?_⟩;have j8:b<s.heap.objs.size:=by rw [show b=it by simpa using hb];exact sJ
  rw [aj (eF j8)];exact(hf b hb).1
 done:=by
  intro X hP hw hK hc i pins s σ H E I hf st hg;subst hP hw hK;obtain⟨ok,ov,he⟩:=st;obtain⟨ha,hi⟩:=hg;obtain⟨gb,_⟩:=(show ObjOk X.prog X.w H s.heap a (jK a ob)from I.hok a _ ha);obtain⟨f0,f1,f2,f3,f4,f5⟩:=hf it (by simp)
  exact oI (I.ok.hd hc) he gb iI hsz hi fun h' eb=>⟨rfl,I.turned (t':=s.toks) (fun b o hb q=>eb b o hb q) f0 f1 f3 f4 f5⟩
 self:=fun A i s Q E st h=>let ⟨_,_,he⟩:=st;PySem.W.kcp_self he h
def sS(K:aq)(P:Program)(w:World)(te:TE):TI:=fun σ H R=>te σ H fun x H1=>∃ d ah,x=.ref d/\DXe K P w H1 d ah /\
 ∀ ob its,its.length=ah.length->(∀ (i:Nat)(k:List Key)(v:V),ah[i]?=some (k,v)->∃ b,its[i]?=some (b,v)/\SqT K H1 b (k.map kV))->R (my d ob its) (upd H1 d (jK d ob))
section
variable{X:Cx}{e:Expr}{te:TE}{cz br dN:Pos}{gE:List Expr}{kk:Nat}
theorem Ou{K:aq}{H:Hp}{ah:List (List Key×V)}{xs:List (List Key×Addr×Value)}(r:KX K H ah xs){i:Nat}{p:List Key×V}(h:ah[i]?=some p):∃ q,xs[i]?=some q/\p.1=q.1/\SqT K H q.2.1 (p.1.map kV)/\RelV p.2 q.2.2:=by
 induction r generalizing i with
 |nil=>simp at h
 | @cons a b l m z t ih =>
  cases i with
  |zero=>cases h;exact⟨b,rfl,z⟩
  |succ n=>exact ih h
theorem Zbh(he:PE X e te)(fm:autoParam (attributeBase e "items" X.env (eval e X.env)=eval e X.env) aR._auto_1)(gY:autoParam ((cz.endLine==br.line)=true) aR._auto_1):PI X (.Tuple gE kk dN) (.Call (.Attribute e "items" cz) [] [] br) (sS X.K X.prog X.w te):=by
 intro pins s σ H R I h;refine yU (T:="dict") (id:="dict.items") fm rfl gY F.plainAttrs_dict F.slot_dict_items F.type_dict_items (aP (he pins s σ H _ I h) fun u s1 zz=>?_);obtain⟨x,H1,I1,rx,d,ah,ex,⟨xs,dx⟩,q⟩:=zz;subst ex;obtain rfl:u=Value.ref d:=rx;have dh:=fk I1 dx;obtain⟨ob,es,ep,gb,cu,iI,oi,_,wX⟩:=id dh;refine⟨dh.typeIs,fun b q=>?_,?_⟩
 ·cases q;exact⟨ob,gb,cu.2.1⟩
 have hl:ah.length=xs.length:=Paired.length dx.rel;have hsz:es.size=xs.length:=by
  have:=au List.length oi;rw [aT,AK]at this;exact this
 have ex:∃ its:List (Addr×V),its.length=ah.length/\(∀ (i:Nat)(k:List Key)(v:V),ah[i]?=some (k,v)->∃ b,its[i]?=some (b,v)/\SqT X.K H1 b (k.map kV))/\∀ (i:Nat)(b:Addr)(v:V),its[i]?=some (b,v)->∃ en,es[i]?=some en/\en.key=.ref b/\RelV v en.val:=by
  refine⟨(xs.zip ah).map fun z=>(z.1.2.1,z.2.2),by rw [aT,List.length_zip];omega,fun i k v hi=>?_,fun i b v hi=>?_⟩
  ·obtain⟨q,h1,h2,h3,h4⟩:=Ou dx.rel hi;refine⟨q.2.1,?_,h3⟩;have z:(xs.zip ah)[i]?=some (q,(k,v)):=List.getElem?_zip_eq_some.mpr ⟨h1,hi⟩;rw [dP,z];rfl
  ·rw [dP]at hi;cases e1:(xs.zip ah)[i]? with
   |none=>rw [e1]at hi;cases hi
   |some z =>
    rw [e1]at hi;cases hi;obtain⟨h1,h2⟩:=List.getElem?_zip_eq_some.mp e1;obtain⟨q,g1,g2,g3,g4⟩:=Ou dx.rel h2;rw [h1]at g1;cases g1;refine⟨_,(entry_at oi i).trans (by rw [h1];rfl),rfl,g4⟩
 obtain⟨its,FW,h1,h2⟩:=ex;have I2:Inv X pins σ H1 { s1 with heap:=s1.heap.push { cls:=.type "dict_items",data:=.fields #[.ref d] } }:=I1.kept (t':=s1.toks) fun b ob q=>dD _ q
 have sO:(s1.heap.push { cls:=.type "dict_items",data:=.fields #[.ref d] }).get? d=some ob:=dD _ gb;have I3:Inv X pins σ (upd H1 d (jK d ob)) { s1 with heap:=s1.heap.push { cls:=.type "dict_items",data:=.fields #[.ref d] } } :=
  A9 (s:={ s1 with heap:=s1.heap.push { cls:=.type "dict_items",data:=.fields #[.ref d] } }) (t':=s1.toks) I2 (by rw [dx.at_];exact True.intro) ⟨rfl,fun _ _=>rfl⟩ ⟨_,sO⟩ ⟨sO,⟨_,sO⟩,fun h1 h2 z k=>k _ z⟩
 have fin:wpAny (model X.prog X.w) X.A (pyIter (.ref s1.heap.objs.size)) (ES X pins σ (.Tuple gE kk dN) R) X.xe { s1 with heap:=s1.heap.push { cls:=.type "dict_items",data:=.fields #[.ref d] } }:=by
  refine ow (n:=its.length) (d:=d) ⟨_,fi _ rfl,rfl,rfl⟩ sO iI (by omega) (pj (tk:=s1.toks) I3 _ (Z9N iI (by omega) h2) ⟨.none,.none,fi _ rfl⟩ (q ob its FW h1))
 have oG:MeetsIn X.prog X.w (Builtin.«dict.items» ⟨[.ref d],[]⟩) (fun _ R s=>(∃ xs,s.heap.DictOfH (tupleKind (gS X.prog X.w)) d xs) /\
   R (.ok (.ret (.ref s.heap.objs.size))) { s with heap:=s.heap.push { cls:=.type "dict_items",data:=.fields #[.ref d] } }) :=
  .of_wp fun A R s ⟨⟨ah,hm⟩,h⟩=>by
   unfold Builtin.«dict.items»;refine aa ?_;unfold Builtin.Dict.noArgs;refine aa (wpAny_notOrdered_dict hm.typeIs ?_);show wpAny _ _ (pure d) _ _ s;refine af ?_;show wpAny _ _ (Builtin.Dict.showsAll d >>= _) _ _ s;unfold Builtin.Dict.showsAll;rw [ac (by rw [dx.sys];exact fh)]
   refine aa (af ?_);exact aa (aA (af ⟨_,rfl,h⟩))
 show wpAny _ _ (callWith br (.builtin "dict.items") [.ref d] [] []) _ X.xe s1;exact method_meetsIn F.slot_dict_items F.entry_dict_items rfl (PySem.evalArgs_none ⟨rfl,dh.typeIs,F.args_dict_items_1 _,_,oG,⟨xs,dh⟩,fin⟩)
end
theorem ZaT{a:Addr}{ob:Obj}{its:List (Addr×V)}{g:TG}{tb:TS}{D:dH}{σ:St}{H:Hp}(Pv:Nat->St->Hp->Prop)(h0:Pv 0 σ H)(hl:∀ i σ H,i<=its.length->Pv i σ H->H a=some (jK a ob))
  (hs:∀ i b v σ H T,its[i]?=some (b,v)->Pv i σ H->H T=none->g (.ref T) σ (upd H T (.tup [.ref b,v])) fun σ2 H2=>tb { D with nx:=Pv (i+1),ct:=Pv (i+1),bk:=D.nx } σ2 H2)(hd:∀ σ H,Pv its.length σ H->D.nx σ H) :
  ∃ W:Nat->Nat->St->Hp->Prop,(∃ m,W 0 m σ H)/\∀ i m σ H,W i m σ H ->
   ((my a ob its).stop i H/\D.nx σ H)\/((my a ob its).go i H/\∃ N:St->Hp->Prop,(∀ σ' H',N σ' H'->∃ m',m' < m/\W (i+1) m' σ' H')/\∀ x H',(my a ob its).yld i H x H'->g x σ H' fun σ2 H2=>tb { D with nx:=N,ct:=N,bk:=D.nx } σ2 H2):=by
 refine⟨fun i m σ H=>m=its.length-i/\i<=its.length/\Pv i σ H,⟨its.length,by simp,fj _,h0⟩,?_⟩
 rintro i m σ H ⟨rfl,hi,p⟩;have q:=hl i σ H hi p;by_cases cc:i<its.length
 ·refine .inr ⟨⟨q,cc⟩,Pv (i+1),fun σ' H' p'=>⟨its.length-(i+1),by omega,rfl,cc,p'⟩,fun x H' y=>?_⟩
  obtain⟨T,b,v,rfl,hT,rfl,h⟩:=y;exact hs i b v σ _ T h p hT
 ·have e:i=its.length:=by omega
  subst e;exact .inl ⟨⟨q,bK _⟩,hd σ H p⟩
def DC(K:aq)(P:Program)(w:World):R2:=fun y x H Q=>∃ a b ah k,y=.ref b/\x=.ref a/\DXe K P w H a ah/\SqT K H b (k.map kV)/\Q (.bl (!(aJ ah k).isSome)) H
section
variable{X:Cx}
theorem tK(hu:X.A.units+1<cLine):iB X (compareOp .NotIn) (DC X.K X.prog X.w):=by
 intro pins s σ H x y v u Q I rx ry h;obtain⟨a,b,ah,k,rfl,rfl,⟨xs,d⟩,hk,q⟩:=h;cases rx;cases ry;exact nN hu I d hk fun s' I'=>⟨.bl _,H,I',rfl,q⟩
end
section
variable{X:Cx}{e:Expr}{td:TE}{cz br:Pos}
end
theorem xK{K:aq}{a b:Addr}{xs ys:List V}{n:Nat}{g:TG}{tt:TT}{te:TE}{vs:List Nat}{σ:St}{H1:Hp}{D:Addr}{Qd:Hp->Prop}(Pv:Nat->Hp->Prop)(h0:Pv 0 (upd H1 D (.lst [])))(hn:n=min xs.length ys.length)(hl:∀ i H,Pv i H->SqL K H a xs/\SqL K H b ys)
  (hs:∀ i x y H T,xs[i]?=some x->ys[i]?=some y->Pv i H->H T=none->g (.ref T) (bV σ vs) (upd H T (.tup [x,y])) fun σ2 H2=>bV σ2 vs=bV σ vs/\tt σ2 H2 fun b H3 =>
    if b=true then te σ2 H3 fun y H4=>∃ acc,H4 D=some (.lst acc)/\acc.length<sizeLine/\Pv (i+1) (upd H4 D (.lst (acc++[y])))else Pv (i+1) H3)(hd:∀ H,Pv n H->Qd H) :
  ∃ W:Nat->Nat->Hp->Prop,(∃ m,W 0 m (upd H1 D (.lst [])))/\∀ i m H,W i m H ->
   ((Au K a b).stop i H/\Qd H)\/((Au K a b).go i H/\∃ Nx:Hp->Prop,(∀ H',Nx H'->∃ m',m' < m/\W (i+1) m' H')/\∀ x H',(Au K a b).yld i H x H'->g x (bV σ vs) H' fun σ2 H2=>bV σ2 vs=bV σ vs/\tt σ2 H2 fun b H3 =>
     if b=true then te σ2 H3 fun y H4=>∃ acc,H4 D=some (.lst acc)/\acc.length<sizeLine/\Nx (upd H4 D (.lst (acc++[y])))else Nx H3):=by
 refine⟨fun i m H=>m=n-i/\i<=n/\Pv i H,⟨n,by simp,fj _,h0⟩,?_⟩
 rintro i m H ⟨rfl,hi,p⟩;obtain⟨q1,q2⟩:=hl i H p;by_cases cc:i<n
 ·have l1:i<xs.length:=by omega
  have l2:i<ys.length:=by omega
  refine .inr ⟨⟨xs,ys,_,_,q1,q2,du l1,du l2⟩,Pv (i+1),fun H' p'=>⟨n-(i+1),by omega,rfl,cc,p'⟩,fun x H' y=>?_⟩
  obtain⟨T,u,v,rfl,hT,rfl,e1,e2⟩:=y;exact hs i u v _ T (e1 _ q1) (e2 _ q2) p hT
 ·have e:i=n:=by omega
  subst e;exact .inl ⟨⟨xs,ys,q1,q2,by omega⟩,hd H p⟩
theorem P7{X:Cx}{es:List Expr}{k:Nat}{t:uE}{n:Nat}{pos:Pos}(K:aq)(hK:X.K=K)(hc:X.calm=true)(h:Ay X es t)
  (hn:autoParam ((assignEach es X.env).length=n) aR._auto_1)(cp:autoParam ((assignEach es X.env).findIdx? (·.1)=none) aR._auto_1):PG X (.Tuple es k pos) (BN K n t):=by
 subst hK;exact zA hc h hn cp
end L2
end
section
namespace FM
open Fk
def d7(cs:List (Key×Nat))(k:Key):Nat:=((cs.find? fun x=>decide (x.1=k)).map (·.2)).getD 0
def jy(cs:List (Key×Nat))(k:Key)(v:Nat):List (Key×Nat):=if (cs.any fun x=>decide (x.1=k))=true then cs.map fun x=>if x.1=k then(x.1,v)else x else cs++[(k,v)]
def eU(cs:List (Key×Nat))(k:Key)(c:Nat):List (Key×Nat):=if 0<c then jy cs k (d7 cs k+c)else cs
theorem FL{cs:List (Key×Nat)}{k:Key}:(cs.any fun x=>decide (x.1=k))=true↔k∈cs.map (·.1):=by
 rw [List.any_eq_true,i3];exact⟨fun⟨x,h,e⟩=>⟨x,h,ap e⟩,fun⟨x,h,e⟩=>⟨x,h,ai e⟩⟩
theorem Oy(cs:List (Key×Nat))(k:Key)(v:Nat):(jy cs k v).map (·.1)=if k∈cs.map (·.1)then cs.map (·.1)else cs.map (·.1)++[k]:=by
 unfold jy;by_cases h:(cs.any fun x=>decide (x.1=k))=true
 ·rw [ae h,ae (FL.mp h),jL];refine qY fun x _=>?_;show(if x.1=k then(x.1,v)else x).1=x.1;split<;>rfl
 ·rw [ac h,ac (fun z=>h (FL.mpr z)),fL];rfl
theorem vY(x:Key×Nat)(cs:List (Key×Nat))(k:Key):d7 (x::cs) k=if x.1=k then x.2 else d7 cs k:=by
 unfold d7;by_cases h:x.1=k
 ·rw [List.find?_cons_of_pos (by simpa using h),ae h];rfl
 ·rw [List.find?_cons_of_neg (by simpa using h),ac h]
theorem NM{k k':Key}{v:Nat}(q:k'≠k):∀ cs:List (Key×Nat),d7 (cs.map fun x=>if x.1=k then(x.1,v)else x) k'=d7 cs k'
 |[]=>rfl
 |y::cs=>by
  rw [ei,vY,vY,NM q cs];by_cases e2:y.1=k
  ·rw [ae e2,ac (by rw [e2];exact Ne.symm q),ac (by rw [e2];exact Ne.symm q)]
  ·rw [ac e2]
theorem NP{k:Key}{v:Nat}:∀ {cs:List (Key×Nat)},k∈cs.map (·.1)->d7 (cs.map fun x=>if x.1=k then(x.1,v)else x) k=v
 |[],h=>by simp at h
 |y::cs,h=>by
  rw [ei,vY];by_cases e2:y.1=k
  ·rw [ae e2,ae (show y.1=k from e2)]
  ·rw [ac e2,ac e2];rw [ei,bv]at h;exact NP (h.resolve_left fun z=>e2 z.symm)
theorem PJ{k k':Key}{v:Nat}:∀ {cs:List (Key×Nat)},k∉cs.map (·.1)->d7 (cs++[(k,v)]) k'=if k'=k then v else d7 cs k'
 |[],h=>by
  rw [AE,vY];by_cases q:k'=k
  ·rw [ae q,ae q.symm]
  ·rw [ac q,ac (Ne.symm q)]
 |x::cs,h=>by
  rw [ei,bv,b8]at h;rw [E5,vY,vY,PJ h.2];by_cases q:k'=k
  ·rw [ae q,ae q,ac (by rw [q];exact fun z=>h.1 z.symm)]
  ·rw [ac q,ac q]
theorem sy(cs:List (Key×Nat))(k:Key)(v:Nat)(k':Key):d7 (jy cs k v) k'=if k'=k then v else d7 cs k':=by
 unfold jy;by_cases h:(cs.any fun x=>decide (x.1=k))=true
 ·rw [ae h];by_cases q:k'=k
  ·rw [ae q,q];exact NP (FL.mp h)
  ·rw [ac q];exact NM q cs
 ·rw [ac h];exact PJ fun z=>h (FL.mpr z)
structure Cnt(cs:List (Key×Nat))(us:List Key):Prop where
 nd:(cs.map (·.1)).Nodup
 get:∀ k,d7 cs k=countIn us k
 mem:∀ k,k∈cs.map (·.1)↔k∈us
theorem Cnt.nil:Cnt [] []:=⟨uI,fun _=>rfl,fun k=>by simp⟩
theorem ZbO(us vs:List Key)(k:Key):countIn (us++vs) k=countIn us k+countIn vs k:=by
 unfold countIn;rw [List.filter_append,gC]
theorem Zbo(c:Nat)(k k':Key):countIn (List.replicate c k) k'=if k'=k then c else 0:=by
 unfold countIn
 induction c with
 |zero=>simp
 |succ c ih =>
  rw [List.replicate_succ];by_cases q:k'=k
  ·rw [zg (by simp [q]),gB,ih,ae q,ae q]
  ·rw [zh (by simp;exact fun z=>q z.symm),ih,ac q,ac q]
theorem Cnt.add{cs:List (Key×Nat)}{us:List Key}(h:Cnt cs us)(k:Key)(c:Nat):Cnt (eU cs k c) (us++List.replicate c k):=by
 unfold eU;by_cases hc:0<c
 ·rw [ae hc];refine⟨?_,fun k'=>?_,fun k'=>?_⟩
  ·rw [Oy];split
   ·exact h.nd
   ·rename_i hn;refine qZ.mpr ⟨h.nd,by simp,fun a ha b hb z=>hn ?_⟩
    rw [<-dq.mp hb,<-z];exact ha
  ·rw [sy,ZbO,Zbo,h.get,h.get];by_cases q:k'=k
   ·rw [ae q,ae q,q]
   ·rw [ac q,ac q];rfl
  ·rw [Oy,dy];have hr:k'∈List.replicate c k↔k'=k:=by
    rw [List.mem_replicate];exact⟨fun z=>z.2,fun z=>⟨by omega,z⟩⟩
   rw [hr];split
   ·rename_i hm;rw [h.mem];refine⟨.inl,fun z=>z.elim id fun z=>?_⟩;rw [z];exact(h.mem k).mp hm
   ·rw [dy,h.mem,dq]
 ·have:c=0:=by omega
  subst this;rw [ac hc];simpa using h
def lI(l:List Atom)(cs:List (Key×Nat)):List (Key×Nat):=l.foldl (fun cs x=>eU (eU cs (x.element,x.isotope) 1) (1,0) x.hydrogens) cs
theorem NU:∀ (l:List Atom){cs:List (Key×Nat)}{us:List Key},Cnt cs us->Cnt (lI l cs) (us++l.flatMap fun x=>(x.element,x.isotope)::List.replicate x.hydrogens (1,0))
 |[],cs,us,h=>by simpa [lI]using h
 |x::l,cs,us,h=>by
  have h1:=(h.add (x.element,x.isotope) 1).add (1,0) x.hydrogens;have:=NU l h1;have e:us++(x::l).flatMap (fun x=>(x.element,x.isotope)::List.replicate x.hydrogens (1,0))=(us++List.replicate 1 (x.element,x.isotope)++List.replicate x.hydrogens (1,0))++l.flatMap fun x=>(x.element,x.isotope)::List.replicate x.hydrogens (1,0):=by
   rw [List.flatMap_cons];simp
  rw [e];exact this
theorem Ji(cs:List (Key×Nat))(k:Key)(c:Nat):(eU cs k c).length<=cs.length+1:=by
 unfold eU jy;split
 ·split
  ·rw [aT];omega
  ·rw [gC];simp
 ·omega
theorem HS:∀ (l:List Atom)(cs:List (Key×Nat)),(lI l cs).length<=cs.length+2*l.length
 |[],cs=>by simp [lI]
 |x::l,cs=>by
  have:=HS l (eU (eU cs (x.element,x.isotope) 1) (1,0) x.hydrogens);have a:=Ji cs (x.element,x.isotope) 1;have b:=Ji (eU cs (x.element,x.isotope) 1) (1,0) x.hydrogens;show(lI l (eU (eU cs (x.element,x.isotope) 1) (1,0) x.hydrogens)).length<=_;rw [gB];omega
def Bf(x y:Key):Prop:=x.1<y.1\/(x.1=y.1/\x.2<y.2)
theorem Pz(x y:Key):less (keyRow x) (keyRow y)=true↔Bf x y:=by
 unfold keyRow Bf;simp [less]
theorem HR(k:Key):∀ (l:List Key)(x:Key),x∈insertKey k l↔x=k\/x∈l
 |[],x=>by simp [insertKey]
 |y::l,x=>by
  unfold insertKey;split
  ·rw [bv]
  ·split
   ·rename_i h;rw [bv,h];exact⟨fun z=>.inr z,fun z=>z.elim (fun z=>.inl z) id⟩
   ·rw [bv,HR k l x,bv];exact⟨fun z=>z.elim (fun z=>.inr (.inl z)) fun z=>z.elim .inl fun z=>.inr (.inr z),fun z=>z.elim (fun z=>.inr (.inl z)) fun z=>z.elim .inl fun z=>.inr (.inr z)⟩
theorem Bf.trans{x y z:Key}(a:Bf x y)(b:Bf y z):Bf x z:=by unfold Bf at *;omega
theorem Bf.irrefl(x:Key):¬ Bf x x:=by unfold Bf;omega
theorem Bf.tri{x y:Key}(h1:¬ Bf x y)(h2:x≠y):Bf y x:=by
 unfold Bf at *
 have:¬ (x.1=y.1/\x.2=y.2):=fun⟨a,b⟩=>h2 (Prod.ext a b);omega
theorem NK(k:Key):∀ {l:List Key},l.Pairwise Bf->(insertKey k l).Pairwise Bf
 |[],_=>List.pairwise_singleton ..
 |y::l,h=>by
  obtain⟨h1,h2⟩:=AF.mp h;unfold insertKey;split
  ·rename_i q;have q:=(Pz k y).mp q;exact List.Pairwise.cons (fun z hz=>(bv.mp hz).elim (fun e=>by rw [e];exact q) fun hz=>q.trans (h1 z hz)) h
  ·rename_i q;split
   ·exact h
   ·rename_i e;refine List.Pairwise.cons (fun z hz=>?_) (NK k h2);rcases(HR k l z).mp hz with rfl |hz
    ·exact Bf.tri (fun w=>q ((Pz _ _).mpr w)) e
    ·exact h1 z hz
theorem NN:∀ l:List Key,(keysOf l).Pairwise Bf
 |[]=>List.Pairwise.nil
 |x::l=>NK x (NN l)
theorem HW(x:Key):∀ l:List Key,x∈keysOf l↔x∈l
 |[]=>by simp [keysOf]
 |y::l=>by
  show x∈insertKey y (keysOf l)↔_;rw [HR,HW x l,bv]
theorem OB:∀ {l m:List Key},l.Pairwise Bf->m.Pairwise Bf->(∀ x,x∈l↔x∈m)->l=m
 |[],[],_,_,_=>rfl
 |[],y::m,_,_,h=>by have:=(h y).mpr (cY ..);simp at this
 |x::l,[],_,_,h=>by have:=(h x).mp (cY ..);simp at this
 |x::l,y::m,hl,hm,h=>by
  obtain⟨l1,l2⟩:=AF.mp hl;obtain⟨m1,m2⟩:=AF.mp hm;have e:x=y:=by
   rcases bv.mp ((h x).mp (cY ..))with e |hx
   ·exact e
   ·rcases bv.mp ((h y).mpr (cY ..))with e |hy
    ·exact e.symm
    ·exact absurd ((m1 x hx).trans (l1 y hy)) (Bf.irrefl _)
  subst e;refine au (x::·) (OB l2 m2 fun z=>?_);have hx:∀ {n:List Key},(∀ z∈n,Bf x z)->x∉n:=fun hn hm=>Bf.irrefl _ (hn x hm);have hz:=h z;rw [bv,bv]at hz;by_cases q:z=x
  ·subst q;exact⟨fun w=>absurd w (hx l1),fun w=>absurd w (hx m1)⟩
  ·exact⟨fun w=>(hz.mp (.inr w)).resolve_left q,fun w=>(hz.mpr (.inr w)).resolve_left q⟩
end FM
end
section
namespace MX
def sm:Nat->(Nat->Int)->Int
 |0,_=>0
 |n+1,f=>sm n f+f n
theorem Z4V{n:Nat}{f g:Nat->Int}(h:∀ i,i<n->f i=g i):sm n f=sm n g:=by
 induction n with
 |zero=>rfl
 |succ n ih=>unfold sm;rw [ih fun i hi=>h i (by omega),h n (by omega)]
theorem wd{n:Nat}{f:Nat->Int}(h:∀ i,i<n->f i=0):sm n f=0:=by
 induction n with
 |zero=>rfl
 |succ n ih=>unfold sm;rw [ih fun i hi=>h i (by omega),h n (by omega)];rfl
theorem Bm(n:Nat)(f g:Nat->Int):sm n (fun i=>f i+g i)=sm n f+sm n g:=by
 induction n with
 |zero=>rfl
 |succ n ih=>show sm n (fun i=>f i+g i)+(f n+g n)=(sm n f+f n)+(sm n g+g n);rw [ih];omega
theorem Jp(n:Nat)(c:Int)(f:Nat->Int):sm n (fun i=>c*f i)=c*sm n f:=by
 induction n with
 |zero=>show(0:Int)=c*0;omega
 |succ n ih=>unfold sm;rw [ih,Int.mul_add]
theorem Py(n m:Nat)(f:Nat->Nat->Int):sm n (fun i=>sm m (fun j=>f i j))=sm m (fun j=>sm n (fun i=>f i j)):=by
 induction n with
 |zero=>exact(wd fun j _=>rfl).symm
 |succ n ih =>
  show sm n (fun i=>sm m fun j=>f i j)+sm m (fun j=>f n j)=sm m fun j=>sm n (fun i=>f i j)+f n j;rw [ih,Bm]
theorem Bh{n a:Nat}(h:a<n)(g:Nat->Int):sm n (fun v=>if v=a then g v else 0)=g a:=by
 induction n with
 |zero=>omega
 |succ n ih =>
  show sm n (fun v=>if v=a then g v else 0)+(if n=a then g n else 0)=g a;by_cases e:n=a
  ·subst e;rw [ae rfl,wd fun i hi=>ac (by omega)]
   omega
  ·rw [ac e,ih (by omega)]
   omega
theorem OC{n:Nat}{f:Nat->Int}(h:∀ i,i<n->0<=f i):0<=sm n f:=by
 induction n with
 |zero=>exact Int.le_refl 0
 |succ n ih=>unfold sm;have:=ih fun i hi=>h i (by omega);have:=h n (by omega);omega
theorem DZ{n:Nat}{f g:Nat->Int}(h:∀ i,i<n->f i<=g i):sm n f<=sm n g:=by
 induction n with
 |zero=>exact Int.le_refl 0
 |succ n ih=>unfold sm;have:=ih fun i hi=>h i (by omega);have:=h n (by omega);omega
theorem yC{n k:Nat}{f:Nat->Int}{b:Int}(hb:b<=0)(hk:b<=f k)(h:∀ i,i<n->i≠k->0<=f i):b<=sm n f:=by
 induction n with
 |zero=>exact hb
 |succ n ih =>
  unfold sm;by_cases e:n=k
  ·subst e;have:0<=sm n f:=OC fun i hi=>h i (by omega) (by omega)
   omega
  ·have:=ih fun i hi hn=>h i (by omega) hn
   have:=h n (by omega) e
   omega
theorem t9{n:Nat}{f g:Nat->Int}(h:∀ i,i<n->(f i-g i) % 2=0):(sm n f-sm n g) % 2=0:=by
 induction n with
 |zero=>rfl
 |succ n ih=>unfold sm;have:=ih fun i hi=>h i (by omega);have:=h n (by omega);omega
structure Bd where
 a:Nat
 b:Nat
 o:Int
structure Gr where
 n:Nat
 m:Nat
 bd:Nat->Bd
structure Gr.Ok(G:Gr):Prop where
 ne:∀ e,e<G.m->(G.bd e).a≠(G.bd e).b
 an:∀ e,e<G.m->(G.bd e).a<G.n
 bn:∀ e,e<G.m->(G.bd e).b<G.n
 lo:∀ e,e<G.m->1<=(G.bd e).o/\(G.bd e).o<=3
def Gr.room(G:Gr)(t:Int)(e:Nat):Int:=if t=1 then 3-(G.bd e).o else(G.bd e).o-1
def inc(d:Bd)(v:Nat):Int:=(if v=d.a then 1 else 0)+(if v=d.b then 1 else 0)
def Gr.bdr(G:Gr)(δ:Nat->Int)(v:Nat):Int:=sm G.m fun e=>inc (G.bd e) v*δ e
structure Gr.Chg(G:Gr)(δ:Nat->Int):Prop where
 up:∀ e,e<G.m->δ e<=3-(G.bd e).o
 dn:∀ e,e<G.m->-((G.bd e).o-1)<=δ e
 sum:∀ v,v<G.n->G.bdr δ v=0
inductive Lab where
 |un
 |one (t:Int)
 |two (r:Nat)
 deriving DecidableEq
def Lab.has:Lab->Int->Prop
 |.un,_=>False
 |.one t,s=>t=s
 |.two _,_=>True
def Lab.y:Lab->Int
 |.one t=>t
 |_=>0
structure lv(G:Gr)(c:Nat)(T:Int)(aY:Nat->Lab)(st:Nat->Nat):Prop where
 sgn:∀ v t,v<G.n->aY v=.one t->t=1\/t=-1
 root:∀ v r,v<G.n->aY v=.two r->r<G.n/\aY r=.two r
 out:∀ e t,e<G.m->e≠c->(t=1\/t=-1)->0<G.room t e->((aY (G.bd e).a).has t->aY (G.bd e).b≠.un)/\((aY (G.bd e).b).has t->aY (G.bd e).a≠.un)
 two:∀ e t,e<G.m->e≠c->(t=1\/t=-1)->0<G.room t e->(aY (G.bd e).a).has t->(aY (G.bd e).b).has t ->
  (∃ r,aY (G.bd e).a=.two r/\aY (G.bd e).b=.two r)\/(G.room t e=1/\((aY (G.bd e).a=.two (G.bd e).a/\st (G.bd e).a=e)\/(aY (G.bd e).b=.two (G.bd e).b/\st (G.bd e).b=e)))
 stem:∀ r,r<G.n->aY r=.two r->st r=c\/(st r<G.m/\st r≠c/\∃ s,(s=1\/s=-1)/\0<G.room s (st r)/\(((G.bd (st r)).a=r/\(aY (G.bd (st r)).b).has s)\/((G.bd (st r)).b=r/\(aY (G.bd (st r)).a).has s)))
 cm:c<G.m
 ca:aY (G.bd c).a=.one (-T)\/(aY (G.bd c).a=.two (G.bd c).a/\st (G.bd c).a=c)
 cb:aY (G.bd c).b=.one (-T)\/(aY (G.bd c).b=.two (G.bd c).b/\st (G.bd c).b=c)
 cT:T=1\/T=-1
def wt(aY:Nat->Lab)(st:Nat->Nat)(x y e:Nat)(r:Nat):Int:=if aY x=.two r/\aY y≠.two r then(if st r=e then -1 else 1)else 0
section
variable{G:Gr}{c:Nat}{T:Int}{aY:Nat->Lab}{st:Nat->Nat}{δ:Nat->Int}
theorem oq(h:G.Ok){e:Nat}(he:e<G.m)(y:Nat->Int):sm G.n (fun v=>y v*inc (G.bd e) v)=y (G.bd e).a+y (G.bd e).b:=by
 have e1:(fun v=>y v*inc (G.bd e) v)=fun v=>(if v=(G.bd e).a then y v else 0)+(if v=(G.bd e).b then y v else 0):=by
  funext v
  unfold inc;split<;>split<;>omega
 rw [e1,Bm,Bh (h.an e he),Bh (h.bn e he)]
theorem vI(h:G.Ok)(hd:G.Chg δ)(y:Nat->Int):sm G.m (fun e=>δ e*(y (G.bd e).a+y (G.bd e).b))=0:=by
 have e1:sm G.n (fun v=>y v*G.bdr δ v)=0:=wd fun v hv=>by rw [hd.sum v hv];omega
 have e2:sm G.n (fun v=>y v*G.bdr δ v)=sm G.n fun v=>sm G.m fun e=>y v*(inc (G.bd e) v*δ e):=Z4V fun v _=>(Jp _ _ _).symm;rw [e2,Py]at e1;rw [<-e1];refine Z4V fun e he=>?_;rw [<-oq h he y];rw [<-Jp];refine Z4V fun v _=>?_;rw [Int.mul_comm (δ e),Int.mul_assoc]
theorem qj(C:lv G c T aY st)(h:G.Ok){x y e:Nat}(hx:x<G.n):sm G.n (fun r=>wt aY st x y e r)=(match aY x with |.two r=>if aY y≠.two r then(if st r=e then -1 else 1)else 0 |_=>0):=by
 cases hl:aY x with
 |un=>exact wd fun r _=>by unfold wt;rw [ac];rw [hl];rintro⟨z,_⟩;cases z
 |one t=>exact wd fun r _=>by unfold wt;rw [ac];rw [hl];rintro⟨z,_⟩;cases z
 |two r0 =>
  have hr:=(C.root x r0 hx hl).1;have:(fun r=>wt aY st x y e r)=fun r=>if r=r0 then(if aY y≠.two r then(if st r=e then -1 else 1)else 0)else 0:=by
   funext r
   unfold wt;rw [hl];by_cases q:r=r0
   ·subst q;simp
   ·rw [ac q,ac];rintro⟨z,_⟩;cases z;exact q rfl
  rw [this,Bh hr]
theorem wB(C:lv G c T aY st)(h:G.Ok)(hd:G.Chg δ)(hc:δ c=T){r:Nat}(hr:r<G.n) :
  0<=sm G.m (fun e=>(δ e).natAbs*(wt aY st (G.bd e).a (G.bd e).b e r+wt aY st (G.bd e).b (G.bd e).a e r)):=by
 by_cases hm:aY r=.two r
 ·have ev:(sm G.m (fun e=>(δ e).natAbs*(wt aY st (G.bd e).a (G.bd e).b e r+wt aY st (G.bd e).b (G.bd e).a e r))-sm G.m (fun e=>δ e*((if aY (G.bd e).a=.two r then 1 else 0)+(if aY (G.bd e).b=.two r then 1 else 0)))) % 2=0:=by
   refine t9 fun e he=>?_;unfold wt;by_cases q1:aY (G.bd e).a=.two r<;>by_cases q2:aY (G.bd e).b=.two r
   ·simp [q1,q2]
   ·simp only [q1,q2,F5,cP,bz,i5,and_false,cr,bu];split<;>omega
   ·simp only [q1,q2,F5,cP,bz,i5,and_false,cr,bu];split<;>omega
   ·simp [q1,q2]
  rw [vI h hd (fun v=>if aY v=.two r then 1 else 0)]at ev;have lb:(-1:Int)<=sm G.m (fun e=>(δ e).natAbs*(wt aY st (G.bd e).a (G.bd e).b e r+wt aY st (G.bd e).b (G.bd e).a e r)):=by
   refine yC (k:=st r) (by decide) ?_ fun e he bQ=>?_
   ·
    by_cases q1:aY (G.bd (st r)).a=.two r<;>by_cases q2:aY (G.bd (st r)).b=.two r
    ·simp [wt,q1,q2]
    ·have small:(δ (st r)).natAbs<=1:=by
      rcases C.stem r hr hm with z |⟨z1,z2,s,hs,jw,z3⟩
      ·rw [z,hc];rcases C.cT with e |e<;>rw [e]<;>decide
      ·have hh:(aY (G.bd (st r)).a).has s:=by rw [q1];trivial
       have Kq:(aY (G.bd (st r)).b).has s:=by
        rcases z3 with⟨_,z⟩ |⟨z,_⟩
        ·exact z
        ·rw [z]at q2;exact absurd hm q2
       have:=C.two (st r) s z1 z2 hs jw hh Kq;rcases this with⟨r2,a1,a2⟩ |⟨a1,_⟩
       ·rw [q1]at a1;cases a1;exact absurd a2 q2
       ·have u:=hd.up _ z1;have d:=hd.dn _ z1;unfold Gr.room at a1;split at a1<;>omega
     simp only [wt,q1,q2,F5,cP,bz,i5,and_false,cr,bu];omega
    ·have small:(δ (st r)).natAbs<=1:=by
      rcases C.stem r hr hm with z |⟨z1,z2,s,hs,jw,z3⟩
      ·rw [z,hc];rcases C.cT with e |e<;>rw [e]<;>decide
      ·have hh:(aY (G.bd (st r)).b).has s:=by rw [q2];trivial
       have Kq:(aY (G.bd (st r)).a).has s:=by
        rcases z3 with⟨z,_⟩ |⟨_,z⟩
        ·rw [z]at q1;exact absurd hm q1
        ·exact z
       have:=C.two (st r) s z1 z2 hs jw Kq hh;rcases this with⟨r2,a1,a2⟩ |⟨a1,_⟩
       ·rw [q2]at a2;cases a2;exact absurd a1 q1
       ·have u:=hd.up _ z1;have d:=hd.dn _ z1;unfold Gr.room at a1;split at a1<;>omega
     simp only [wt,q1,q2,F5,cP,bz,i5,and_false,cr,bu];omega
    ·simp [wt,q1,q2]
   ·have hn:(if st r=e then(-1:Int)else 1)=1:=ac fun z=>bQ z.symm;unfold wt;rw [hn];by_cases q1:aY (G.bd e).a=.two r<;>by_cases q2:aY (G.bd e).b=.two r
    ·simp [q1,q2]
    ·simp only [q1,q2,F5,cP,bz,i5,and_false,cr,bu];omega
    ·simp only [q1,q2,F5,cP,bz,i5,and_false,cr,bu];omega
    ·simp [q1,q2]
  omega
 ·
  rw [wd]
  ·exact Int.le_refl 0
  ·intro e he;have q1:aY (G.bd e).a≠.two r:=fun z=>hm (C.root _ r (h.an e he) z).2;have q2:aY (G.bd e).b≠.two r:=fun z=>hm (C.root _ r (h.bn e he) z).2;simp [wt,q1,q2]
def Wx(aY:Nat->Lab)(st:Nat->Nat)(x y e:Nat):Int:=match aY x with
 |.two r=>if aY y≠.two r then(if st r=e then -1 else 1)else 0
 |_=>0
theorem oB(C:lv G c T aY st)(h:G.Ok)(hd:G.Chg δ){e:Nat}(he:e<G.m)(hec:e≠c) :
  δ e*((aY (G.bd e).a).y+(aY (G.bd e).b).y)+(δ e).natAbs*(Wx aY st (G.bd e).a (G.bd e).b e+Wx aY st (G.bd e).b (G.bd e).a e)<=0:=by
 have up:=hd.up e he;have dn:=hd.dn e he;have rm:∀ t:Int,(t=1\/t=-1)->0<t*δ e->0<G.room t e:=fun t ht hp=>by
  unfold Gr.room;rcases ht with rfl |rfl
  ·rw [ae rfl];omega
  ·rw [ac (by decide)];omega
 have C2:=fun t ht hp=>C.two e t he hec ht (rm t ht hp);have C1:=fun t ht hp=>C.out e t he hec ht (rm t ht hp);have sa:=fun t z=>C.sgn (G.bd e).a t (h.an e he) z;have sb:=fun t z=>C.sgn (G.bd e).b t (h.bn e he) z;unfold Wx;generalize (G.bd e).a=x at *
 generalize (G.bd e).b=y at *
 generalize δ e=d at *
 cases lx:aY x with
 |un =>
  cases ly:aY y with
  |un=>simp [Lab.y]
  |one t =>
   rw [lx,ly]at C1;simp only [Lab.y];have ht:=sb t ly;have:¬ 0<t*d:=fun hp=>(C1 t ht hp).2 rfl rfl;rcases ht with rfl |rfl<;>omega
  |two r =>
   rw [lx,ly]at C1;have a1:¬ 0<1*d:=fun hp=>(C1 1 (.inl rfl) hp).2 trivial rfl;have a2:¬ 0 < -1*d:=fun hp=>(C1 (-1) (.inr rfl) hp).2 trivial rfl;have:d=0:=by omega
   rw [this];simp
 |one t =>
  have ht:=sa t lx;cases ly:aY y with
  |un =>
   rw [lx,ly]at C1;simp only [Lab.y];have:¬ 0<t*d:=fun hp=>(C1 t ht hp).1 rfl rfl;rcases ht with rfl |rfl<;>omega
  |one u =>
   have hu:=sb u ly;simp only [Lab.y];by_cases q:t=u
   ·subst q;have:¬ 0<t*d:=fun hp=>by
     rcases C2 t ht hp (by rw [lx];rfl) (by rw [ly];rfl)with⟨r,z,_⟩ |⟨_,⟨z,_⟩ |⟨z,_⟩⟩
     ·rw [lx]at z;cases z
     ·rw [lx]at z;cases z
     ·rw [ly]at z;cases z
    rcases ht with rfl |rfl<;>omega
   ·have:t+u=0:=by omega
    rw [this];simp
  |two r =>
   simp only [Lab.y];rw [ae (by intro z;cases z)]
   by_cases hp:0<t*d
   ·rcases C2 t ht hp (by rw [lx];rfl) (by rw [ly];trivial)with⟨r',z,_⟩ |⟨_,⟨z,_⟩ |⟨z1,z2⟩⟩
    ·rw [lx]at z;cases z
    ·rw [lx]at z;cases z
    ·rw [ly]at z1;cases z1;rw [ae z2];rcases ht with rfl |rfl<;>omega
   ·have:(if st r=e then(-1:Int)else 1)<=1:=by split<;>decide
    generalize (if st r=e then(-1:Int)else 1)=w at this;have hn:(0:Int)<=(d.natAbs:Int):=Int.natCast_nonneg _;have h2:(d.natAbs:Int)*(0+w)<=(d.natAbs:Int)*1:=Hd (by omega) hn
    rcases ht with rfl |rfl<;>omega
 |two r =>
  cases ly:aY y with
  |un =>
   rw [lx,ly]at C1;have a1:¬ 0<1*d:=fun hp=>(C1 1 (.inl rfl) hp).1 trivial rfl;have a2:¬ 0 < -1*d:=fun hp=>(C1 (-1) (.inr rfl) hp).1 trivial rfl;have:d=0:=by omega
   rw [this];simp
  |one t =>
   have ht:=sb t ly;simp only [Lab.y];rw [ae (by intro z;cases z)]
   by_cases hp:0<t*d
   ·rcases C2 t ht hp (by rw [lx];trivial) (by rw [ly];rfl)with⟨r',_,z⟩ |⟨_,⟨z1,z2⟩ |⟨z,_⟩⟩
    ·rw [ly]at z;cases z
    ·rw [lx]at z1;cases z1;rw [ae z2];rcases ht with rfl |rfl<;>omega
    ·rw [ly]at z;cases z
   ·have:(if st r=e then(-1:Int)else 1)<=1:=by split<;>decide
    generalize (if st r=e then(-1:Int)else 1)=w at this;have hn:(0:Int)<=(d.natAbs:Int):=Int.natCast_nonneg _;have h2:(d.natAbs:Int)*(w+0)<=(d.natAbs:Int)*1:=Hd (by omega) hn
    rcases ht with rfl |rfl<;>omega
  |two u =>
   simp only [Lab.y];by_cases q:u=r
   ·subst q;simp
   ·rw [ae (c:=Lab.two u≠Lab.two r) (by intro z;cases z;exact q rfl),ae (c:=Lab.two r≠Lab.two u) (by intro z;cases z;exact q rfl)]
    by_cases z:d=0
    ·rw [z];simp
    ·have hn:(0:Int)<=(d.natAbs:Int):=Int.natCast_nonneg _;have key:(if st r=e then(-1:Int)else 1)+(if st u=e then(-1:Int)else 1)<=0:=by
      have:∃ t:Int,(t=1\/t=-1)/\0<t*d:=by
       rcases Int.lt_or_gt_of_ne z with z |z
       ·exact⟨-1,.inr rfl,by omega⟩
       ·exact⟨1,.inl rfl,by omega⟩
      obtain⟨t,ht,hp⟩:=this;rcases C2 t ht hp (by rw [lx];trivial) (by rw [ly];trivial)with⟨r',z1,z2⟩ |⟨_,⟨z1,z2⟩ |⟨z1,z2⟩⟩
      ·rw [lx]at z1;rw [ly]at z2;cases z1;cases z2;exact absurd rfl q
      ·rw [lx]at z1;cases z1;rw [ae z2];split<;>decide
      ·rw [ly]at z1;cases z1;rw [ae z2];split<;>decide
     have h2:(d.natAbs:Int)*((if st r=e then(-1:Int)else 1)+(if st u=e then(-1:Int)else 1))<=(d.natAbs:Int)*0:=Hd key hn;omega
theorem sY(C:lv G c T aY st)(h:G.Ok)(hc:δ c=T) :
  δ c*((aY (G.bd c).a).y+(aY (G.bd c).b).y)+(δ c).natAbs*(Wx aY st (G.bd c).a (G.bd c).b c+Wx aY st (G.bd c).b (G.bd c).a c)<=-2:=by
 have ne:=h.ne c C.cm;have ca:=C.ca;have cb:=C.cb;have hT:=C.cT;rw [hc];unfold Wx;generalize (G.bd c).a=x at *
 generalize (G.bd c).b=y at *
 rcases ca with ca |⟨ca,ca2⟩<;>rcases cb with cb |⟨cb,cb2⟩<;>rw [ca,cb]<;>simp only [Lab.y]
 ·rcases hT with rfl |rfl<;>decide
 ·rw [ae (by intro z;cases z),ae cb2]
  rcases hT with rfl |rfl<;>decide
 ·rw [ae (by intro z;cases z),ae ca2]
  rcases hT with rfl |rfl<;>decide
 ·rw [ae (c:=Lab.two y≠Lab.two x) (by intro z;cases z;exact ne rfl),ae (c:=Lab.two x≠Lab.two y) (by intro z;cases z;exact ne rfl),ae ca2,ae cb2]
  rcases hT with rfl |rfl<;>decide
theorem ZbE(C:lv G c T aY st)(h:G.Ok)(hd:G.Chg δ):δ c≠T:=fun hc=>by
 have s1:0<=sm G.n fun r=>sm G.m fun e=>(δ e).natAbs*(wt aY st (G.bd e).a (G.bd e).b e r+wt aY st (G.bd e).b (G.bd e).a e r):=OC fun r hr=>wB C h hd hc hr;rw [Py]at s1;have e1:sm G.m (fun e=>sm G.n fun r=>(δ e).natAbs*(wt aY st (G.bd e).a (G.bd e).b e r+wt aY st (G.bd e).b (G.bd e).a e r))=sm G.m fun e=>(δ e).natAbs*(Wx aY st (G.bd e).a (G.bd e).b e+Wx aY st (G.bd e).b (G.bd e).a e):=by
  refine Z4V fun e he=>?_;rw [Jp,Bm,qj C h (h.an e he),qj C h (h.bn e he)];rfl
 rw [e1]at s1;have s2:=vI h hd (fun v=>(aY v).y);have s3:sm G.m (fun e=>δ e*((aY (G.bd e).a).y+(aY (G.bd e).b).y)+(δ e).natAbs*(Wx aY st (G.bd e).a (G.bd e).b e+Wx aY st (G.bd e).b (G.bd e).a e))<=sm G.m fun e=>if e=c then(-2:Int)else 0:=by
  refine DZ fun e he=>?_;by_cases q:e=c
  ·subst q;rw [ae rfl];exact sY C h hc
  ·rw [ac q];exact oB C h hd he q
 rw [Bm,s2,Bh C.cm (fun _=>(-2:Int))]at s3;omega
end
end MX
end
section
namespace MX
def Jn(d:Bd)(x y:Nat):Prop:=(d.a=x/\d.b=y)\/(d.b=x/\d.a=y)
theorem Jn.symm{d:Bd}{x y:Nat}(h:Jn d x y):Jn d y x:=h.elim (fun⟨a,b⟩=>.inr ⟨b,a⟩) fun⟨a,b⟩=>.inl ⟨b,a⟩
theorem Jn.eq{d:Bd}{x y z:Nat}(h:Jn d x y)(h2:Jn d x z)(hn:d.a≠d.b):y=z:=by
 rcases h with⟨a,b⟩ |⟨a,b⟩<;>rcases h2 with⟨a',b'⟩ |⟨a',b'⟩<;>first |(rw [<-b,<-b'];done) |(exfalso;apply hn;omega)
theorem Jn.ne{d:Bd}{x y:Nat}(h:Jn d x y)(hn:d.a≠d.b):x≠y:=by
 rcases h with⟨a,b⟩ |⟨a,b⟩<;>omega
theorem Jn.end{d:Bd}{x y z w:Nat}(h:Jn d x y)(h2:Jn d z w):z=x\/z=y:=by
 rcases h with⟨a,b⟩ |⟨a,b⟩<;>rcases h2 with⟨a',b'⟩ |⟨a',b'⟩<;>omega
def one(e:Nat)(t:Int):Nat->Int:=fun i=>if i=e then t else 0
def dl(x:Nat)(t:Int):Nat->Int:=fun v=>if v=x then t else 0
section
variable{G:Gr}
theorem lG(f g:Nat->Int)(v:Nat):G.bdr (fun e=>f e+g e) v=G.bdr f v+G.bdr g v:=by
 unfold Gr.bdr;rw [<-Bm];exact Z4V fun e _=>Int.mul_add ..
theorem Iu(v:Nat):G.bdr (fun _=>0) v=0:=wd fun e _=>Int.mul_zero _
theorem zq{e x y:Nat}(he:e<G.m)(h:Jn (G.bd e) x y)(t:Int)(v:Nat):G.bdr (one e t) v=dl x t v+dl y t v:=by
 unfold Gr.bdr one;have:(fun i=>inc (G.bd i) v*if i=e then t else 0)=fun i=>if i=e then inc (G.bd i) v*t else 0:=by
  funext i;split<;>omega
 rw [this,Bh he (fun i=>inc (G.bd i) v*t)];unfold inc dl;rcases h with⟨rfl,rfl⟩ |⟨rfl,rfl⟩<;>split<;>split<;>omega
def Gr.Bnd(G:Gr)(f:Nat->Int):Prop:=∀ e,e<G.m->f e<=G.room 1 e/\-(G.room (-1) e)<=f e
theorem zn(h:G.Ok){e:Nat}(he:e<G.m)(t:Int):0<=G.room t e:=by
 have:=h.lo e he;unfold Gr.room;split<;>omega
theorem Ja(h:G.Ok):G.Bnd fun _=>0:=fun e he=>⟨zn h he 1,by have:=zn h he (-1);show -(G.room (-1) e)<=0;omega⟩
theorem Ba(h:G.Ok){e:Nat}{t:Int}(ht:t=1\/t=-1)(hr:0<G.room t e):G.Bnd (one e t):=fun i hi=>by
 have a:=zn h hi 1;have b:=zn h hi (-1);unfold one;by_cases q:i=e
 ·subst q;rw [ae rfl];rcases ht with rfl |rfl<;>omega
 ·rw [ac q];omega
theorem l7{f g:Nat->Int}(hf:G.Bnd f)(hg:G.Bnd g)(hd:∀ e,f e=0\/g e=0):G.Bnd fun e=>f e+g e:=fun e he=>by
 have a:=hf e he;have b:=hg e he;show f e+g e<=_/\_<=f e+g e;rcases hd e with q |q<;>rw [q]<;>omega
end
structure S where
 re:Nat->Prop
 root:Nat->Nat
 rk:Nat->Nat
 nx:Nat
 cb:Nat->Nat
 cf:Nat->Option Nat
 ar:Nat->Int
 tn:Nat->Int->Prop
 dn:Nat->Int->Nat->Prop
def S.up(s:S)(z:Nat):Option Nat:=(s.cf z).map s.root
structure S.Mu(s:S)(G:Gr)(c v:Nat)(t:Int)(μ:Nat->Int):Prop where
 bnd:G.Bnd μ
 sup:∀ e,μ e≠0->e<G.m/\e≠c/\s.re (G.bd e).a/\s.re (G.bd e).b/\s.root (G.bd e).a=s.root v/\s.root (G.bd e).b=s.root v
 bdr:∀ w,G.bdr μ w=-(dl (s.root v) (s.ar (s.root v)) w)-dl v t w
structure S.Ok(s:S)(G:Gr)(c:Nat)(T:Int):Prop where
 rn:∀ x,s.re x->x<G.n
 rkn:∀ x,s.re x->s.rk x<s.nx
 root:∀ x,s.re x->s.re (s.root x)/\s.root (s.root x)=s.root x/\(s.root x≠x->s.rk (s.root x)<s.rk x)
 first:∀ x,s.re x->s.tn x (-(s.ar x))/\(s.ar x=1\/s.ar x=-1)
 tnr:∀ x t,s.tn x t->s.re x/\(t=1\/t=-1)
 cls:∀ x y t,s.re x->s.re y->x≠y->s.root x=s.root y->(t=1\/t=-1)->s.tn x t
 top:∀ x,s.re x->s.cf x=none->s.cb x=c/\(x=(G.bd c).a\/x=(G.bd c).b)/\s.ar x=T
 tree:∀ x w,s.re x->s.cf x=some w->s.re w/\s.rk w<s.rk x/\s.cb x<G.m/\s.cb x≠c/\Jn (G.bd (s.cb x)) x w/\0<G.room (s.ar x) (s.cb x)/\s.tn w (s.ar x)/\s.dn w (s.ar x) (s.cb x)
 upp:∀ x,s.re x->s.root x≠x->∃ w,s.cf x=some w/\s.root w=s.root x
 ends:s.re (G.bd c).a/\s.re (G.bd c).b/\s.cf (G.bd c).a=none/\s.cf (G.bd c).b=none
 mu:∀ v t,s.tn v t->∃ μ,s.Mu G c v t μ
 d1:∀ x t e,s.dn x t e->s.tn x t/\e<G.m/\e≠c/\0<G.room t e/\∃ y,Jn (G.bd e) x y/\s.re y
 d2:∀ x y t e,Jn (G.bd e) x y->s.dn x t e->s.dn y t e->s.root x=s.root y\/(G.room t e=1/\((s.root x=x/\s.cb x=e/\s.ar x=t)\/(s.root y=y/\s.cb y=e/\s.ar y=t)))
 d4:∀ x y t e,Jn (G.bd e) x y->s.dn y t e->s.cb x=e->s.cf x=some y->s.ar x=-t->s.root x=s.root y
section
variable{G:Gr}{c:Nat}{T:Int}{s:S}
theorem S.Ok.rootTop(k:s.Ok G c T){x:Nat}(h:s.re x)(hc:s.cf x=none):s.root x=x:=by
 by_cases q:s.root x=x
 ·exact q
 ·obtain⟨w,e,_⟩:=k.upp x h q;rw [hc]at e;cases e
inductive Path (up:Nat->Option Nat):Nat->List Nat->Option Nat->Prop
 |nil (m:Nat):Path up m [] (some m)
 |top (z:Nat):up z=none->Path up z [z] none
 |step (z z':Nat)(L:List Nat)(m:Option Nat):up z=some z'->some z≠m->Path up z' L m->Path up z (z::L) m
theorem up_lt(k:s.Ok G c T){z z':Nat}(hr:s.re z)(h:s.up z=some z'):s.re z'/\s.root z'=z'/\s.rk z' < s.rk z:=by
 unfold S.up at h;cases e:s.cf z with
 |none=>rw [e]at h;cases h
 |some w =>
  rw [e]at h;cases h;obtain⟨h1,h2,_⟩:=k.tree z w hr e;obtain⟨h3,h4,h5⟩:=k.root w h1;refine⟨h3,h4,?_⟩;by_cases q:s.root w=w
  ·rw [q];exact h2
  ·exact qu (h5 q) h2
theorem Z6D(k:s.Ok G c T):∀ {z:Nat}{L:List Nat}{m:Option Nat},Path s.up z L m->s.re z->s.root z=z->(∀ w∈L,s.re w/\s.root w=w/\s.rk w<=s.rk z)/\∀ m',m=some m'->s.re m'/\s.root m'=m'/\s.rk m'<=s.rk z/\∀ w∈L,s.rk m' < s.rk w
 |_,_,_,.nil m,hr,hz=>⟨fun w hw=>by simp at hw,fun m' e=>by cases e;exact⟨hr,hz,bK _,fun w hw=>by simp at hw⟩⟩
 |_,_,_,.top z hu,hr,hz=>⟨fun w hw=>by rw [dq.mp hw];exact⟨hr,hz,bK _⟩,fun m' e=>by cases e⟩
 |_,_,_,.step z z' L m hu bQ hp,hr,hz=>by
  obtain⟨a1,a2,a3⟩:=up_lt k hr hu;obtain⟨b1,b2⟩:=Z6D k hp a1 a2;refine⟨fun w hw=>?_,fun m' e=>?_⟩
  ·rcases bv.mp hw with rfl |hw
   ·exact⟨hr,hz,bK _⟩
   ·obtain⟨c1,c2,c3⟩:=b1 w hw;exact⟨c1,c2,by omega⟩
  ·obtain⟨c1,c2,c3,c4⟩:=b2 m' e;refine⟨c1,c2,by omega,fun w hw=>?_⟩
   rcases bv.mp hw with rfl |hw
   ·omega
   ·exact c4 w hw
theorem Z7M(k:s.Ok G c T){z z':Nat}{L:List Nat}{m:Option Nat}(hr:s.re z)(hz:s.root z=z)(hu:s.up z=some z')(hp:Path s.up z' L m):z∉L/\∀ w∈L,s.rk w<s.rk z:=by
 obtain⟨a1,a2,a3⟩:=up_lt k hr hu;obtain⟨b1,_⟩:=Z6D k hp a1 a2;have h:∀ w∈L,s.rk w<s.rk z:=fun w hw=>by have:=(b1 w hw).2.2;omega
 exact⟨fun hm=>ik _ (h z hm),h⟩
structure Kap(s:S)(G:Gr)(c v:Nat)(t:Int)(L:List Nat)(m:Nat)(κ:Nat->Int)(w:Nat)(r:Int):Prop where
 rew:s.re w
 rtw:s.root w=m
 tnw:s.tn w r
 bnd:G.Bnd κ
 sup:∀ e,κ e≠0->e<G.m/\e≠c/\s.re (G.bd e).a/\s.re (G.bd e).b/\(s.root (G.bd e).a∈L\/s.root (G.bd e).b∈L)/\(s.root (G.bd e).a∈L\/s.root (G.bd e).a=m)/\(s.root (G.bd e).b∈L\/s.root (G.bd e).b=m)
 stem:∀ e,κ e≠0->(s.root (G.bd e).a=m\/s.root (G.bd e).b=m)->∃ z∈L,∃ w',s.cb z=e/\Jn (G.bd e) z w'/\κ e=s.ar z
 bdr:∀ u,G.bdr κ u=-(dl v t u)+dl w r u
theorem z0(k:s.Ok G c T)(hG:G.Ok):∀ {L:List Nat}{z m v:Nat}{t:Int},Path s.up z L (some m)->s.re v->s.root v=z->s.tn v t->∃ κ w r,Kap s G c v t L m κ w r
 |[],z,m,v,t,hp,hv,hz,ht=>by
  have e:z=m:=by cases hp with |nil=>rfl
  subst e;refine⟨fun _=>0,v,t,hv,hz,ht,Ja hG,fun e h=>absurd rfl h,fun e h=>absurd rfl h,fun u=>?_⟩;rw [Iu];omega
 |y::L,z,m,v,t,hp,hv,hz,ht=>by
  have K9:z=y:=by cases hp with |step _ _ _ _ _ _ _=>rfl
  subst K9;obtain⟨z',hu,bQ,hp⟩:∃ z',s.up z=some z'/\some z≠some m/\Path s.up z' L (some m):=by
   cases hp with |step _ z' _ _ hu bQ hp=>exact⟨z',hu,bQ,hp⟩
  ·
   have iK:=k.root v hv;rw [hz]at iK;obtain⟨ka,sR,_⟩:=iK;obtain⟨nL,_⟩:=Z7M k ka sR hu hp;have d9:=hu;unfold S.up at d9;cases ec:s.cf z with
   |none=>rw [ec]at d9;cases d9
   |some w1 =>
    rw [ec]at d9;have er:s.root w1=z':=Option.some.inj d9;obtain⟨t1,t2,t3,t4,t5,t6,t7,t8⟩:=k.tree z w1 ka ec;obtain⟨κ1,w,r,K1⟩:=z0 k hG hp t1 er t7;obtain⟨μ,M⟩:=k.mu v t ht;have a1:=up_lt k ka hu;have mz:∀ m',some m=some m'->m'≠z:=fun m' e q=>bQ (by rw [e,q])
    have mz:=mz m rfl;have EO:z'≠z:=fun q=>by have:=a1.2.2;rw [q]at this;exact ik _ this
    have hf:=(k.first z ka).2;have s1:∀ e,κ1 e≠0->s.root (G.bd e).a≠z/\s.root (G.bd e).b≠z:=fun e h=>by
     obtain⟨_,_,_,_,_,q1,q2⟩:=K1.sup e h;refine⟨fun q=>?_,fun q=>?_⟩
     ·rcases q1 with q1 |q1
      ·rw [q]at q1;exact nL q1
      ·rw [q]at q1;exact mz q1.symm
     ·rcases q2 with q2 |q2
      ·rw [q]at q2;exact nL q2
      ·rw [q]at q2;exact mz q2.symm
    have s2:∀ e,μ e≠0->s.root (G.bd e).a=z/\s.root (G.bd e).b=z:=fun e h=>by
     obtain⟨_,_,_,_,q1,q2⟩:=M.sup e h;rw [hz]at q1 q2;exact⟨q1,q2⟩
    have s3:(s.root (G.bd (s.cb z)).a=z/\s.root (G.bd (s.cb z)).b=z')\/(s.root (G.bd (s.cb z)).b=z/\s.root (G.bd (s.cb z)).a=z'):=by
     rcases t5 with⟨q1,q2⟩ |⟨q1,q2⟩
     ·exact .inl ⟨by rw [q1];exact sR,by rw [q2];exact er⟩
     ·exact .inr ⟨by rw [q1];exact sR,by rw [q2];exact er⟩
    have d1:∀ e,μ e=0\/one (s.cb z) (s.ar z) e=0:=fun e=>by
     by_cases q:e=s.cb z
     ·left;by_cases q2:μ e=0
      ·exact q2
      ·have:=s2 e q2;rw [q]at this;rcases s3 with⟨_,b⟩ |⟨_,b⟩
       ·rw [this.2]at b;exact absurd b.symm EO
       ·rw [this.1]at b;exact absurd b.symm EO
     ·right;unfold one;rw [ac q]
    have d2:∀ e,μ e+one (s.cb z) (s.ar z) e=0\/κ1 e=0:=fun e=>by
     by_cases q:κ1 e=0
     ·exact .inr q
     ·left;have h1:=s1 e q;have h2:μ e=0:=by
       by_cases q2:μ e=0
       ·exact q2
       ·exact absurd (s2 e q2).1 h1.1
      have h3:e≠s.cb z:=fun q3=>by
       rw [q3]at h1;rcases s3 with⟨b,_⟩ |⟨b,_⟩
       ·exact h1.1 b
       ·exact h1.2 b
      rw [h2];unfold one;rw [ac h3];rfl
    refine⟨fun e=>(μ e+one (s.cb z) (s.ar z) e)+κ1 e,w,r,K1.rew,K1.rtw,K1.tnw,l7 (l7 M.bnd (Ba hG hf t6) d1) K1.bnd d2,fun e h=>?_,fun e h hm=>?_,fun u=>?_⟩
    ·by_cases q1:κ1 e=0
     ·by_cases q2:e=s.cb z
      ·rw [q2];refine⟨t3,t4,?_⟩;have vc:z'∈L\/z'=m:=by
        cases hp with
        |nil=>exact .inr rfl
        |step _ _ _ _ _ _ _=>exact .inl (cY ..)
       have Rs:s.re (G.bd (s.cb z)).a/\s.re (G.bd (s.cb z)).b:=by
        rcases t5 with⟨q1,q2⟩ |⟨q1,q2⟩
        ·rw [q1,q2];exact⟨ka,t1⟩
        ·rw [q1,q2];exact⟨t1,ka⟩
       refine⟨Rs.1,Rs.2,?_⟩;rcases s3 with⟨b1,b2⟩ |⟨b1,b2⟩
       ·rw [b1,b2];exact⟨.inl (cY ..),.inl (cY ..),vc.elim (fun q=>.inl (dj _ q)) .inr⟩
       ·rw [b1,b2];exact⟨.inr (cY ..),vc.elim (fun q=>.inl (dj _ q)) .inr,.inl (cY ..)⟩
      ·have q3:μ e≠0:=fun q3=>h (by show μ e+one (s.cb z) (s.ar z) e+κ1 e=0;rw [q1,q3];unfold one;rw [ac q2];rfl)
       obtain⟨m1,m2,m3,m4,m5,m6⟩:=M.sup e q3;rw [hz]at m5 m6;rw [m5,m6];exact⟨m1,m2,m3,m4,.inl (cY ..),.inl (cY ..),.inl (cY ..)⟩
     ·obtain⟨m1,m2,m3,m4,m5,m6,m7⟩:=K1.sup e q1;exact⟨m1,m2,m3,m4,m5.imp (dj _) (dj _),m6.imp_left (dj _),m7.imp_left (dj _)⟩
    ·by_cases q1:κ1 e=0
     ·by_cases q2:e=s.cb z
      ·refine⟨z,cY ..,w1,q2.symm,by rw [q2];exact t5,?_⟩
       have h2:μ e=0:=by
        rcases d1 e with q |q
        ·exact q
        ·rw [q2]at q;unfold one at q;rw [ae rfl]at q;rcases hf with z |z<;>omega
       show μ e+one (s.cb z) (s.ar z) e+κ1 e=s.ar z;rw [q1,h2,q2];unfold one;rw [ae rfl];omega
      ·have q3:μ e≠0:=fun q3=>h (by show μ e+one (s.cb z) (s.ar z) e+κ1 e=0;rw [q1,q3];unfold one;rw [ac q2];rfl)
       obtain⟨m5,m6⟩:=s2 e q3;rw [m5,m6]at hm;exact absurd (hm.elim id id).symm mz
     ·obtain⟨y',hy,w',a1,a2,a3⟩:=K1.stem e q1 hm;refine⟨y',dj _ hy,w',a1,a2,?_⟩;show μ e+one (s.cb z) (s.ar z) e+κ1 e=s.ar y';rcases d2 e with q |q
      ·omega
      ·exact absurd q q1
    ·rw [lG,lG,M.bdr,zq t3 t5,K1.bdr,hz];omega
end
end MX
end
section
namespace MX
section
variable{G:Gr}{c:Nat}{T:Int}{s:S}
structure Nu(s:S)(G:Gr)(c:Nat)(T:Int)(v:Nat)(t:Int)(L:List Nat)(ν:Nat->Int)(p:Nat):Prop where
 top:p=(G.bd c).a\/p=(G.bd c).b
 mem:p∈L
 bnd:G.Bnd ν
 sup:∀ e,ν e≠0->e<G.m/\e≠c/\s.root (G.bd e).a∈L/\s.root (G.bd e).b∈L
 bdr:∀ u,G.bdr ν u=-(dl v t u)-dl p T u
theorem nu(k:s.Ok G c T)(hG:G.Ok):∀ {L:List Nat}{z v:Nat}{t:Int},Path s.up z L none->s.re v->s.root v=z->s.tn v t->∃ ν p,Nu s G c T v t L ν p
 |[],z,v,t,hp,hv,hz,ht=>by cases hp
 |y::L,z,v,t,hp,hv,hz,ht=>by
  have K9:z=y:=by cases hp<;>rfl
  subst K9;have iK:=k.root v hv;rw [hz]at iK;obtain⟨ka,sR,_⟩:=iK;obtain⟨μ,M⟩:=k.mu v t ht;have wC:(L=[]/\s.up z=none)\/∃ z',s.up z=some z'/\Path s.up z' L none:=by
   cases hp with
   |top _ hu=>exact .inl ⟨rfl,hu⟩
   |step _ z' _ _ hu bQ hp=>exact .inr ⟨z',hu,hp⟩
  rcases wC with⟨rfl,hu⟩ |⟨z',hu,hp⟩
  ·have ec:s.cf z=none:=by
    unfold S.up at hu;cases e:s.cf z with
    |none=>rfl
    |some w=>rw [e]at hu;cases hu
   obtain⟨c1,c2,c3⟩:=k.top z ka ec;refine⟨μ,z,c2,cY ..,M.bnd,fun e h=>?_,fun u=>?_⟩
   ·obtain⟨m1,m2,m3,m4,m5,m6⟩:=M.sup e h;rw [hz]at m5 m6;rw [m5,m6];exact⟨m1,m2,cY ..,cY ..⟩
   ·rw [M.bdr,hz,c3];omega
  ·obtain⟨nL,_⟩:=Z7M k ka sR hu hp;have d9:=hu;unfold S.up at d9;cases ec:s.cf z with
   |none=>rw [ec]at d9;cases d9
   |some w1 =>
    rw [ec]at d9;have er:s.root w1=z':=Option.some.inj d9;obtain⟨t1,t2,t3,t4,t5,t6,t7,t8⟩:=k.tree z w1 ka ec;obtain⟨ν1,p,N1⟩:=nu k hG hp t1 er t7;have a1:=up_lt k ka hu;have EO:z'≠z:=fun q=>by have:=a1.2.2;rw [q]at this;exact ik _ this
    have hf:=(k.first z ka).2;have s1:∀ e,ν1 e≠0->s.root (G.bd e).a≠z/\s.root (G.bd e).b≠z:=fun e h=>by
     obtain⟨_,_,q1,q2⟩:=N1.sup e h;exact⟨fun q=>nL (q ▸ q1),fun q=>nL (q ▸ q2)⟩
    have s2:∀ e,μ e≠0->s.root (G.bd e).a=z/\s.root (G.bd e).b=z:=fun e h=>by
     obtain⟨_,_,_,_,q1,q2⟩:=M.sup e h;rw [hz]at q1 q2;exact⟨q1,q2⟩
    have s3:(s.root (G.bd (s.cb z)).a=z/\s.root (G.bd (s.cb z)).b=z')\/(s.root (G.bd (s.cb z)).b=z/\s.root (G.bd (s.cb z)).a=z'):=by
     rcases t5 with⟨q1,q2⟩ |⟨q1,q2⟩
     ·exact .inl ⟨by rw [q1];exact sR,by rw [q2];exact er⟩
     ·exact .inr ⟨by rw [q1];exact sR,by rw [q2];exact er⟩
    have d1:∀ e,μ e=0\/one (s.cb z) (s.ar z) e=0:=fun e=>by
     by_cases q:e=s.cb z
     ·left;by_cases q2:μ e=0
      ·exact q2
      ·have:=s2 e q2;rw [q]at this;rcases s3 with⟨_,b⟩ |⟨_,b⟩
       ·rw [this.2]at b;exact absurd b.symm EO
       ·rw [this.1]at b;exact absurd b.symm EO
     ·right;unfold one;rw [ac q]
    have d2:∀ e,μ e+one (s.cb z) (s.ar z) e=0\/ν1 e=0:=fun e=>by
     by_cases q:ν1 e=0
     ·exact .inr q
     ·left;have h1:=s1 e q;have h2:μ e=0:=by
       by_cases q2:μ e=0
       ·exact q2
       ·exact absurd (s2 e q2).1 h1.1
      have h3:e≠s.cb z:=fun q3=>by
       rw [q3]at h1;rcases s3 with⟨b,_⟩ |⟨b,_⟩
       ·exact h1.1 b
       ·exact h1.2 b
      rw [h2];unfold one;rw [ac h3];rfl
    have vc:z'∈L:=by
     cases hp with
     |top _ _=>exact cY ..
     |step _ _ _ _ _ _ _=>exact cY ..
    refine⟨fun e=>(μ e+one (s.cb z) (s.ar z) e)+ν1 e,p,N1.top,dj _ N1.mem,l7 (l7 M.bnd (Ba hG hf t6) d1) N1.bnd d2,fun e h=>?_,fun u=>?_⟩
    ·by_cases q1:ν1 e=0
     ·by_cases q2:e=s.cb z
      ·rw [q2];refine⟨t3,t4,?_⟩;rcases s3 with⟨b1,b2⟩ |⟨b1,b2⟩
       ·rw [b1,b2];exact⟨cY ..,dj _ vc⟩
       ·rw [b1,b2];exact⟨dj _ vc,cY ..⟩
      ·have q3:μ e≠0:=fun q3=>h (by show μ e+one (s.cb z) (s.ar z) e+ν1 e=0;rw [q1,q3];unfold one;rw [ac q2];rfl)
       obtain⟨m1,m2,m3,m4,m5,m6⟩:=M.sup e q3;rw [hz]at m5 m6;rw [m5,m6];exact⟨m1,m2,cY ..,cY ..⟩
     ·obtain⟨m1,m2,m3,m4⟩:=N1.sup e q1;exact⟨m1,m2,dj _ m3,dj _ m4⟩
    ·rw [lG,lG,M.bdr,zq t3 t5,N1.bdr,hz];omega
theorem found(k:s.Ok G c T)(hG:G.Ok)(zO:c<G.m)(ho:(G.bd c).o=2)(hT:T=1\/T=-1){x y e:Nat}{t:Int}{C D:List Nat}(he:e<G.m)(hec:e≠c)(hj:Jn (G.bd e) x y)(hr:0<G.room t e)
  (tx:s.tn x t)(ty:s.tn y t)(pC:Path s.up (s.root x) C none)(pD:Path s.up (s.root y) D none)(dis:∀ z,z∈C->z∉D):∃ δ,G.Chg δ/\δ c=T:=by
 obtain⟨rx,ht⟩:=k.tnr x t tx;obtain⟨ry,_⟩:=k.tnr y t ty;obtain⟨f,p,F⟩:=nu k hG pC rx rfl tx;obtain⟨g,q,Gq⟩:=nu k hG pD ry rfl ty;have sH:∀ {z:Nat}{L:List Nat},Path s.up z L none->z∈L:=fun{z L} h=>by
  cases h with
  |top _ _=>exact cY ..
  |step _ _ _ _ _ _ _=>exact cY ..
 have hx:=sH pC;have hy:=sH pD;have sx:∀ i,f i≠0->s.root (G.bd i).a∉D/\s.root (G.bd i).b∉D:=fun i h=>let ⟨_,_,a,b⟩:=F.sup i h;⟨dis _ a,dis _ b⟩;have d1:∀ i,f i=0\/g i=0:=fun i=>by
  by_cases h:f i=0
  ·exact .inl h
  ·right;by_cases h2:g i=0
   ·exact h2
   ·exact absurd (Gq.sup i h2).2.2.1 (sx i h).1
 have fe:f e=0:=by
  by_cases h:f e=0
  ·exact h
  ·obtain⟨_,_,a,b⟩:=F.sup e h;rcases hj with⟨q1,q2⟩ |⟨q1,q2⟩
   ·rw [q2]at b;exact absurd hy (dis _ b)
   ·rw [q2]at a;exact absurd hy (dis _ a)
 have ge:g e=0:=by
  by_cases h:g e=0
  ·exact h
  ·obtain⟨_,_,a,b⟩:=Gq.sup e h;rcases hj with⟨q1,q2⟩ |⟨q1,q2⟩
   ·rw [q1]at a;exact absurd a (dis _ hx)
   ·rw [q1]at b;exact absurd b (dis _ hx)
 have fc:f c=0:=by
  by_cases h:f c=0
  ·exact h
  ·exact absurd rfl (F.sup c h).2.1
 have gc:g c=0:=by
  by_cases h:g c=0
  ·exact h
  ·exact absurd rfl (Gq.sup c h).2.1
 have rc:∀ t:Int,G.room t c=1:=fun t=>by unfold Gr.room;rw [ho];split<;>rfl
 have b1:=l7 F.bnd Gq.bnd d1;have b2:=l7 b1 (Ba hG ht hr) fun i=>by
  by_cases h:i=e
  ·rw [h];left;show f e+g e=0;omega
  ·right;unfold one;rw [ac h]
 have b3:=l7 b2 (Ba hG hT (by rw [rc];decide)) fun i=>by
  by_cases h:i=c
  ·rw [h];left;show f c+g c+one e t c=0;unfold one;rw [ac (Ne.symm hec)];omega
  ·right;unfold one;rw [ac h]
 refine⟨fun i=>f i+g i+one e t i+one c T i,⟨fun i hi=>?_,fun i hi=>?_,fun v _=>?_⟩,?_⟩
 ·have:=(b3 i hi).1;unfold Gr.room at this;rw [ae rfl]at this;exact this
 ·have:=(b3 i hi).2;unfold Gr.room at this;rw [ac (by decide)]at this;exact this
 ·rw [lG,lG,lG,F.bdr,Gq.bdr,zq he hj,zq zO (.inl ⟨rfl,rfl⟩)];have pq:p≠q:=fun z=>dis p F.mem (z ▸ Gq.mem);rcases F.top with rfl |rfl<;>rcases Gq.top with rfl |rfl
  ·exact absurd rfl pq
  ·omega
  ·omega
  ·exact absurd rfl pq
 ·show f c+g c+one e t c+one c T c=T;unfold one;rw [ac (Ne.symm hec),ae rfl];omega
end
end MX
end
section
namespace MX
section
variable{G:Gr}{c:Nat}{T:Int}{s:S}
theorem Z3e{up:Nat->Option Nat}{z:Nat}{L:List Nat}{m:Nat}(h:Path up z L (some m)):z∈L\/z=m:=by
 cases h with
 |nil=>exact .inr rfl
 |step _ _ _ _ _ _ _=>exact .inl (cY ..)
theorem Z4I(k:s.Ok G c T):∀ {L:List Nat}{x m z:Nat},Path s.up x L (some m)->s.re x->s.root x=x->z∈L->∃ C1 C2,L=C1++z::C2/\Path s.up x C1 (some z)/\Path s.up z (z::C2) (some m)/\(∀ w∈C1,w∈L)/\∀ w∈C2,w∈L
 |[],x,m,z,h,hr,hx,hz=>by simp at hz
 |y::L,x,m,z,h,hr,hx,hz=>by
  have CK:x=y:=by cases h with |step _ _ _ _ _ _ _=>rfl
  subst CK;obtain⟨x',hu,bQ,hp⟩:∃ x',s.up x=some x'/\some x≠some m/\Path s.up x' L (some m):=by
   cases h with |step _ x' _ _ hu bQ hp=>exact⟨x',hu,bQ,hp⟩
  obtain⟨nL,_⟩:=Z7M k hr hx hu hp;rcases bv.mp hz with rfl |hz
  ·exact⟨[],L,rfl,.nil _,.step _ x' _ _ hu bQ hp,fun w hw=>by simp at hw,fun w hw=>dj _ hw⟩
  ·obtain⟨a1,a2,a3⟩:=up_lt k hr hu;obtain⟨C1,C2,e,p1,p2,b1,b2⟩:=Z4I k hp a1 a2 hz;refine⟨x::C1,C2,by rw [e];rfl,.step _ x' _ _ hu (fun q=>?_) p1,p2,fun w hw=>?_,fun w hw=>dj _ (b2 w hw)⟩
   ·cases q;exact nL hz
   ·rcases bv.mp hw with rfl |hw
    ·exact cY ..
    ·exact dj _ (b1 w hw)
structure Ring(s:S)(G:Gr)(c x y e:Nat)(t:Int)(C D:List Nat)(m:Nat):Prop where
 tx:s.tn x t
 ty:s.tn y t
 he:e<G.m
 hec:e≠c
 hj:Jn (G.bd e) x y
 hr:0<G.room t e
 pC:Path s.up (s.root x) C (some m)
 pD:Path s.up (s.root y) D (some m)
 dis:∀ z,z∈C->z∉D
theorem Ring.symm{x y e:Nat}{t:Int}{C D:List Nat}{m:Nat}(R:Ring s G c x y e t C D m):Ring s G c y x e t D C m:=⟨R.ty,R.tx,R.he,R.hec,R.hj.symm,R.hr,R.pD,R.pC,fun z a b=>R.dis z b a⟩
structure RMu(s:S)(G:Gr)(c:Nat)(C D:List Nat)(m v:Nat)(t:Int)(μ:Nat->Int):Prop where
 bnd:G.Bnd μ
 sup:∀ e,μ e≠0->e<G.m/\e≠c/\s.re (G.bd e).a/\s.re (G.bd e).b/\(s.root (G.bd e).a∈C\/s.root (G.bd e).a∈D\/s.root (G.bd e).a=m)/\(s.root (G.bd e).b∈C\/s.root (G.bd e).b∈D\/s.root (G.bd e).b=m)
 bdr:∀ w,G.bdr μ w=-(dl m (s.ar m) w)-dl v t w
theorem RMu.swap{C D:List Nat}{m v:Nat}{t:Int}{μ:Nat->Int}(h:RMu s G c C D m v t μ):RMu s G c D C m v t μ :=
 ⟨h.bnd,fun e q=>let ⟨a,b,c1,d,f,g⟩:=h.sup e q;⟨a,b,c1,d,f.elim (fun z=>.inr (.inl z)) fun z=>z.elim .inl fun z=>.inr (.inr z),g.elim (fun z=>.inr (.inl z)) fun z=>z.elim .inl fun z=>.inr (.inr z)⟩,h.bdr⟩
theorem Z7r(k:s.Ok G c T){x y e:Nat}{t:Int}{C D:List Nat}{m:Nat}(R:Ring s G c x y e t C D m):s.re m/\s.root m=m/\m∉C/\m∉D/\(∀ z∈C,s.re z/\s.root z=z/\s.rk m<s.rk z)/\∀ z∈D,s.re z/\s.root z=z/\s.rk m<s.rk z:=by
 have rx:=(k.tnr x t R.tx).1;have ry:=(k.tnr y t R.ty).1;obtain⟨a1,a2⟩:=Z6D k R.pC (k.root x rx).1 (k.root x rx).2.1;obtain⟨b1,b2⟩:=Z6D k R.pD (k.root y ry).1 (k.root y ry).2.1;obtain⟨c1,c2,c3,c4⟩:=a2 m rfl;obtain⟨_,_,_,d4⟩:=b2 m rfl;exact⟨c1,c2,fun h=>ik _ (c4 m h),fun h=>ik _ (d4 m h),fun z hz=>⟨(a1 z hz).1,(a1 z hz).2.1,c4 z hz⟩,fun z hz=>⟨(b1 z hz).1,(b1 z hz).2.1,d4 z hz⟩⟩
theorem O0(k:s.Ok G c T)(hG:G.Ok){x y e v:Nat}{t u:Int}{C D:List Nat}{m:Nat}(R:Ring s G c x y e t C D m)(hv:s.re v)(hc:s.root v∈C)(hu:s.tn v u):∃ μ,RMu s G c C D m v u μ:=by
 obtain⟨m1,m2,m3,m4,m5,m6⟩:=Z7r k R;have rx:=(k.tnr x t R.tx).1;obtain⟨C1,C2,e1,p1,p2,b1,b2⟩:=Z4I k R.pC (k.root x rx).1 (k.root x rx).2.1 hc;have sub:∀ w,w∈s.root v::C2->w∈C:=fun w hw=>by
  rcases bv.mp hw with rfl |hw
  ·exact hc
  ·exact b2 w hw
 obtain⟨κ,w,r,K⟩:=z0 k hG p2 hv rfl hu;obtain⟨μ,M⟩:=k.mu w r K.tnw;have hM:∀ i,μ i≠0->s.root (G.bd i).a=m/\s.root (G.bd i).b=m:=fun i h=>by
  obtain⟨_,_,_,_,q1,q2⟩:=M.sup i h;rw [K.rtw]at q1 q2;exact⟨q1,q2⟩
 have d:∀ i,κ i=0\/μ i=0:=fun i=>by
  by_cases h:κ i=0
  ·exact .inl h
  ·right;by_cases h2:μ i=0
   ·exact h2
   ·obtain⟨q1,q2⟩:=hM i h2;obtain⟨_,_,_,_,q,_,_⟩:=K.sup i h;rw [q1,q2]at q;exact absurd (sub m (q.elim id id)) m3
 refine⟨fun i=>κ i+μ i,l7 K.bnd M.bnd d,fun i h=>?_,fun q=>?_⟩
 ·by_cases h1:κ i=0
  ·have h2:μ i≠0:=fun z=>h (by show κ i+μ i=0;rw [h1,z];rfl)
   obtain⟨a1,a2,a3,a4,_,_⟩:=M.sup i h2;obtain⟨q1,q2⟩:=hM i h2;exact⟨a1,a2,a3,a4,.inr (.inr q1),.inr (.inr q2)⟩
  ·obtain⟨a1,a2,a3,a4,_,a6,a7⟩:=K.sup i h1;exact⟨a1,a2,a3,a4,a6.elim (fun z=>.inl (sub _ z)) fun z=>.inr (.inr z),a7.elim (fun z=>.inl (sub _ z)) fun z=>.inr (.inr z)⟩
 ·rw [lG,K.bdr,M.bdr,K.rtw];omega
theorem Oq(k:s.Ok G c T)(hG:G.Ok){x y e z:Nat}{t:Int}{C D:List Nat}{m:Nat}(R:Ring s G c x y e t C D m)(hz:z∈C)(hn:¬ s.tn z (s.ar z)):∃ μ,RMu s G c C D m z (s.ar z) μ:=by
 obtain⟨m1,m2,m3,m4,m5,m6⟩:=Z7r k R;have rx:=(k.tnr x t R.tx).1;have ry:=(k.tnr y t R.ty).1;obtain⟨C1,C2,e1,p1,p2,b1,b2⟩:=Z4I k R.pC (k.root x rx).1 (k.root x rx).2.1 hz;obtain⟨ka,sR,hmz⟩:=m5 z hz;have hsz:=(k.first z ka).2;obtain⟨κ1,w1,r1,K1⟩:=z0 k hG p1 rx rfl R.tx;have qL:w1=z:=by
  by_cases q:w1=z
  ·exact q
  ·exact absurd (k.cls z w1 (s.ar z) ka K1.rew (fun z'=>q z'.symm) (by rw [K1.rtw,sR]) hsz) hn
 subst qL;have iJ:r1=-(s.ar w1):=by
  have h2:=(k.tnr w1 r1 K1.tnw).2;by_cases q:r1=s.ar w1
  ·rw [q]at K1;exact absurd K1.tnw hn
  ·omega
 obtain⟨κy,wy,ry',Ky⟩:=z0 k hG R.pD ry rfl R.ty;obtain⟨μ,M⟩:=k.mu wy ry' Ky.tnw;have hM:∀ i,μ i≠0->s.root (G.bd i).a=m/\s.root (G.bd i).b=m:=fun i h=>by
  obtain⟨_,_,_,_,q1,q2⟩:=M.sup i h;rw [Ky.rtw]at q1 q2;exact⟨q1,q2⟩
 have h1:∀ i,κ1 i≠0->s.root (G.bd i).a∈C/\s.root (G.bd i).b∈C:=fun i h=>by
  obtain⟨_,_,_,_,_,a6,a7⟩:=K1.sup i h;exact⟨a6.elim (b1 _) fun q=>by rw [q];exact hz,a7.elim (b1 _) fun q=>by rw [q];exact hz⟩
 have hy:∀ i,κy i≠0->s.root (G.bd i).a∉C/\s.root (G.bd i).b∉C:=fun i h=>by
  obtain⟨_,_,_,_,_,a6,a7⟩:=Ky.sup i h;exact⟨fun q=>a6.elim (R.dis _ q) fun z'=>by rw [z']at q;exact m3 q,fun q=>a7.elim (R.dis _ q) fun z'=>by rw [z']at q;exact m3 q⟩
 have xC:s.root x∈C:=by
  rcases Z3e R.pC with q |q
  ·exact q
  ·have QW:=R.pC;rw [q]at QW;cases QW with
   |nil=>simp at hz
   |step _ _ _ _ _ bQ _=>exact absurd rfl bQ
 have yD:s.root y∉C:=by
  rcases Z3e R.pD with q |q
  ·exact fun z'=>R.dis _ z' q
  ·rw [q];exact m3
 have eA:(s.root (G.bd e).a∈C/\s.root (G.bd e).b∉C)\/(s.root (G.bd e).b∈C/\s.root (G.bd e).a∉C):=by
  rcases R.hj with⟨q1,q2⟩ |⟨q1,q2⟩
  ·rw [q1,q2];exact .inl ⟨xC,yD⟩
  ·rw [q1,q2];exact .inr ⟨xC,yD⟩
 have d1:∀ i,κy i=0\/μ i=0:=fun i=>by
  by_cases h:κy i=0
  ·exact .inl h
  ·right;by_cases h2:μ i=0
   ·exact h2
   ·obtain⟨q1,q2⟩:=hM i h2;obtain⟨_,_,_,_,q,_,_⟩:=Ky.sup i h;rw [q1,q2]at q;exact absurd (q.elim id id) m4
 have d2:∀ i,κy i+μ i=0\/one e t i=0:=fun i=>by
  by_cases h:i=e
  ·left;have a:κy i=0:=by
    by_cases q:κy i=0
    ·exact q
    ·have:=hy i q;rw [h]at this;rcases eA with z' |z'
     ·exact absurd z'.1 this.1
     ·exact absurd z'.1 this.2
   have b:μ i=0:=by
    by_cases q:μ i=0
    ·exact q
    ·have:=hM i q;rw [h]at this;rcases eA with z' |z'
     ·rw [this.1]at z';exact absurd z'.1 m3
     ·rw [this.2]at z';exact absurd z'.1 m3
   rw [a,b];rfl
  ·right;unfold one;rw [ac h]
 have d3:∀ i,κy i+μ i+one e t i=0\/κ1 i=0:=fun i=>by
  by_cases h:κ1 i=0
  ·exact .inr h
  ·left;obtain⟨q1,q2⟩:=h1 i h;have a:κy i=0:=by
    by_cases q:κy i=0
    ·exact q
    ·exact absurd q1 (hy i q).1
   have b:μ i=0:=by
    by_cases q:μ i=0
    ·exact q
    ·rw [(hM i q).1]at q1;exact absurd q1 m3
   have c1:i≠e:=fun q=>by
    rw [q]at q1 q2;rcases eA with z' |z'
    ·exact z'.2 q2
    ·exact z'.2 q1
   rw [a,b];unfold one;rw [ac c1];rfl
 have hs:=(k.tnr x t R.tx).2;refine⟨fun i=>κy i+μ i+one e t i+κ1 i,l7 (l7 (l7 Ky.bnd M.bnd d1) (Ba hG hs R.hr) d2) K1.bnd d3,fun i h=>?_,fun q=>?_⟩
 ·by_cases q1:κ1 i=0
  ·by_cases q2:i=e
   ·rw [q2];refine⟨R.he,R.hec,?_⟩;have yy:s.root y∈C\/s.root y∈D\/s.root y=m:=(Z3e R.pD).elim (fun z'=>.inr (.inl z')) fun z'=>.inr (.inr z');rcases R.hj with⟨j1,j2⟩ |⟨j1,j2⟩
    ·rw [j1,j2];exact⟨rx,ry,.inl xC,yy⟩
    ·rw [j1,j2];exact⟨ry,rx,yy,.inl xC⟩
   ·by_cases q3:κy i=0
    ·have q4:μ i≠0:=fun z'=>h (by show κy i+μ i+one e t i+κ1 i=0;rw [q1,q3,z'];unfold one;rw [ac q2];rfl)
     obtain⟨a1,a2,a3,a4,_,_⟩:=M.sup i q4;obtain⟨z1,z2⟩:=hM i q4;exact⟨a1,a2,a3,a4,.inr (.inr z1),.inr (.inr z2)⟩
    ·obtain⟨a1,a2,a3,a4,_,a6,a7⟩:=Ky.sup i q3;exact⟨a1,a2,a3,a4,.inr a6,.inr a7⟩
  ·obtain⟨a1,a2,a3,a4,_,_,_⟩:=K1.sup i q1;obtain⟨z1,z2⟩:=h1 i q1;exact⟨a1,a2,a3,a4,.inl z1,.inl z2⟩
 ·rw [lG,lG,lG,Ky.bdr,M.bdr,Ky.rtw,zq R.he R.hj,K1.bdr,iJ];unfold dl;split<;>split<;>split<;>split<;>split<;>omega
theorem pJ(k:s.Ok G c T)(hG:G.Ok){x y e:Nat}{t:Int}{C D:List Nat}{m:Nat}(R:Ring s G c x y e t C D m)(hn:¬ s.tn m (s.ar m))(CI:s.root x≠s.root y)
  (hx:s.cb x=e->s.root x=x->s.ar x=t->2<=G.room t e)(hy:s.cb y=e->s.root y=y->s.ar y=t->2<=G.room t e):∃ μ,RMu s G c C D m m (s.ar m) μ:=by
 obtain⟨m1,m2,m3,m4,m5,m6⟩:=Z7r k R;have rx:=(k.tnr x t R.tx).1;have ry:=(k.tnr y t R.ty).1;have hsm:=(k.first m m1).2;obtain⟨f,wx,r,Kx⟩:=z0 k hG R.pC rx rfl R.tx;obtain⟨g,wy,r',Ky⟩:=z0 k hG R.pD ry rfl R.ty;have uQ:∀ {w:Nat},s.re w->s.root w=m->w=m:=fun{w} h1 h2=>by
  by_cases q:w=m
  ·exact q
  ·exact absurd (k.cls m w (s.ar m) m1 h1 (fun z'=>q z'.symm) (by rw [h2,m2]) hsm) hn
 have ewx:=uQ Kx.rew Kx.rtw;have Qo:=uQ Ky.rew Ky.rtw;subst ewx;have iJ:r=-(s.ar wx):=by
  have h2:=(k.tnr wx r Kx.tnw).2;by_cases q:r=s.ar wx
  ·rw [q]at Kx;exact absurd Kx.tnw hn
  ·omega
 have eg:r'=-(s.ar wx):=by
  have h3:=Ky.tnw;rw [Qo]at h3;have h2:=(k.tnr wx r' h3).2;by_cases q:r'=s.ar wx
  ·rw [q]at h3;exact absurd h3 hn
  ·omega
 have d1:∀ i,f i=0\/g i=0:=fun i=>by
  by_cases h:f i=0
  ·exact .inl h
  ·right;by_cases h2:g i=0
   ·exact h2
   ·obtain⟨_,_,_,_,a5,_,_⟩:=Kx.sup i h;obtain⟨_,_,_,_,_,b6,b7⟩:=Ky.sup i h2;rcases a5 with q |q
    ·exact(b6.elim (R.dis _ q) fun z'=>by rw [z']at q;exact m3 q).elim
    ·exact(b7.elim (R.dis _ q) fun z'=>by rw [z']at q;exact m3 q).elim
 have sg:=(k.tnr x t R.tx).2;have fe:f e=0\/(f e=s.ar x/\s.cb x=e/\s.root x=x):=by
  by_cases h:f e=0
  ·exact .inl h
  ·right;obtain⟨_,_,_,_,a5,a6,a7⟩:=Kx.sup e h;have Al:s.root y∈C\/s.root y=wx:=by
    rcases R.hj with⟨j1,j2⟩ |⟨j1,j2⟩
    ·rw [j2]at a7;exact a7
    ·rw [j2]at a6;exact a6
   have ym:s.root y=wx:=Al.elim (fun q=>(Z3e R.pD).elim (fun z'=>(R.dis _ q z').elim) id) id;obtain⟨z,hz,w',s1,s2,s3⟩:=Kx.stem e h (by
    rcases R.hj with⟨j1,j2⟩ |⟨j1,j2⟩
    ·rw [j2];exact .inr ym
    ·rw [j2];exact .inl ym)
   obtain⟨_,zz,_⟩:=m5 z hz;rcases R.hj.end s2 with q |q
   ·subst q;exact⟨s3,s1,zz⟩
   ·rw [q]at zz hz;rw [zz]at ym;rw [ym]at hz;exact absurd hz m3
 have ge:g e=0\/(g e=s.ar y/\s.cb y=e/\s.root y=y):=by
  by_cases h:g e=0
  ·exact .inl h
  ·right;obtain⟨_,_,_,_,a5,a6,a7⟩:=Ky.sup e h;have Ak:s.root x∈D\/s.root x=wx:=by
    rcases R.hj with⟨j1,j2⟩ |⟨j1,j2⟩
    ·rw [j1]at a6;exact a6
    ·rw [j1]at a7;exact a7
   have xm:s.root x=wx:=Ak.elim (fun q=>(Z3e R.pC).elim (fun z'=>(R.dis _ z' q).elim) id) id;obtain⟨z,hz,w',s1,s2,s3⟩:=Ky.stem e h (by
    rcases R.hj with⟨j1,j2⟩ |⟨j1,j2⟩
    ·rw [j1];exact .inl xm
    ·rw [j1];exact .inr xm)
   obtain⟨_,zz,_⟩:=m6 z hz;rcases R.hj.end s2 with q |q
   ·rw [q]at zz hz;rw [zz]at xm;rw [xm]at hz;exact absurd hz m4
   ·subst q;exact⟨s3,s1,zz⟩
 have b0:=l7 Kx.bnd Ky.bnd d1;have ye:=fun i hi=>zn hG (e:=i) hi 1;have yS:=fun i hi=>zn hG (e:=i) hi (-1);have bnd:G.Bnd fun i=>f i+g i+one e t i:=fun i hi=>by
  by_cases h:i=e
  ·subst h;show f i+g i+one i t i<=_/\_<=f i+g i+one i t i;unfold one;rw [ae rfl];have a:=ye i hi;have b:=yS i hi;have hr:=R.hr;have fin:∀ v:Int,(v=0\/(v=1\/v=-1)/\(v=t->2<=G.room t i))->v+t<=G.room 1 i/\-(G.room (-1) i)<=v+t:=fun v hv=>by
    rcases sg with rfl |rfl
    ·rcases hv with rfl |⟨rfl |rfl,h2⟩
     ·omega
     ·have:=h2 rfl;omega
     ·omega
    ·rcases hv with rfl |⟨rfl |rfl,h2⟩
     ·omega
     ·omega
     ·have:=h2 rfl;omega
   rcases fe with q1 |⟨q1,q2,q3⟩
   ·rcases ge with q4 |⟨q4,q5,q6⟩
    ·rw [q1,q4];exact fin 0 (.inl rfl)
    ·rw [q1,q4,Int.zero_add];exact fin _ (.inr ⟨(k.first y ry).2,hy q5 q6⟩)
   ·have q4:g i=0:=by
     rcases d1 i with q |q
     ·rw [q1]at q;have:=(k.first x rx).2;omega
     ·exact q
    rw [q1,q4,Int.add_zero];exact fin _ (.inr ⟨(k.first x rx).2,hx q2 q3⟩)
  ·show f i+g i+one e t i<=_/\_<=f i+g i+one e t i;unfold one;rw [ac h];have:=(show f i+g i<=G.room 1 i/\-(G.room (-1) i)<=f i+g i from b0 i hi);omega
 refine⟨fun i=>f i+g i+one e t i,bnd,fun i h=>?_,fun q=>?_⟩
 ·by_cases q2:i=e
  ·rw [q2];refine⟨R.he,R.hec,?_⟩;have yy:s.root y∈C\/s.root y∈D\/s.root y=wx:=(Z3e R.pD).elim (fun z'=>.inr (.inl z')) fun z'=>.inr (.inr z');have xx:s.root x∈C\/s.root x∈D\/s.root x=wx:=(Z3e R.pC).elim (fun z'=>.inl z') fun z'=>.inr (.inr z');rcases R.hj with⟨j1,j2⟩ |⟨j1,j2⟩
   ·rw [j1,j2];exact⟨rx,ry,xx,yy⟩
   ·rw [j1,j2];exact⟨ry,rx,yy,xx⟩
  ·by_cases q3:f i=0
   ·have q4:g i≠0:=fun z'=>h (by show f i+g i+one e t i=0;rw [q3,z'];unfold one;rw [ac q2];rfl)
    obtain⟨a1,a2,a3,a4,_,a6,a7⟩:=Ky.sup i q4;exact⟨a1,a2,a3,a4,.inr a6,.inr a7⟩
   ·obtain⟨a1,a2,a3,a4,_,a6,a7⟩:=Kx.sup i q3;exact⟨a1,a2,a3,a4,a6.elim .inl fun z'=>.inr (.inr z'),a7.elim .inl fun z'=>.inr (.inr z')⟩
 ·rw [lG,lG,Kx.bdr,Ky.bdr,zq R.he R.hj,iJ,eg,Qo];unfold dl;split<;>split<;>split<;>omega
end
end MX
end
section
namespace MX
section
variable{G:Gr}{c:Nat}{T:Int}{s:S}
def S.start(G:Gr)(c:Nat)(T:Int):S where
 re:=fun x=>x=(G.bd c).a\/x=(G.bd c).b
 root:=fun x=>x
 rk:=fun x=>if x=(G.bd c).a then 0 else 1
 nx:=2
 cb:=fun _=>c
 cf:=fun _=>none
 ar:=fun _=>T
 tn:=fun x t=>(x=(G.bd c).a\/x=(G.bd c).b)/\t=-T
 dn:=fun _ _ _=>False
theorem start_ok(hG:G.Ok)(hc:c<G.m)(hT:T=1\/T=-1):(S.start G c T).Ok G c T where
 rn:=fun x h=>by
  rcases h with rfl |rfl
  ·exact hG.an c hc
  ·exact hG.bn c hc
 rkn:=fun x h=>by show(if x=_ then 0 else 1)<2;split<;>decide
 root:=fun x h=>⟨h,rfl,fun q=>absurd rfl q⟩
 first:=fun x h=>⟨⟨h,rfl⟩,hT⟩
 tnr:=fun x t h=>⟨h.1,by rw [h.2];rcases hT with rfl |rfl;exact .inr rfl;exact .inl rfl⟩
 cls:=fun x y t _ _ hn h _=>absurd h hn
 top:=fun x h _=>⟨rfl,h,rfl⟩
 tree:=fun x w h e=>by cases e
 upp:=fun x h q=>absurd rfl q
 ends:=⟨.inl rfl,.inr rfl,rfl,rfl⟩
 mu:=fun v t h=>by
  refine⟨fun _=>0,Ja hG,fun e q=>absurd rfl q,fun w=>?_⟩;rw [Iu,h.2];show 0=-(dl v T w)-dl v (-T) w;unfold dl;split<;>omega
 d1:=fun _ _ _ h=>h.elim
 d2:=fun _ _ _ _ _ h=>h.elim
 d4:=fun _ _ _ _ _ h=>h.elim
def S.reach(s:S)(x y e:Nat)(t:Int):S where
 re:=fun z=>s.re z\/z=y
 root:=fun z=>if z=y then y else s.root z
 rk:=fun z=>if z=y then s.nx else s.rk z
 nx:=s.nx+1
 cb:=fun z=>if z=y then e else s.cb z
 cf:=fun z=>if z=y then some x else s.cf z
 ar:=fun z=>if z=y then t else s.ar z
 tn:=fun z u=>s.tn z u\/(z=y/\u=-t)
 dn:=fun z u f=>s.dn z u f\/(z=x/\u=t/\f=e)
theorem reach_ok(k:s.Ok G c T)(hG:G.Ok){x y e:Nat}{t:Int}(tx:s.tn x t)(he:e<G.m)(hec:e≠c)(hj:Jn (G.bd e) x y)(hr:0<G.room t e)(hy:¬ s.re y):(s.reach x y e t).Ok G c T:=by
 have rx:=(k.tnr x t tx).1;have ht:=(k.tnr x t tx).2;have qN:∀ {z},s.re z->z≠y:=fun h q=>hy (q ▸ h);have xy:x≠y:=qN rx;have rt:∀ {z},s.re z->(s.reach x y e t).root z=s.root z:=fun h=>ac (qN h);have rk:∀ {z},s.re z->(s.reach x y e t).rk z=s.rk z:=fun h=>ac (qN h);have cb:∀ {z},s.re z->(s.reach x y e t).cb z=s.cb z:=fun h=>ac (qN h);have cf:∀ {z},s.re z->(s.reach x y e t).cf z=s.cf z:=fun h=>ac (qN h);have ar:∀ {z},s.re z->(s.reach x y e t).ar z=s.ar z:=fun h=>ac (qN h);have Ag:(s.reach x y e t).root y=y:=ae rfl;have cby:(s.reach x y e t).cb y=e:=ae rfl;have JE:(s.reach x y e t).cf y=some x:=ae rfl;have FO:(s.reach x y e t).ar y=t:=ae rfl;have Ru:(s.reach x y e t).rk y=s.nx:=ae rfl;have vv:∀ {z},s.re z->s.root z≠y:=fun h=>qN (k.root _ h).1;have yn:y<G.n:=by
  rcases hj with⟨_,q⟩ |⟨_,q⟩
  ·rw [<-q];exact hG.bn e he
  ·rw [<-q];exact hG.an e he
 refine⟨fun z h=>?_,fun z h=>?_,fun z h=>?_,fun z h=>?_,fun z u h=>?_,fun z w u h1 h2 hn h hu=>?_,fun z h hc=>?_,fun z w h hc=>?_,fun z h hn=>?_,?_,fun v u h=>?_,fun z u f h=>?_,fun z w u f gF h1 h2=>?_,fun z w u f gF h1 h2 h3 h4=>?_⟩
 ·rcases h with h |rfl
  ·exact k.rn z h
  ·exact yn
 ·rcases h with h |rfl
  ·rw [rk h];exact zd (k.rkn z h)
  ·rw [Ru];exact EZ _
 ·rcases h with h |rfl
  ·rw [rt h];obtain⟨a,b,d⟩:=k.root z h;refine⟨.inl a,by rw [rt a];exact b,fun q=>?_⟩
   rw [rk a,rk h];exact d q
  ·rw [Ag,Ag];exact⟨.inr rfl,rfl,fun q=>absurd rfl q⟩
 ·rcases h with h |rfl
  ·rw [ar h];exact⟨.inl (k.first z h).1,(k.first z h).2⟩
  ·rw [FO];exact⟨.inr ⟨rfl,rfl⟩,ht⟩
 ·rcases h with h |⟨rfl,rfl⟩
  ·exact⟨.inl (k.tnr z u h).1,(k.tnr z u h).2⟩
  ·exact⟨.inr rfl,by omega⟩
 ·rcases h1 with h1 |rfl
  ·rcases h2 with h2 |rfl
   ·rw [rt h1,rt h2]at h;exact .inl (k.cls z w u h1 h2 hn h hu)
   ·rw [rt h1,Ag]at h;exact absurd h (vv h1)
  ·rcases h2 with h2 |rfl
   ·rw [rt h2,Ag]at h;exact absurd h.symm (vv h2)
   ·exact absurd rfl hn
 ·rcases h with h |rfl
  ·rw [cf h]at hc;rw [cb h,ar h];exact k.top z h hc
  ·rw [JE]at hc;cases hc
 ·rcases h with h |rfl
  ·rw [cf h]at hc;obtain⟨a1,a2,a3,a4,a5,a6,a7,a8⟩:=k.tree z w h hc;rw [cb h,ar h,rk h,rk a1];exact⟨.inl a1,a2,a3,a4,a5,a6,.inl a7,.inl a8⟩
  ·rw [JE]at hc;cases hc;rw [cby,FO,Ru,rk rx];exact⟨.inl rx,k.rkn x rx,he,hec,hj.symm,hr,.inl tx,.inr ⟨rfl,rfl,rfl⟩⟩
 ·rcases h with h |rfl
  ·rw [rt h]at hn;obtain⟨w,a,b⟩:=k.upp z h hn;have gI:=(k.tree z w h a).1;exact⟨w,by rw [cf h];exact a,by rw [rt gI,rt h];exact b⟩
  ·exact absurd Ag hn
 ·obtain⟨a,b,d,f⟩:=k.ends;exact⟨.inl a,.inl b,by rw [cf a];exact d,by rw [cf b];exact f⟩
 ·rcases h with h |⟨rfl,rfl⟩
  ·have rv:=(k.tnr v u h).1;obtain⟨μ,M⟩:=k.mu v u h;refine⟨μ,M.bnd,fun f q=>?_,fun w=>?_⟩
   ·obtain⟨a1,a2,a3,a4,a5,a6⟩:=M.sup f q;exact⟨a1,a2,.inl a3,.inl a4,by rw [rt a3,rt rv];exact a5,by rw [rt a4,rt rv];exact a6⟩
   ·rw [M.bdr,rt rv,ar (k.root v rv).1]
  ·refine⟨fun _=>0,Ja hG,fun f q=>absurd rfl q,fun w=>?_⟩;rw [Iu,Ag,FO];unfold dl;split<;>omega
 ·rcases h with h |⟨rfl,rfl,rfl⟩
  ·obtain⟨a1,a2,a3,a4,w,a5,a6⟩:=k.d1 z u f h;exact⟨.inl a1,a2,a3,a4,w,a5,.inl a6⟩
  ·exact⟨.inl tx,he,hec,hr,y,hj,.inr rfl⟩
 ·
  have Df:∀ {u f},¬ s.dn y u f:=fun h=>hy (k.tnr _ _ (k.d1 _ _ _ h).1).1;rcases h1 with h1 |⟨rfl,rfl,rfl⟩
  ·have rz:=(k.tnr _ _ (k.d1 _ _ _ h1).1).1;rcases h2 with h2 |⟨rfl,rfl,rfl⟩
   ·have gI:=(k.tnr _ _ (k.d1 _ _ _ h2).1).1;rw [rt rz,rt gI,cb rz,cb gI,ar rz,ar gI];exact k.d2 z w u f gF h1 h2
   ·have:=Jn.eq gF.symm hj (hG.ne f he);subst this;exact absurd h1 Df
  ·rcases h2 with h2 |⟨rfl,_,_⟩
   ·have:=Jn.eq gF hj (hG.ne f he);subst this;exact absurd h2 Df
   ·exact absurd rfl (Jn.ne gF (hG.ne f he))
 ·
  by_cases q:z=y
  ·subst q;rw [cby]at h2;rw [JE]at h3;rw [FO]at h4;subst h2;cases h3;rcases h1 with h1 |⟨_,rfl,_⟩
   ·obtain⟨_,_,_,_,w',a5,a6⟩:=k.d1 _ _ _ h1;have:=Jn.eq a5 hj (hG.ne e he);subst this;exact absurd a6 hy
   ·rcases ht with rfl |rfl<;>omega
  ·have cbz:(s.reach x y e t).cb z=s.cb z:=ac q;have cfz:(s.reach x y e t).cf z=s.cf z:=ac q;have arz:(s.reach x y e t).ar z=s.ar z:=ac q;have rtz:(s.reach x y e t).root z=s.root z:=ac q;rw [cbz]at h2;rw [cfz]at h3;rw [arz]at h4;rcases h1 with h1 |⟨rfl,rfl,rfl⟩
   ·have gI:=(k.tnr _ _ (k.d1 _ _ _ h1).1).1;rw [rtz,rt gI];exact k.d4 z w u f gF h1 h2 h3 h4
   ·have:=Jn.eq gF.symm hj (hG.ne f he);exact absurd this q
def S.mark(s:S)(x e:Nat)(t:Int):S:={ s with dn:=fun z u f=>s.dn z u f\/(z=x/\u=t/\f=e) }
theorem nB(k:s.Ok G c T){z e x y:Nat}(hz:s.re z)(hb:s.cb z=e)(hec:e≠c)(hj:Jn (G.bd e) x y):(z=x\/z=y)/\∃ w,s.cf z=some w:=by
 cases q:s.cf z with
 |none=>exact absurd (hb.symm.trans (k.top z hz q).1) hec
 |some w =>
  have:=(k.tree z w hz q).2.2.2.2.1;rw [hb]at this;exact⟨hj.end this,w,rfl⟩
theorem mark_ok(k:s.Ok G c T)(hG:G.Ok){x y e:Nat}{t:Int}(tx:s.tn x t)(he:e<G.m)(hec:e≠c)(hj:Jn (G.bd e) x y)(hr:0<G.room t e)(hy:s.re y)
  (h:s.root x=s.root y\/(s.cb (s.root x)=e/\G.room t e=1)\/¬ s.tn y t):(s.mark x e t).Ok G c T:=by
 have rx:=(k.tnr x t tx).1;have ht:=(k.tnr x t tx).2;have ED:s.cb (s.root x)=e->s.root x=s.root y\/(s.root x=x/\s.cb x=e/\s.cf x=some y):=fun hb=>by
  obtain⟨a,w,hw⟩:=nB k (k.root x rx).1 hb hec hj;rcases a with a |a
  ·rw [a]at hb hw;have:=(k.tree x w rx hw).2.2.2.2.1;rw [hb]at this;have:=Jn.eq this hj (hG.ne e he);subst this;exact .inr ⟨a,hb,hw⟩
  ·have:=(k.root x rx).2.1;rw [a]at this;exact .inl (by rw [a,this])
 have CU:s.dn y t e->s.root x=s.root y\/(G.room t e=1/\s.root x=x/\s.cb x=e/\s.ar x=t):=fun hd=>by
  rcases h with h |⟨h1,h2⟩ |h
  ·exact .inl h
  ·rcases ED h1 with z |⟨z1,z2,z3⟩
   ·exact .inl z
   ·by_cases q:s.ar x=t
    ·exact .inr ⟨h2,z1,z2,q⟩
    ·have:s.ar x=-t:=by have:=(k.first x rx).2;omega
     exact .inl (k.d4 x y t e hj hd z2 z3 this)
  ·exact absurd (k.d1 _ _ _ hd).1 h
 refine⟨k.rn,k.rkn,k.root,k.first,k.tnr,k.cls,k.top,fun z w h hc=>?_,k.upp,k.ends,(fun v u h=>let ⟨μ,M⟩:=k.mu v u h;⟨μ,M.bnd,M.sup,M.bdr⟩),fun z u f h=>?_,fun z w u f gF h1 h2=>?_,fun z w u f gF h1 h2 h3 h4=>?_⟩
 ·obtain⟨a1,a2,a3,a4,a5,a6,a7,a8⟩:=k.tree z w h hc;exact⟨a1,a2,a3,a4,a5,a6,a7,.inl a8⟩
 ·rcases h with h |⟨rfl,rfl,rfl⟩
  ·exact k.d1 z u f h
  ·exact⟨tx,he,hec,hr,y,hj,hy⟩
 ·rcases h1 with h1 |⟨rfl,rfl,rfl⟩
  ·rcases h2 with h2 |⟨rfl,rfl,rfl⟩
   ·exact k.d2 z w u f gF h1 h2
   ·have:=Jn.eq gF.symm hj (hG.ne f he);subst this;rcases CU h1 with q |⟨q1,q2⟩
    ·exact .inl q.symm
    ·exact .inr ⟨q1,.inr q2⟩
  ·rcases h2 with h2 |⟨rfl,_,_⟩
   ·have:=Jn.eq gF hj (hG.ne f he);subst this;rcases CU h2 with q |⟨q1,q2⟩
    ·exact .inl q
    ·exact .inr ⟨q1,.inl q2⟩
   ·exact absurd rfl (Jn.ne gF (hG.ne f he))
 ·rcases h1 with h1 |⟨rfl,rfl,rfl⟩
  ·exact k.d4 z w u f gF h1 h2 h3 h4
  ·have:=Jn.eq gF.symm hj (hG.ne f he);subst this;show s.root z=s.root w;rcases h with h |⟨h1,_⟩ |h
   ·exact h.symm
   ·rcases ED h1 with q |⟨_,_,q⟩
    ·exact q.symm
    ·have a:=(k.tree w z rx q).2.1;have b:=(k.tree z w hy h3).2.1;omega
   ·have:=(k.first z hy).1;have h4:s.ar z=-u:=h4;rw [h4,Int.neg_neg]at this;exact absurd this h
end
end MX
end
section
namespace MX
section
variable{G:Gr}{c:Nat}{T:Int}{s:S}
open Classical in
noncomputable def S.fold(s:S)(C D:List Nat)(m x e:Nat)(t:Int):S where
 re:=s.re
 root:=fun v=>if s.root v∈C\/s.root v∈D then m else s.root v
 rk:=s.rk
 nx:=s.nx
 cb:=s.cb
 cf:=s.cf
 ar:=s.ar
 tn:=fun z u=>s.tn z u\/((z∈C\/z∈D\/z=m)/\(u=1\/u=-1))
 dn:=fun z u f=>s.dn z u f\/(z=x/\u=t/\f=e)
theorem fold_ok(k:s.Ok G c T)(hG:G.Ok){x y e:Nat}{t:Int}{C D:List Nat}{m:Nat}(R:Ring s G c x y e t C D m)(CI:s.root x≠s.root y)(KI:¬ (s.cb (s.root x)=e/\G.room t e=1))(wX:¬ s.dn x t e) :
  (s.fold C D m x e t).Ok G c T:=by
 obtain⟨m1,m2,m3,m4,m5,m6⟩:=Z7r k R;have rx:=(k.tnr x t R.tx).1;have ry:=(k.tnr y t R.ty).1;have Ae:∀ {v},(s.root v∈C\/s.root v∈D)->(s.fold C D m x e t).root v=m:=fun h=>ae h;have jA:∀ {v},¬ (s.root v∈C\/s.root v∈D)->(s.fold C D m x e t).root v=s.root v:=fun h=>ac h;have rm:∀ {v},s.root v=m->(s.fold C D m x e t).root v=m:=fun h=>by
  rw [jA (by rw [h];exact fun q=>q.elim m3 m4)];exact h
 have hX:∀ {v},(s.root v∈C\/s.root v∈D\/s.root v=m)->(s.fold C D m x e t).root v=m:=fun h=>by
  rcases h with h |h |h
  ·exact Ae (.inl h)
  ·exact Ae (.inr h)
  ·exact rm h
 have yu:∀ {v w},s.root v=s.root w->(s.fold C D m x e t).root v=(s.fold C D m x e t).root w:=fun{v w} h=>by
  show(if _ then m else s.root v)=if _ then m else s.root w;rw [h]
 have yw:∀ {z},(z∈C\/z∈D)->s.re z/\s.root z=z/\s.rk m<s.rk z:=fun h=>h.elim (m5 _) (m6 _);have tr:∀ {z u},s.tn z u->(s.fold C D m x e t).tn z u:=fun h=>.inl h;have RK:∀ {L:List Nat}{z w:Nat},Path s.up z L (some m)->s.re z->s.root z=z->w∈L->∃ w',s.cf w=some w'/\(s.root w'∈L\/s.root w'=m):=fun{L z w} hp hr hz hw=>by
  obtain⟨C1,C2,e1,p1,p2,b1,b2⟩:=Z4I k hp hr hz hw;cases p2 with
  |step _ z' _ _ hu _ Ci =>
   unfold S.up at hu;cases q:s.cf w with
   |none=>rw [q]at hu;cases hu
   |some w' =>
    rw [q]at hu;have:s.root w'=z':=Option.some.inj hu;refine⟨w',rfl,?_⟩;rw [this];exact(Z3e Ci).imp_left (b2 _)
 have EC:∀ {z},(z∈C\/z∈D)->∃ w,s.cf z=some w/\(s.root w∈C\/s.root w∈D\/s.root w=m):=fun h=>by
  rcases h with h |h
  ·obtain⟨w,a,b⟩:=RK R.pC (k.root x rx).1 (k.root x rx).2.1 h;exact⟨w,a,b.imp_right .inr⟩
  ·obtain⟨w,a,b⟩:=RK R.pD (k.root y ry).1 (k.root y ry).2.1 h;exact⟨w,a,.inr b⟩
 have hyy:s.cb y=e->s.root y=y->s.ar y=t->2<=G.room t e:=fun h1 h2 h3=>by
  obtain⟨_,w,hw⟩:=nB k ry h1 R.hec R.hj;obtain⟨_,_,_,_,a5,_,_,a8⟩:=k.tree y w ry hw;rw [h1]at a5 a8;have:=Jn.eq a5 R.hj.symm (hG.ne e R.he);subst this;rw [h3]at a8;exact absurd a8 wX
 have hxx:s.cb x=e->s.root x=x->s.ar x=t->2<=G.room t e:=fun h1 h2 _=>by
  have:=R.hr;by_cases q:G.room t e=1
  ·exact absurd ⟨by rw [h2];exact h1,q⟩ KI
  ·omega
 have Ak:s.root x∈C\/s.root x∈D\/s.root x=m:=(Z3e R.pC).elim .inl fun q=>.inr (.inr q);have Al:s.root y∈C\/s.root y∈D\/s.root y=m:=(Z3e R.pD).elim (fun q=>.inr (.inl q)) fun q=>.inr (.inr q);have Da:∀ {v:Nat}{u:Int}{μ:Nat->Int},(s.root v∈C\/s.root v∈D\/s.root v=m)->RMu s G c C D m v u μ->∃ μ,(s.fold C D m x e t).Mu G c v u μ:=fun{v u μ} hv h=>by
  refine⟨μ,h.bnd,fun f q=>?_,fun w=>?_⟩
  ·obtain⟨a1,a2,a3,a4,a5,a6⟩:=h.sup f q;exact⟨a1,a2,a3,a4,by rw [hX a5,hX hv],by rw [hX a6,hX hv]⟩
  ·rw [h.bdr,hX hv];rfl
 refine⟨k.rn,k.rkn,fun z h=>?_,fun z h=>⟨tr (k.first z h).1,(k.first z h).2⟩,fun z u h=>?_,fun z w u h1 h2 hn h hu=>?_,k.top,fun z w h hc=>?_,fun z h hn=>?_,k.ends,fun v u h=>?_,fun z u f h=>?_,fun z w u f gF h1 h2=>?_,fun z w u f gF h1 h2 h3 h4=>?_⟩
 ·obtain⟨a,b,d⟩:=k.root z h;by_cases q:s.root z∈C\/s.root z∈D
  ·rw [Ae q,rm m2];refine⟨m1,rfl,fun _=>?_⟩;show s.rk m<s.rk z;have:=(yw q).2.2;by_cases q2:s.root z=z
   ·rw [q2]at this;exact this
   ·exact qu this (d q2)
  ·rw [jA q];refine⟨a,?_,d⟩;rw [jA (by rw [b];exact q)];exact b
 ·rcases h with h |⟨h,hu⟩
  ·exact k.tnr z u h
  ·refine⟨?_,hu⟩;rcases h with h |h |rfl
   ·exact(m5 z h).1
   ·exact(m6 z h).1
   ·exact m1
 ·
  by_cases q1:s.root z=s.root w
  ·exact tr (k.cls z w u h1 h2 hn q1 hu)
  ·have Q9:s.root z∈C\/s.root z∈D\/s.root z=m:=by
    by_cases p1:s.root z∈C\/s.root z∈D
    ·exact p1.imp_right .inl
    ·right;right;rw [jA p1]at h;by_cases p2:s.root w∈C\/s.root w∈D
     ·rw [Ae p2]at h;exact h
     ·rw [jA p2]at h;exact absurd h q1
   by_cases q2:s.root z=z
   ·rw [q2]at Q9;exact .inr ⟨Q9,hu⟩
   ·exact tr (k.cls z (s.root z) u h1 (k.root z h1).1 (fun q=>q2 q.symm) (k.root z h1).2.1.symm hu)
 ·obtain⟨a1,a2,a3,a4,a5,a6,a7,a8⟩:=k.tree z w h hc;exact⟨a1,a2,a3,a4,a5,a6,tr a7,.inl a8⟩
 ·
  by_cases q2:s.root z=z
  ·by_cases q:s.root z∈C\/s.root z∈D
   ·rw [q2]at q;obtain⟨w,a,b⟩:=EC q;refine⟨w,a,?_⟩;rw [hX b,Ae (by rw [q2];exact q)]
   ·rw [jA q]at hn;exact absurd q2 hn
  ·obtain⟨w,a,b⟩:=k.upp z h q2;exact⟨w,a,yu b⟩
 ·
  have rv:s.re v:=by
   rcases h with h |⟨h |h |rfl,_⟩
   ·exact(k.tnr v u h).1
   ·exact(m5 v h).1
   ·exact(m6 v h).1
   ·exact m1
  by_cases ml:s.root v∈C\/s.root v∈D\/s.root v=m
  ·by_cases ir:s.tn v u
   ·rcases ml with q |q |q
    ·obtain⟨μ,M⟩:=O0 k hG R rv q ir;exact Da (.inl q) M
    ·obtain⟨μ,M⟩:=O0 k hG R.symm rv q ir;exact Da (.inr (.inl q)) M.swap
    ·obtain⟨μ,M⟩:=k.mu v u ir;refine⟨μ,M.bnd,fun f p=>?_,fun w=>?_⟩
     ·obtain⟨a1,a2,a3,a4,a5,a6⟩:=M.sup f p;exact⟨a1,a2,a3,a4,yu a5,yu a6⟩
     ·rw [M.bdr,rm q,q];rfl
   ·obtain⟨hv,hu⟩:(v∈C\/v∈D\/v=m)/\(u=1\/u=-1):=h.elim (fun z=>absurd z ir) id;have hf:=k.first v rv;have eu:u=s.ar v:=by
     by_cases q:u=s.ar v
     ·exact q
     ·have:u=-(s.ar v):=by omega
      rw [this]at ir;exact absurd hf.1 ir
    rw [eu]at ir ⊢;rcases hv with q |q |rfl
    ·obtain⟨μ,M⟩:=Oq k hG R q ir;exact Da (.inl (by rw [(m5 v q).2.1];exact q)) M
    ·obtain⟨μ,M⟩:=Oq k hG R.symm q ir;exact Da (.inr (.inl (by rw [(m6 v q).2.1];exact q))) M.swap
    ·obtain⟨μ,M⟩:=pJ k hG R ir CI hxx hyy;exact Da (.inr (.inr m2)) M
  ·
   have ir:s.tn v u:=by
    rcases h with h |⟨h,_⟩
    ·exact h
    ·rcases h with h |h |rfl
     ·exact absurd (.inl (by rw [(m5 v h).2.1];exact h)) ml
     ·exact absurd (.inr (.inl (by rw [(m6 v h).2.1];exact h))) ml
     ·exact absurd (.inr (.inr m2)) ml
   have wY:¬ (s.root v∈C\/s.root v∈D):=fun q=>ml (q.imp_right .inl);obtain⟨μ,M⟩:=k.mu v u ir;refine⟨μ,M.bnd,fun f p=>?_,fun w=>?_⟩
   ·obtain⟨a1,a2,a3,a4,a5,a6⟩:=M.sup f p;exact⟨a1,a2,a3,a4,yu a5,yu a6⟩
   ·rw [M.bdr,jA wY];rfl
 ·rcases h with h |⟨rfl,rfl,rfl⟩
  ·obtain⟨a1,a2⟩:=k.d1 z u f h;exact⟨tr a1,a2⟩
  ·exact⟨tr R.tx,R.he,R.hec,R.hr,y,R.hj,ry⟩
 ·
  have Qq:(s.fold C D m x e t).root x=(s.fold C D m x e t).root y:=by rw [hX Ak,hX Al]
  have stay:∀ {p q:Nat},Jn (G.bd f) p q->s.dn p u f->s.root p=p/\s.cb p=f/\s.ar p=u->(s.fold C D m x e t).root p=(s.fold C D m x e t).root q\/((s.fold C D m x e t).root p=p/\s.cb p=f/\s.ar p=u):=fun{p q} hjp hd ⟨h1,h2,h3⟩=>by
   have rp:=(k.tnr _ _ (k.d1 _ _ _ hd).1).1;by_cases z1:s.root p∈C\/s.root p∈D
   ·left;rw [h1]at z1;obtain⟨w',a,b⟩:=EC z1;have a5:=(k.tree p w' rp a).2.2.2.2.1;rw [h2]at a5;have:=Jn.eq a5 hjp (hG.ne f (k.d1 _ _ _ hd).2.1);subst this;rw [hX b,Ae (by rw [h1];exact z1)]
   ·right;rw [jA z1];exact⟨h1,h2,h3⟩
  rcases h1 with h1 |⟨rfl,rfl,rfl⟩
  ·rcases h2 with h2 |⟨rfl,rfl,rfl⟩
   ·rcases k.d2 z w u f gF h1 h2 with q |⟨q1,q2 |q2⟩
    ·exact .inl (yu q)
    ·rcases stay gF h1 q2 with q3 |q3
     ·exact .inl q3
     ·exact .inr ⟨q1,.inl q3⟩
    ·rcases stay gF.symm h2 q2 with q3 |q3
     ·exact .inl q3.symm
     ·exact .inr ⟨q1,.inr q3⟩
   ·have:=Jn.eq gF.symm R.hj (hG.ne f R.he);subst this;exact .inl Qq.symm
  ·rcases h2 with h2 |⟨rfl,_,_⟩
   ·have:=Jn.eq gF R.hj (hG.ne f R.he);subst this;exact .inl Qq
   ·exact absurd rfl (Jn.ne gF (hG.ne f R.he))
 ·rcases h1 with h1 |⟨rfl,rfl,rfl⟩
  ·exact yu (k.d4 z w u f gF h1 h2 h3 h4)
  ·have:=Jn.eq gF.symm R.hj (hG.ne f R.he);subst this;rw [hX Ak,hX Al]
open Classical in
theorem ended(k:s.Ok G c T)(hG:G.Ok)(hc:c<G.m)(hT:T=1\/T=-1)(all:∀ x y t e,s.tn x t->e<G.m->e≠c->Jn (G.bd e) x y->0<G.room t e->s.dn x t e){δ:Nat->Int}(hd:G.Chg δ):δ c≠T:=by
 let aY:Nat->Lab:=fun x=>if s.tn x 1 then(if s.tn x (-1)then .two (s.root x)else .one 1)else(if s.tn x (-1)then .one (-1)else .un)
 have l1:∀ {x t},aY x=.one t->(t=1\/t=-1)/\s.tn x t:=fun{x t} h=>by
  simp only [aY]at h;split at h
  ·split at h
   ·cases h
   ·cases h;exact⟨.inl rfl,by assumption⟩
  ·split at h
   ·cases h;exact⟨.inr rfl,by assumption⟩
   ·cases h
 have l2:∀ {x r},aY x=.two r->s.tn x 1/\s.tn x (-1)/\r=s.root x:=fun{x r} h=>by
  simp only [aY]at h;split at h
  ·split at h
   ·cases h;exact⟨by assumption,by assumption,rfl⟩
   ·cases h
  ·split at h<;>cases h
 have vg:∀ {x},s.tn x 1->s.tn x (-1)->aY x=.two (s.root x):=fun h1 h2=>by simp only [aY];rw [ae h1,ae h2]
 have has:∀ {x t},(t=1\/t=-1)->(aY x).has t->s.tn x t:=fun{x t} ht h=>by
  cases hl:aY x with
  |un=>rw [hl]at h;exact h.elim
  |one u=>rw [hl]at h;have h:u=t:=h;subst h;exact(l1 hl).2
  |two r =>
   obtain⟨a,b,_⟩:=l2 hl;rcases ht with rfl |rfl
   ·exact a
   ·exact b
 have hs:∀ {x t},s.tn x t->(aY x).has t:=fun{x t} h=>by
  have ht:=(k.tnr x t h).2;cases hl:aY x with
  |un =>
   simp only [aY]at hl;split at hl
   ·split at hl<;>cases hl
   ·rename_i a;split at hl
    ·cases hl
    ·rename_i b;rcases ht with rfl |rfl
     ·exact absurd h a
     ·exact absurd h b
  |one u =>
   show u=t;obtain⟨a,b⟩:=l1 hl;by_cases q:u=t
   ·exact q
   ·have:s.tn x 1/\s.tn x (-1):=by
     rcases a with rfl |rfl<;>rcases ht with rfl |rfl
     ·exact absurd rfl q
     ·exact⟨b,h⟩
     ·exact⟨h,b⟩
     ·exact absurd rfl q
    rw [vg this.1 this.2]at hl;cases hl
  |two r=>trivial
 have DG:∀ {x},s.re x->aY x≠.un:=fun{x} h q=>by
  have:=hs (k.first x h).1;rw [q]at this;exact this
 have rP:∀ {x},s.tn x (s.ar x)->s.re x->s.tn x 1/\s.tn x (-1):=fun{x} h hr=>by
  obtain⟨a,b⟩:=k.first x hr;rcases b with b |b<;>rw [b]at a h
  ·exact⟨h,a⟩
  ·exact⟨a,h⟩
 have JD:lv G c T aY s.cb:=by
  refine⟨fun v t hv h=>(l1 h).1,fun v r hv h=>?_,fun e t he hec ht hr=>?_,fun e t he hec ht hr ha hb=>?_,fun r hr h=>?_,hc,?_,?_,hT⟩
  ·obtain⟨a,b,rfl⟩:=l2 h;have rv:=(k.tnr v 1 a).1;obtain⟨q1,q2,_⟩:=k.root v rv;refine⟨k.rn _ q1,?_⟩;by_cases q:s.root v=v
   ·rw [q];rw [q]at h;exact h
   ·have:=k.cls (s.root v) v;rw [vg (this 1 q1 rv q q2 (.inl rfl)) (this (-1) q1 rv q q2 (.inr rfl)),q2]
  ·refine⟨fun h=>?_,fun h=>?_⟩
   ·obtain⟨_,_,_,_,y,q1,q2⟩:=k.d1 _ _ _ (all _ _ t e (has ht h) he hec (.inl ⟨rfl,rfl⟩) hr);have:=Jn.eq q1 (.inl ⟨rfl,rfl⟩) (hG.ne e he);subst this;exact DG q2
   ·obtain⟨_,_,_,_,y,q1,q2⟩:=k.d1 _ _ _ (all _ _ t e (has ht h) he hec (.inr ⟨rfl,rfl⟩) hr);have:=Jn.eq q1 (.inr ⟨rfl,rfl⟩) (hG.ne e he);subst this;exact DG q2
  ·have ta:=has ht ha;have tb:=has ht hb;have ra:=(k.tnr _ _ ta).1;have rb:=(k.tnr _ _ tb).1;have da:=all _ _ t e ta he hec (.inl ⟨rfl,rfl⟩) hr;have db:=all _ _ t e tb he hec (.inr ⟨rfl,rfl⟩) hr;have ne:=hG.ne e he;rcases k.d2 _ _ t e (.inl ⟨rfl,rfl⟩) da db with q |⟨q1,⟨z1,z2,z3⟩ |⟨z1,z2,z3⟩⟩
   ·left;refine⟨s.root (G.bd e).a,vg (k.cls _ _ 1 ra rb ne q (.inl rfl)) (k.cls _ _ (-1) ra rb ne q (.inr rfl)),?_⟩;rw [q];exact vg (k.cls _ _ 1 rb ra ne.symm q.symm (.inl rfl)) (k.cls _ _ (-1) rb ra ne.symm q.symm (.inr rfl))
   ·right;refine⟨q1,.inl ⟨?_,z2⟩⟩;obtain⟨b1,b2⟩:=rP (by rw [z3];exact ta) ra
    rw [vg b1 b2,z1]
   ·right;refine⟨q1,.inr ⟨?_,z2⟩⟩;obtain⟨b1,b2⟩:=rP (by rw [z3];exact tb) rb
    rw [vg b1 b2,z1]
  ·obtain⟨a,b,e1⟩:=l2 h;have rr:=(k.tnr _ _ a).1;cases q:s.cf r with
   |none=>exact .inl (k.top r rr q).1
   |some w =>
    obtain⟨a1,a2,a3,a4,a5,a6,a7,a8⟩:=k.tree r w rr q;refine .inr ⟨a3,a4,s.ar r,(k.first r rr).2,a6,?_⟩;rcases a5 with⟨z1,z2⟩ |⟨z1,z2⟩
    ·exact .inl ⟨z1,by rw [z2];exact hs a7⟩
    ·exact .inr ⟨z1,by rw [z2];exact hs a7⟩
  ·obtain⟨ra,_,ca,_⟩:=k.ends;obtain⟨t1,_,t3⟩:=k.top _ ra ca;have f:=(k.first _ ra).1;rw [t3]at f;by_cases q:s.tn (G.bd c).a T
   ·obtain⟨b1,b2⟩:=rP (by rw [t3];exact q) ra
    right;rw [vg b1 b2,k.rootTop ra ca];exact⟨rfl,t1⟩
   ·left;have:=hs f;cases hl:aY (G.bd c).a with
    |un=>rw [hl]at this;exact this.elim
    |one u=>rw [hl]at this;have h:u=-T:=this;rw [h]
    |two r=>exact absurd (by rcases hT with rfl |rfl;exact(l2 hl).1;exact(l2 hl).2.1) q
  ·obtain⟨_,ra,_,ca⟩:=k.ends;obtain⟨t1,_,t3⟩:=k.top _ ra ca;have f:=(k.first _ ra).1;rw [t3]at f;by_cases q:s.tn (G.bd c).b T
   ·obtain⟨b1,b2⟩:=rP (by rw [t3];exact q) ra
    right;rw [vg b1 b2,k.rootTop ra ca];exact⟨rfl,t1⟩
   ·left;have:=hs f;cases hl:aY (G.bd c).b with
    |un=>rw [hl]at this;exact this.elim
    |one u=>rw [hl]at this;have h:u=-T:=this;rw [h]
    |two r=>exact absurd (by rcases hT with rfl |rfl;exact(l2 hl).1;exact(l2 hl).2.1) q
 exact ZbE JD hG hd
end
end MX
end
section
namespace RD
open PySem PySem.Spec PyProof.Rows L2 EX
section
variable{X:Cx}
theorem PH:iB X (binaryOp .Mult) (rI IntMulOk fun i j=>.int (i*j)):=Rm fun _ _ _ _ _ _ _ hc q=>mul_int q hc
end
end RD
end
section
namespace LA
abbrev R:=List Int
def dot:R->R->Int
 |x::a,y::b=>x*y+dot a b
 |_,_=>0
end LA
end
section
namespace BK
open PySem PySem.Spec PyProof.Rows L2 EX RD
def top(i:Nat):Stmt:=PySem.Challenge.pw_wholeamounts_s07_kept.main.body.getD i (.Pass ⟨0,0,0,0⟩)
abbrev zk:Stmt:=io (top 1) 0
abbrev A6:Stmt:=top 6
abbrev HJ:Stmt:=top 9
abbrev HA:Stmt:=top 10
abbrev vV:Stmt:=top 12
abbrev AU:Stmt:=top 13
abbrev uL:Stmt:=top 14
abbrev Hj:Stmt:=top 15
abbrev Ik:Stmt:=top 16
abbrev HI:Stmt:=io (top 27) 0
abbrev Hr:Stmt:=io (top 27) 1
abbrev HM:Stmt:=io (top 27) 2
abbrev HE:Stmt:=io (top 27) 3
abbrev HC:Stmt:=io (top 27) 4
abbrev Ii:Stmt:=io (top 32) 0
abbrev HN:Stmt:=io (top 33) 0
abbrev HG:Stmt:=io (top 33) 1
abbrev HH:Stmt:=io (top 33) 2
abbrev Hw:Stmt:=io (top 33) 3
abbrev Hg:Stmt:=io (top 33) 4
abbrev Hl:Stmt:=io (top 33) 5
abbrev Hi:Stmt:=io (top 33) 6
abbrev Ht:Stmt:=io (top 33) 7
abbrev Hu:Stmt:=io (top 33) 8
abbrev HL:Stmt:=io (top 33) 9
abbrev Hv:Stmt:=io (top 33) 10
abbrev A4:Stmt:=top 34
abbrev Hf:Stmt:=top 35
abbrev IJ:Stmt:=top 36
abbrev Ih:Stmt:=io (top 50) 0
abbrev Ig:Stmt:=io (top 51) 0
abbrev Hk:Stmt:=io (top 52) 0
abbrev Hn:Stmt:=top 53
abbrev AT:Stmt:=top 54
abbrev HB:Stmt:=top 55
abbrev Hy:Stmt:=top 56
abbrev AS:Stmt:=top 57
abbrev Hq:Stmt:=top 58
abbrev HF:Stmt:=top 59
abbrev Hs:Stmt:=top 60
abbrev Ho:Stmt:=top 61
abbrev Hh:Stmt:=top 62
abbrev Hm:Stmt:=io (top 68) 0
abbrev vW:Stmt:=top 69
abbrev HP:Stmt:=top 70
abbrev mO:Stmt:=top 77
abbrev Hx:Stmt:=top 78
abbrev IG:Stmt:=top 79
end BK
end
section
namespace BK
open PySem PySem.Spec PyProof.Rows L2 EX RD LM
structure ND(K:aq)(mg:Str->Option Value)(CF CW CN CT fF:Addr):Prop where
 xc:XC K CF fF ["rule","place","which"]
 xw:XP K CW
 xn:XP K CN
 xt:XP K CT
 mF:mg "Fault" = some (.ref CF)
 mW:mg "WrongNumbers" = some (.ref CW)
 mN:mg "NotThere" = some (.ref CN)
 mT:mg "TooGreat" = some (.ref CT)
 fw:CW≠CF
 fn:CN≠CF
 ft:CT≠CF
 wn:CN≠CW
 wt:CT≠CW
 nt:CT≠CN
 xg:XG K CF
 nr:NoAttr K CF "rule"
 np:NoAttr K CF "place"
 nw:NoAttr K CF "which"
 c0:∃ u,mg "ANSWERED" = some u/\RelV (.int 0) u
 c1:∃ u,mg "WRONG_NUMBERS" = some u/\RelV (.int (-1)) u
 c2:∃ u,mg "NOT_THERE" = some u/\RelV (.int (-2)) u
 c5:∃ u,mg "FAULTY_FORM" = some u/\RelV (.int (-5)) u
 c6:∃ u,mg "TOO_GREAT" = some u/\RelV (.int (-6)) u
def Jt(CF CW CN CT:Addr)(gD:List Int):XK:=fun cls d H =>
 (cls=.ref CF/\∃ dx r p w,d=some dx/\H dx=some (.xd (xf r p w))/\gD=[-5,w,r,p])\/(cls=.ref CW/\gD=[-1])\/(cls=.ref CN/\gD=[-2])\/(cls=.ref CT/\gD=[-6])
theorem Bn{X:Cx}{f:Str}{e:Expr}{pos:Pos}{ta:TE}(K:aq)(hK:X.K=K)(he:PE X e ta)(hb:attributeBase e f X.env (eval e X.env)=eval e X.env):PE X (.Attribute e f pos) (RH K ta f):=by
 subst hK;exact DA he hb
section
variable{P:Program}{w:World}{K:aq}{mg:Str->Option Value}{base:Heap}{CF CW CN CT fF:Addr}{ι:Type}{pre:ι->List V->Hp->Prop}{gD:ι->List Int}{z:Bool}
def RA(CF CW CN CT:Addr)(pre:ι->List V->Hp->Prop)(gD:ι->List Int)(vs:List V):Sp:=fun us H Q E=>us=[]/\∃ x,pre x vs H /\
 (∀ H' t xs,L2.Same H H'->H t=none->H' t=some (.lst (xs.map V.int))->gD x=0::xs->Q (.ref t) H')/\∀ cls d H',Jt CF CW CN CT (gD x) cls d H'->E cls d H'
def spA(pre:ι->List V->Hp->Prop)(gD:ι->List Int)(f:Addr)(vs:List V):Sp:=fun us H Q _=>us=[.ref f]/\∃ x,pre x vs H/\(gD x).length<=sizeLine/\∀ H' u,H' u=some (.lst ((gD x).map V.int))->Q (.ref u) H'
theorem vy:cU ["tell","fault"] ["tell"] (bj IG):=⟨rfl,rfl,rfl,by decide +kernel,rfl,by decide +kernel,by decide +kernel⟩
theorem Dl{fA f:Addr}{gw fd:FuncData}{k:Nat}{vs:List V}(F:Fun K "answer" "answer" IG fA gw)(T:ND K mg CF CW CN CT fF)(GL:am P w K mg base (CXQ z P w) k f fd [] (RA CF CW CN CT pre gD vs))(hf:PySem.W.FnAt f base)
  (bL:Binds K fd [] [])(xh:∀ x H H',L2.Same H H'->pre x vs H->pre x vs H'):am P w K mg base CX0 (k+1) fA gw ["tell"] (spA pre gD f vs):=by
 refine F.ok vy (fun vs H Q E h=>?_) (fun bp A outer s H EG Q E hr h=>?_)
 ·rw [h.1];rfl
 ·obtain⟨rfl,x,hp,FX,h⟩:=h;refine⟨_,bg (yt (W:=fun D cls d H'=>Jt CF CW CN CT (gD x) cls d H'/\∀ H2 u,H2 u=some (.lst ((gD x).map V.int))->D.rt (.ref u) H2) rfl rfl rfl
   (fun pins E1 Ew hp=>bg (dJ (aZ oS (mL (ao (ay rfl T.c0) aD)) (tL (i:=0) GL hr hf bL hp))))
   (fun pins D H s ea T1 C d a hW=>?_)),?_⟩
  ·obtain⟨hW,hQ⟩:=hW;rcases hW with⟨e,dx,r,p,w,rfl,hd,hq⟩ |⟨e,hq⟩ |⟨e,hq⟩ |⟨e,hq⟩
   ·cases e;rw [hq]at hQ;refine' BW (i:=1) a T.xc.k1 rfl rfl rfl rfl T.mF vy.nd rfl rfl ?hs0 ?hE0
    case hs0=>exact fun ea=>bg (dJ (mL (ao (ay rfl T.c5) (ao (Bn K rfl (pv 1) rfl) (ao (Bn K rfl (pv 1) rfl) (ao (Bn K rfl (pv 1) rfl) aD))))))
    intro ea F6 Lv;have h1:upd H ea (XE z ea CF dx) dx=some (.xd (xf r p w)):=by rw [aj Lv.symm];exact hd
    exact⟨_,rfl,z,ea,CF,dx,_,_,rfl,Z2j,h1,T.xg,T.nw,qt _ _ _,_,rfl,z,ea,CF,dx,_,_,rfl,Z2j,h1,T.xg,T.nr,PF _ _ _,_,rfl,z,ea,CF,dx,_,_,rfl,Z2j,h1,T.xg,T.np,O2 _ _ _,
     (by show 4<=sizeLine;decide),fun u hu=>hQ _ u Z2j⟩
   ·cases e;rw [hq]at hQ;refine zo a rfl T.mF T.xw.k1 T.xc.k1 T.fw ?_;refine' Jl a T.xw.k1 rfl rfl rfl rfl T.mW ?hs1 ?hE1
    case hs1=>exact fun ea=>bg (dJ (mL (ao (ay rfl T.c1) aD)))
    exact⟨(by show 1<=sizeLine;decide),fun u hu=>hQ _ u Z2j⟩
   ·cases e;rw [hq]at hQ;refine zo a rfl T.mF T.xn.k1 T.xc.k1 T.fn (zo a rfl T.mW T.xn.k1 T.xw.k1 T.wn ?_);refine' Jl a T.xn.k1 rfl rfl rfl rfl T.mN ?hs2 ?hE2
    case hs2=>exact fun ea=>bg (dJ (mL (ao (ay rfl T.c2) aD)))
    exact⟨(by show 1<=sizeLine;decide),fun u hu=>hQ _ u Z2j⟩
   ·cases e;rw [hq]at hQ;refine zo a rfl T.mF T.xt.k1 T.xc.k1 T.ft (zo a rfl T.mW T.xt.k1 T.xw.k1 T.wt (zo a rfl T.mN T.xt.k1 T.xn.k1 T.nt ?_));refine' Jl a T.xt.k1 rfl rfl rfl rfl T.mT ?hs3 ?hE3
    case hs3=>exact fun ea=>bg (dJ (mL (ao (ay rfl T.c6) aD)))
    exact⟨(by show 1<=sizeLine;decide),fun u hu=>hQ _ u Z2j⟩
  ·refine⟨(by show 1<=sizeLine;decide),fun l hl=>⟨rfl,rfl,x,xh x _ _ (RD.Same.new hl) hp,fun H' t xs s1 nt ht e=>?_,fun cls d H' r=>⟨r,h⟩⟩⟩
   rw [e]at h FX;refine⟨l,t,_,_,rfl,rfl,s1 _ _ Z2j,ht,?_,fun p hp=>h _ p Z2j⟩;rw [gB]at FX;simp only [gB,lA,aT];omega
end
def spD{ι:Type}(PT:Addr)(ix:List Nat)(pre:ι->List V->Hp->Prop)(gD:ι->List Int):Sp:=fun us H Q _=>us.length=ix.length/\H PT=some (.tbl #[])/\∃ x vs,vs.length=ix.length/\(∀ (j i:Nat)(v:V),ix[j]?=some i->vs[j]?=some v->us[i]?=some v) /\
 (∀ cZ,pre x vs (upd H PT (.tbl cZ)))/\(gD x).length<=sizeLine/\∀ H' p,H' p=some (.lst ((gD x).map V.int))->Q (.ref p) H'
theorem nF{K:aq}{x:Str}{c PT f:Addr}{oc:Value}{od:Option Addr}{fd:FuncData}{jb:Array (Option Value)}(h:PySem.W.tabIn K x=some (c,PT))(hn:PySem.W.nsIn K mainGlobals x=some (some (.ref f)))
  (lk:K.lookup f=some ⟨oc,od,.func fd,jb⟩):fd.code=.ref c:=by
 unfold PySem.W.tabIn at h;rw [hn]at h;dsimp only at h;rw [lk]at h;dsimp only at h;split at h
 ·rename_i c2 hc;split at h
  ·split at h
   ·cases h;exact hc
   ·cases h
  ·cases h
 ·cases h
noncomputable def kW(st:Stmt):Arguments×Expr×Scope×Pos:=match eP st with
 |[.Return (some (.Call _ [.Lambda a b s p] _ _)) _]=>(a,b,s,p)
 |_=>(lF st,.Name "" ⟨0,0,0,0⟩,bj st,⟨0,0,0,0⟩)
abbrev zm(st:Stmt):Arguments:=(kW st).1
abbrev Bc(st:Stmt):Expr:=(kW st).2.1
abbrev rE(st:Stmt):Scope:=(kW st).2.2.1
abbrev xI(st:Stmt):Pos:=(kW st).2.2.2
structure Ju(st:Stmt)(ps M:List Str)(ix:List Nat):Prop where
 fs:cU ps ps (bj st)
 ls:FC M (rE st)
 body:∃ p1 p2 p3,eP st=[.Return (some (.Call (.Name "answer" p1) [.Lambda (zm st) (Bc st) (rE st) (xI st)] [] p2)) p3]
 dft:∀ env,defaultsOf (zm st) env=([],[])
 cel:∀ y∈(rE st).names,y.2=.free->(bj st).names.lookup y.1=some .cell
 at_:∀ (j:Nat)(y:Str),M[j]?=some y->∃ i,ix[j]?=some i/\ps[i]?=some y
 len:ix.length=M.length
 uq:∀ y∈(rE st).names,(rE st).names.lookup y.1=some y.2
 gl:(bj st).names.lookup ("answer" : Str)=some .globalImplicit
 cb:∀ (qual:Str)(cl:List (Str×Addr))(pm cd rT:Value),bindArgs (PySem.W.kla_fn "<lambda>" qual (zm st) (Bc st) (rE st) cl pm cd rT) ⟨[],[]⟩=pure []
section
variable{P:Program}{w:World}{K:aq}{mg:Str->Option Value}{base:Heap}{CF CW CN CT fF:Addr}{ι:Type}{pre:ι->List V->Hp->Prop}{gD:ι->List Int}{k:Nat}{nm:Str}{st:Stmt}{f fA c PT:Addr}{fd gw:FuncData}{ps M:List Str}{ix:List Nat}
theorem okD(F:Fun K nm nm st f fd)(jh:fd.code=.ref c)(S:Ju st ps M ix)(hC:PySem.W.CodeHd base c PT)(hB:base.BuiltinsAt mg PT)
  (hm:mg "answer" = some (.ref fA))(hk:PySem.W.keepIn K (.ref fA)=true)(hb:Binds K gw ["tell"] [])
  (GA:∀ (base:Heap)(f:Addr)(fd:FuncData)(cl:List (Str×Addr))(cd:Value)(vs:List V),K.In base->base.Ns mainGlobals mg->uA base f fd (nm++".<locals>."++"<lambda>") (zm st) (Bc st) (rE st) cl cd M vs ->
    am P w K mg base CX0 k fA gw ["tell"] (spA pre gD f vs))(Ks:ix.length=ps.length) :
  am P w K mg base CX0 (k+1) f fd ps (spD PT ix pre gD):=by
 obtain⟨oc,od,kV,gU,pm,an,bp,ct,jb,rfl,lk,hc⟩:=F.ex;obtain rfl:bp=.ref c:=jh;refine nU lk hc S.fs (fun vs H Q E h=>by rw [h.1,Ks]) fun A outer s H us Q E hr h=>?_
 obtain⟨hl,hT,x,vs,K2,K3,hp,FX,hq⟩:=h;obtain⟨p1,p2,p3,Ka⟩:=S.body;rw [Ka];refine⟨_,bg (dJ (yi (ix:=ix) (spA:=spA pre gD) (CX:=CX0) (E:=E0) hC hB rfl rfl rfl rfl (fun _=>rfl) (S.dft _) S.ls S.cel S.at_ S.len S.uq S.gl hm hk hb hr (fun _ _ _ _ _ _ _ z=>z.elim) GA (by decide) rfl)),?_⟩
 refine⟨#[],vs,hT,rfl,by first |trivial |exact .nil |simp [TriplesOk] |decide,K2,fun j i v e1 e2=>?_,fun f' cZ hf'=>⟨rfl,x,hp _,FX,hq⟩⟩
 have z:=K3 j i v e1 e2;have hi:i<us.length:=(ee.mp z).1;unfold L2.start;rw [mI (by simpa using hi),dP,z]
 rfl
theorem nv{qual:Str}{cl:List (Str×Addr)}{cd:Value}{vs:List V}(S:Ju st ps M ix)(L:uA base f fd qual (zm st) (Bc st) (rE st) cl cd M vs):Binds K fd [] []:=by
 obtain⟨oc,od,sl,pm,rT,rfl,_⟩:=L.ex;exact .all fun us hl=>by
  obtain rfl:us=[]:=E7 hl;exact S.cb ..
theorem nS{qual:Str}{cl:List (Str×Addr)}{cd:Value}{vs:List V}{a:Arguments}{b:Expr}{sc:Scope}(L:uA base f fd qual a b sc cl cd M vs):PySem.W.FnAt f base:=by
 obtain⟨oc,od,sl,pm,rT,_,e⟩:=L.ex;exact⟨oc,od,_,sl,e⟩
end
end BK
end
section
namespace MX
open Classical in
noncomputable def cnt:Nat->(Nat->Prop)->Nat
 |0,_=>0
 |n+1,p=>cnt n p+if p n then 1 else 0
theorem Z4H{n:Nat}{p q:Nat->Prop}(h:∀ x,x<n->(p x↔q x)):cnt n p=cnt n q:=by
 induction n with
 |zero=>rfl
 |succ n ih =>
  unfold cnt;rw [ih fun x hx=>h x (by omega)]
  have:=h n (by omega)
  by_cases q1:p n
  ·rw [ae q1,ae (this.mp q1)]
  ·rw [ac q1,ac fun z=>q1 (this.mpr z)]
open Classical in
theorem Z8J{n a:Nat}{p q:Nat->Prop}(ha:a<n)(hp:p a)(h:∀ x,q x↔p x/\x≠a):cnt n p=cnt n q+1:=by
 induction n with
 |zero=>omega
 |succ n ih =>
  unfold cnt;by_cases e:n=a
  ·subst e;rw [ae hp,ac (fun z=>((h n).mp z).2 rfl),Z4H (p:=p) (q:=q) fun x hx=>⟨fun z=>(h x).mpr ⟨z,by omega⟩,fun z=>((h x).mp z).1⟩]
  ·rw [ih (by omega)]
   have:(if p n then 1 else 0)=(if q n then 1 else 0):=by
    by_cases q1:p n
    ·rw [ae q1,ae ((h n).mpr ⟨q1,e⟩)]
    ·rw [ac q1,ac fun z=>q1 ((h n).mp z).1]
   rw [this];omega
theorem cnt_le(n:Nat)(p:Nat->Prop):cnt n p<=n:=by
 induction n with
 |zero=>exact bK _
 |succ n ih=>unfold cnt;split<;>omega
noncomputable def miss(s:S)(n:Nat):Nat:=cnt n (fun x=>¬ s.tn x 1)+cnt n (fun x=>¬ s.tn x (-1))
def S.allow(s:S)(x:Nat)(t:Int):S:={ s with tn:=fun z u=>s.tn z u\/(z=x/\u=t) }
theorem Zba{s:S}{n x:Nat}{t:Int}(hx:x<n)(ht:t=1\/t=-1)(h:¬ s.tn x t):miss s n=miss (s.allow x t) n+1:=by
 unfold miss;rcases ht with rfl |rfl
 ·rw [Z8J (p:=fun x=>¬ s.tn x 1) (q:=fun z=>¬ (s.allow x 1).tn z 1) hx h fun z=>?_,Z4H (p:=fun x=>¬ s.tn x (-1)) (q:=fun z=>¬ (s.allow x 1).tn z (-1)) fun z _=>?_]
  ·omega
  ·refine⟨fun a b=>?_,fun a b=>a (.inl b)⟩;rcases b with b |⟨_,b⟩
   ·exact a b
   ·omega
  ·refine⟨fun a=>⟨fun b=>a (.inl b),fun b=>a (.inr ⟨b,rfl⟩)⟩,fun a b=>?_⟩;rcases b with b |⟨b,_⟩
   ·exact a.1 b
   ·exact a.2 b
 ·rw [Z8J (p:=fun x=>¬ s.tn x (-1)) (q:=fun z=>¬ (s.allow x (-1)).tn z (-1)) hx h fun z=>?_,Z4H (p:=fun x=>¬ s.tn x 1) (q:=fun z=>¬ (s.allow x (-1)).tn z 1) fun z _=>?_]
  ·omega
  ·refine⟨fun a b=>?_,fun a b=>a (.inl b)⟩;rcases b with b |⟨_,b⟩
   ·exact a b
   ·omega
  ·refine⟨fun a=>⟨fun b=>a (.inl b),fun b=>a (.inr ⟨b,rfl⟩)⟩,fun a b=>?_⟩;rcases b with b |⟨b,_⟩
   ·exact a.1 b
   ·exact a.2 b
def cfI(s:S)(x:Nat):Int:=match s.cf x with
 |none=>-1
 |some w=>w
end MX
namespace BK
open PySem PySem.Spec PyProof.Rows L2 EX RD LM
structure SA where
 sr:Addr
 dx:Addr
 wl:Addr
 db:Addr
 cb:Addr
 cf:Addr
 tn:Addr
 wq:Addr
abbrev SA.mut(A:SA):List Addr:=[A.db,A.cb,A.cf,A.tn,A.wq]
def SA.flds(A:SA)(c:Nat):List (Str×V):=[("ways",.ref A.wl),("cut",.int (c:Int)),("bases",.ref A.db),("came_by",.ref A.cb),("came_from",.ref A.cf),("turns",.ref A.tn),("waiting",.ref A.wq)]
theorem tX(A:SA)(c:Nat):(SA.flds A c).lookup ("ways" : Str)=some (.ref A.wl):=by
 unfold SA.flds;rw [bh,show(("ways" : Str)=="ways")=true by decide]
theorem yB(A:SA)(c:Nat):(SA.flds A c).lookup ("cut" : Str)=some (.int (c:Int)):=by
 unfold SA.flds;rw [bh,show(("cut" : Str)=="ways")=false by decide,bh,show(("cut" : Str)=="cut")=true by decide]
theorem rD(A:SA)(c:Nat):(SA.flds A c).lookup ("bases" : Str)=some (.ref A.db):=by
 unfold SA.flds;rw [bh,show(("bases" : Str)=="ways")=false by decide,bh,show(("bases" : Str)=="cut")=false by decide,bh,show(("bases" : Str)=="bases")=true by decide]
theorem N0(A:SA)(c:Nat):(SA.flds A c).lookup ("came_by" : Str)=some (.ref A.cb):=by
 unfold SA.flds;rw [bh,show(("came_by" : Str)=="ways")=false by decide,bh,show(("came_by" : Str)=="cut")=false by decide,bh,show(("came_by" : Str)=="bases")=false by decide,bh,show(("came_by" : Str)=="came_by")=true by decide]
theorem NO(A:SA)(c:Nat):(SA.flds A c).lookup ("came_from" : Str)=some (.ref A.cf):=by
 unfold SA.flds;rw [bh,show(("came_from" : Str)=="ways")=false by decide,bh,show(("came_from" : Str)=="cut")=false by decide,bh,show(("came_from" : Str)=="bases")=false by decide,bh,show(("came_from" : Str)=="came_by")=false by decide,bh,show(("came_from" : Str)=="came_from")=true by decide]
theorem Jb(A:SA)(c:Nat):(SA.flds A c).lookup ("turns" : Str)=some (.ref A.tn):=by
 unfold SA.flds;rw [bh,show(("turns" : Str)=="ways")=false by decide,bh,show(("turns" : Str)=="cut")=false by decide,bh,show(("turns" : Str)=="bases")=false by decide,bh,show(("turns" : Str)=="came_by")=false by decide,bh,show(("turns" : Str)=="came_from")=false by decide,bh,show(("turns" : Str)=="turns")=true by decide]
theorem HQ(A:SA)(c:Nat):(SA.flds A c).lookup ("waiting" : Str)=some (.ref A.wq):=by
 unfold SA.flds;rw [bh,show(("waiting" : Str)=="ways")=false by decide,bh,show(("waiting" : Str)=="cut")=false by decide,bh,show(("waiting" : Str)=="bases")=false by decide,bh,show(("waiting" : Str)=="came_by")=false by decide,bh,show(("waiting" : Str)=="came_from")=false by decide,bh,show(("waiting" : Str)=="turns")=false by decide,bh,show(("waiting" : Str)=="waiting")=true by decide]
theorem vz(A:SA)(c:Nat){m:Str}(h0:(m=="ways")=false)(h1:(m=="cut")=false)(h2:(m=="bases")=false)(h3:(m=="came_by")=false)(h4:(m=="came_from")=false)(h5:(m=="turns")=false)(h6:(m=="waiting")=false):(SA.flds A c).lookup m=none:=by
 unfold SA.flds;rw [bh,h0,bh,h1,bh,h2,bh,h3,bh,h4,bh,h5,bh,h6];rfl
def Frm(A:SA)(H H':Hp):Prop:=∀ b o,H b=some o->b∉A.mut->H' b=some o
theorem Frm.refl(A:SA)(H:Hp):Frm A H H:=fun _ _ h _=>h
theorem Frm.trans{A:SA}{H H1 H2:Hp}(a:Frm A H H1)(b:Frm A H1 H2):Frm A H H2:=fun c o h n=>b c o (a c o h n) n
theorem Frm.new{A:SA}{H H1:Hp}{b:Addr}{o:HO}(h:Frm A H H1)(n:H1 b=none):Frm A H (upd H1 b o):=fun c o' e hc=>by
 have e1:=h c o' e hc;rw [aj (a9 e1 n)];exact e1
theorem Frm.upd{A:SA}{H H1:Hp}{b:Addr}{o:HO}(h:Frm A H H1)(hb:b∈A.mut):Frm A H (L2.upd H1 b o):=fun c o' e hc=>by
 rw [aj (fun z=>hc (by rw [z];exact hb))];exact h c o' e hc
structure Bas(s:MX.S)(ah:List (Key×V)):Prop where
 mid:aJ ah (.inl (-1))=some (.int (-1))
 at_:∀ x:Nat,s.re x->∃ y:Nat,aJ ah (.inl (x:Int))=some (.int (y:Int))/\s.re y/\s.root y=s.root x/\(y=x↔s.root x=x)/\(y≠x->s.rk y<s.rk x)
 no:∀ x:Nat,¬ s.re x->aJ ah (.inl (x:Int))=none
structure Rep(CS:Addr)(n:Nat)(H:Hp)(A:SA)(c:Nat)(s:MX.S)(q:List (Nat×Int))(N M:Nat):Prop where
 obj:H A.sr=some (.ins CS A.dx (A.flds c))
 bas:∃ ah,H A.db=some (.dK ah)/\Bas s ah/\ah.length<=M
 cby:∃ ah:List (Key×V),H A.cb=some (.dK ah)/\(∀ x,s.re x->aJ ah (.inl (x:Int))=some (.int (s.cb x:Int)))/\ah.length<=M
 cfr:∃ ah:List (Key×V),H A.cf=some (.dK ah)/\(∀ x,s.re x->aJ ah (.inl (x:Int))=some (.int (MX.cfI s x)))/\ah.length<=M
 trn:∃ ah:List (List Key×V),H A.tn=some (.dT ah)/\(∀ (x:Nat)(t:Int),(aJ ah [.inl (x:Int),.inl t]).isSome=true↔s.tn x t)/\ah.length<=N
 wat:∃ ts,H A.wq=some (.lst (ts.map V.ref))/\Tups H ts (q.map fun p=>[(p.1:Int),p.2])
 qle:q.length<=N
 bud:N+MX.miss s n<=2*n+3
 mle:M<=400
 nn:n<=128
 nd:A.mut.Nodup
theorem Rep.small{CS n:Nat}{H:Hp}{A:SA}{c:Nat}{s:MX.S}{q:List (Nat×Int)}{N M:Nat}(r:Rep CS n H A c s q N M):N<300:=by
 have:=r.bud;have:=r.nn;omega
section
variable{CS n:Nat}{H H':Hp}{A:SA}{c:Nat}{s s':MX.S}{q:List (Nat×Int)}{N M:Nat}
theorem Rep.sr_mut(r:Rep CS n H A c s q N M):A.sr∉A.mut:=fun h=>by
 have ho:=r.obj;obtain⟨_,a1,_⟩:=r.bas;obtain⟨_,a2,_⟩:=r.cby;obtain⟨_,a3,_⟩:=r.cfr;obtain⟨_,a4,_⟩:=r.trn;obtain⟨_,a5,_⟩:=r.wat;simp only [bv,ij,or_false]at h;rcases h with h |h |h |h |h<;>rw [h]at ho
 ·rw [a1]at ho;cases ho
 ·rw [a2]at ho;cases ho
 ·rw [a3]at ho;cases ho
 ·rw [a4]at ho;cases ho
 ·rw [a5]at ho;cases ho
theorem Rep.new(r:Rep CS n H A c s q N M){b:Addr}{o:HO}(hb:H b=none):Rep CS n (upd H b o) A c s q N M:=by
 have k:∀ {a:Addr}{u:HO},H a=some u->upd H b o a=some u:=fun e=>by rw [aj (a9 e hb)];exact e
 obtain⟨_,a1,b1⟩:=r.bas;obtain⟨_,a2,b2⟩:=r.cby;obtain⟨_,a3,b3⟩:=r.cfr;obtain⟨_,a4,b4⟩:=r.trn;obtain⟨_,a5,b5⟩:=r.wat;exact⟨k r.obj,⟨_,k a1,b1⟩,⟨_,k a2,b2⟩,⟨_,k a3,b3⟩,⟨_,k a4,b4⟩,⟨_,k a5,b5.same fun c xs e=>k e⟩,r.qle,r.bud,r.mle,r.nn,r.nd⟩
theorem Rep.setBas(r:Rep CS n H A c s q N M){ah:List (Key×V)}(h:Bas s' ah)(hl:ah.length<=M)(e1:s'.re=s.re)(e2:s'.cb=s.cb)(e3:s'.cf=s.cf)(e4:s'.tn=s.tn):Rep CS n (upd H A.db (.dK ah)) A c s' q N M:=by
 have nd:=r.nd;simp only [lz,bv,ij,or_false,b8]at nd;obtain⟨⟨n1,n2,n3,n4⟩,_⟩:=nd;obtain⟨_,a1,b1⟩:=r.bas;obtain⟨_,a2,b2,l2⟩:=r.cby;obtain⟨_,a3,b3,l3⟩:=r.cfr;obtain⟨_,a4,b4,l4⟩:=r.trn;obtain⟨_,a5,b5⟩:=r.wat;refine⟨by rw [aj (az r.obj a1 (by intro z;cases z))];exact r.obj,⟨_,Z2j,h,hl⟩,⟨_,by rw [aj (Ne.symm n1)];exact a2,by rw [e1,e2];exact b2,l2⟩,⟨_,by rw [aj (Ne.symm n2)];exact a3,?_,l3⟩,⟨_,by rw [aj (Ne.symm n3)];exact a4,by rw [e4];exact b4,l4⟩,
  ⟨_,by rw [aj (Ne.symm n4)];exact a5,b5.same fun c xs e=>by rw [aj (az e a1 (by intro z;cases z))];exact e⟩,r.qle,?_,r.mle,r.nn,r.nd⟩
 ·intro x hx;rw [e1]at hx;have:=b3 x hx;unfold MX.cfI at this ⊢;rw [e3];exact this
 ·have:=r.bud;unfold MX.miss at this ⊢;rw [e4];exact this
end
structure jW(K:aq)(mg:Str->Option Value)(CS:Addr):Prop where
 cl:Cls K CS
 nw:NoAttr K CS "ways"
 nc:NoAttr K CS "cut"
 nb:NoAttr K CS "bases"
 ny:NoAttr K CS "came_by"
 nf:NoAttr K CS "came_from"
 nt:NoAttr K CS "turns"
 nq:NoAttr K CS "waiting"
 up:∃ u,mg "UP" = some u/\RelV (.int 1) u
 dn:∃ u,mg "DOWN" = some u/\RelV (.int (-1)) u
 md:∃ u,mg "MIDDLE" = some u/\RelV (.int (-1)) u
theorem Om{κ:Type}[DecidableEq κ]{ah:List (κ×V)}{k:κ}{v:V}(h:(aJ ah k).isSome=true):(aE ah k v).length=ah.length:=by
 unfold aE;rw [v0,ae h,aT]
theorem jN{a b:Int}:((Sum.inl a:Key)=Sum.inl b)↔a=b:=⟨fun h=>Sum.inl.inj h,fun h=>by rw [h]⟩
theorem Bas.put{s:MX.S}{ah:List (Key×V)}(h:Bas s ah){x y:Nat}(hy:s.re y)(hr:s.root y=s.root x)(h1:y=x↔s.root x=x)(h2:y≠x->s.rk y<s.rk x)(hx:s.re x):Bas s (aE ah (.inl (x:Int)) (.int (y:Int))):=by
 refine⟨?_,fun z hz=>?_,fun z hz=>?_⟩
 ·rw [iE,ac (by rw [jN];omega)];exact h.mid
 ·rw [iE];by_cases q:z=x
  ·subst q;rw [ae rfl];exact⟨y,rfl,hy,hr,h1,h2⟩
  ·rw [ac (by rw [jN];omega)]
   exact h.at_ z hz
 ·rw [iE,ac (by rw [jN];intro q;apply hz;have:z=x:=(by omega);rw [this];exact hx)]
  exact h.no z hz
section
variable{P:Program}{w:World}{K:aq}{mg:Str->Option Value}{base:Heap}{CS:Addr}
def mv(s:MX.S)(x r:Int):Prop:=(x=-1/\r=-1)\/∃ a:Nat,x=a/\s.re a/\r=s.root a
def Jo(CS:Addr):Sp:=fun vs H Q _=>∃ (A:SA)(n c N M:Nat)(s:MX.S)(q:List (Nat×Int))(x r:Int),vs=[.ref A.sr,.int x]/\Rep CS n H A c s q N M/\mv s x r/\∀ H',Frm A H H'->Rep CS n H' A c s q N M->Q (.int r) H'
theorem pO:cU ["self","atom"] ["self","atom"] (bj Hi):=⟨rfl,rfl,rfl,by decide +kernel,rfl,by decide +kernel,by decide +kernel⟩
theorem xT{f:Addr}{fd:FuncData}(F:Fun K "base_of" "Search.base_of" Hi f fd)(T:jW K mg CS):am P w K mg base CX0 1 f fd ["self","atom"] (Jo CS):=by
 refine F.ok pO (fun vs H Q E h=>?_) (fun bp A' outer s' H vs Q E hr h=>?_)
 ·obtain⟨A,n,c,N,M,s,q,x,r,rfl,_⟩:=h;rfl
 ·obtain⟨A,n,c,N,M,s,q,x,r,rfl,R,hx,k⟩:=h;have hu:=eE hr;refine⟨_,aN (Fo PassesOwn.never (gq dZ (uP hu (bq (pv 0) rfl) (pv 1) (fun _ _=>rfl)) (pv 1) (eS _))
    (aN (wb hu (bq (pv 0) rfl) (pv 1) (uP hu (bq (pv 0) rfl) (uP hu (bq (pv 0) rfl) (pv 1) (fun _ _=>rfl)) (fun _ _=>rfl)) rfl)
    (bg (di (i:=1) pO.nd rfl (Or.inl rfl) (uP hu (bq (pv 0) rfl) (pv 1) (fun _ _=>rfl))))))
   (bg (dJ (pv 1))),?_⟩
  refine Jd (fun σ H'=>∃ y:Int,σ=[some (.ref A.sr),some (.int y)]/\Frm A H H'/\Rep CS n H' A c s q N M/\mv s y r) (fun σ _=>match σ with |[_,some (.int y)]=>s.rk y.toNat |_=>0) ⟨x,rfl,Frm.refl _ _,R,hx⟩ ?_ ?_
  ·rintro σ H1 ⟨y,rfl,fr,R1,hy⟩;obtain⟨ah,hb,B,hl⟩:=R1.bas;have g:∀ z:Int,DGet H1 A.db (.int z) (aJ ah (.inl z)):=fun z=>DGet.k (k:=.inl z) hb;rcases hy with⟨rfl,rfl⟩ |⟨a,rfl,ra,rfl⟩
   ·refine⟨_,rfl,A.sr,CS,A.dx,_,_,rfl,R1.obj,T.cl,T.nb,rD _ _,_,rfl,A.db,.int (-1),rfl,by rw [<-B.mid];exact g _,_,rfl,rfl,_,rfl,bt (fun hc=>?_) (fun hc=>?_)⟩
    ·simp at hc
    ·exact⟨_,rfl,k H1 fr R1⟩
   ·obtain⟨y1,v1,r1,e1,i1,l1⟩:=B.at_ a ra;refine⟨_,rfl,A.sr,CS,A.dx,_,_,rfl,R1.obj,T.cl,T.nb,rD _ _,_,rfl,A.db,.int y1,rfl,by rw [<-v1];exact g _,_,rfl,rfl,_,rfl,bt (fun hc=>?_) (fun hc=>?_)⟩
    ·have bQ:y1≠a:=fun z=>by simp [z]at hc
     obtain⟨y2,v2,r2,e2,i2,l2⟩:=B.at_ y1 r1;have Ga:s.rk y2<s.rk a:=by
      by_cases z:y2=y1
      ·rw [z];exact l1 bQ
      ·exact qu (l2 z) (l1 bQ)
     have n2:y2≠a:=fun z=>by rw [z]at Ga;exact ik _ Ga
     have ra1:s.root a≠a:=fun z=>bQ (i1.mpr z);have B2:Bas s (aE ah (.inl (a:Int)) (.int (y2:Int))):=B.put r2 (e2.trans e1) ⟨fun z=>absurd z n2,fun z=>absurd z ra1⟩ (fun _=>Ga) ra;have l2':(aE ah (.inl (a:Int)) (.int (y2:Int))).length<=M:=by rw [Om (by rw [v1];rfl)];exact hl
     have R2:=R1.setBas (s':=s) B2 l2' rfl rfl rfl rfl;refine⟨_,rfl,A.sr,CS,A.dx,_,_,rfl,R1.obj,T.cl,T.nb,rD _ _,_,rfl,A.sr,CS,A.dx,_,_,rfl,R1.obj,T.cl,T.nb,rD _ _,_,rfl,A.db,.int y1,rfl,by rw [<-v1];exact g _,A.db,.int y2,rfl,by rw [<-v2];exact g _,
      _,rfl,A.sr,CS,A.dx,_,_,rfl,R1.obj,T.cl,T.nb,rD _ _,_,rfl,A.db,_,rfl,DPut.k (k:=.inl (a:Int)) hb (by rw [ak];have:=R1.mle;omega),?_⟩
     have g2:DGet (upd H1 A.db (.dK (aE ah (.inl (a:Int)) (.int (y2:Int))))) A.db (.int (a:Int)) (some (.int (y2:Int))):=by
      have:=DGet.k (k:=.inl (a:Int)) (Z2j (H:=H1) (a:=A.db) (o:=.dK (aE ah (.inl (a:Int)) (.int (y2:Int)))));rw [iE,ae rfl]at this;exact this
     refine⟨_,rfl,A.sr,CS,A.dx,_,_,rfl,R2.obj,T.cl,T.nb,rD _ _,_,rfl,A.db,.int y2,rfl,g2,?_⟩;refine⟨⟨y2,rfl,fr.upd (by simp),R2,.inr ⟨y2,rfl,r2,by rw [e2.trans e1]⟩⟩,?_⟩
     show s.rk ((y2:Int)).toNat<s.rk ((a:Int)).toNat;simpa using Ga
    ·have he:y1=a:=by
      by_cases z:y1=a
      ·exact z
      ·exact absurd (show _=true by simp;omega) hc
     refine⟨_,rfl,?_⟩;rw [i1.mp he]at k;exact k H1 fr R1
  ·rintro σ H1 Q1 Q2 hq ⟨v,e,a,C,dx,fs,v',h1,h2,h3,h4,h5,v2,h6,d,v3,h7,h8,v4,h9,jt,b',lM,q'⟩;exact⟨v,e,a,C,dx,fs,v',h1,h2,h3,h4,h5,v2,h6,d,v3,h7,h8,v4,h9,jt,b',lM,hq _ _ q'⟩
end
section
variable{P:Program}{w:World}{K:aq}{mg:Str->Option Value}{base:Heap}{CS:Addr}
def ux(s:MX.S)(z r:Int):Prop:=(z=-1/\r=-1)\/∃ a:Nat,z=a/\s.re a/\(∀ w,s.cf a=some w->s.re w)/\r=(match s.up a with |none=>(-1:Int) |some y=>(y:Int))
def pY(CS:Addr):Sp:=fun vs H Q _=>∃ (A:SA)(n c N M:Nat)(s:MX.S)(q:List (Nat×Int))(x r:Int),vs=[.ref A.sr,.int x]/\Rep CS n H A c s q N M/\ux s x r/\∀ H',Frm A H H'->Rep CS n H' A c s q N M->Q (.int r) H'
theorem DQ:cU ["self","base"] ["self","base"] (bj Ht):=⟨rfl,rfl,rfl,by decide +kernel,rfl,by decide +kernel,by decide +kernel⟩
theorem Dm{f fB:Addr}{fd iG:FuncData}(F:Fun K "base_before" "Search.base_before" Ht f fd)(T:jW K mg CS)(GB:am P w K mg base CX0 1 fB iG ["self","atom"] (Jo CS))(mB:aQ K CS "base_of" fB)(bB:Binds K iG ["self","atom"] []) :
  am P w K mg base CX0 2 f fd ["self","base"] (pY CS):=by
 refine F.ok DQ (fun vs H Q E h=>?_) (fun bp A' outer s' H vs Q E hr h=>?_)
 ·obtain⟨A,n,c,N,M,s,q,x,r,rfl,_⟩:=h;rfl
 ·obtain⟨A,n,c,N,M,s,q,x,r,rfl,R,hx,k⟩:=h;have hu:=eE hr;refine⟨_,bg (dJ (oX (gq iQ (pv 1) (ay rfl T.md) (eS _)) (ay rfl T.md) (ej (pv 0) T.cl mB GB hr bB .nil aC (ao (uP hu (bq (pv 0) rfl) (pv 1) (fun _ _=>rfl)) aD)))),?_⟩;refine⟨_,rfl,rfl,_,rfl,bt (fun hc=>?_) (fun hc=>?_)⟩
  ·have e:x=-1:=by simpa using hc
   have er:r=-1:=by
    rcases hx with⟨_,z⟩ |⟨a,z,_⟩
    ·exact z
    ·omega
   rw [er]at k;exact k H (Frm.refl _ _) R
  ·have e:x≠-1:=fun z=>hc (by simp [z])
   rcases hx with⟨z,_⟩ |⟨a,rfl,ra,hw,er⟩
   ·exact absurd z e
   ·obtain⟨ah,hb,hv,hl⟩:=R.cfr;have g:DGet H A.cf (.int (a:Int)) (some (.int (MX.cfI s a))):=by rw [<-hv a ra];exact DGet.k (k:=.inl (a:Int)) hb
    refine⟨_,rfl,A.sr,A.dx,_,rfl,R.obj,vz _ _ (by decide) (by decide) (by decide) (by decide) (by decide) (by decide) (by decide),_,rfl,A.sr,CS,A.dx,_,_,rfl,R.obj,T.cl,T.nf,NO _ _,_,rfl,A.cf,_,rfl,g,A,n,c,N,M,s,q,MX.cfI s a,r,rfl,R,?_,k⟩
    unfold MX.cfI;unfold MX.S.up at er;cases ec:s.cf a with
    |none=>rw [ec]at er;exact .inl ⟨rfl,er⟩
    |some w=>rw [ec]at er;exact .inr ⟨w,rfl,hw w ec,er⟩
def IW(CS:Addr):Sp:=fun vs H Q _=>∃ (A:SA)(n c N M:Nat)(s:MX.S)(q:List (Nat×Int))(x:Nat)(t:Int),vs=[.ref A.sr,.int (x:Int),.int t]/\Rep CS n H A c s q N M/\x<n/\(t=1\/t=-1) /\
 ∀ H' q' N',Frm A H H'->Rep CS n H' A c (s.allow x t) q' N' M->(s.tn x t->q'=q)->(¬ s.tn x t->q'=q++[(x,t)]/\N'=N+1)->N<=N'->Q .non H'
theorem tT:cU ["self","atom","turn"] ["self","atom","turn"] (bj HH):=⟨rfl,rfl,rfl,by decide +kernel,rfl,by decide +kernel,by decide +kernel⟩
theorem OR{s:MX.S}{x:Nat}{t:Int}(h:s.tn x t):s.allow x t=s:=by
 unfold MX.S.allow;have:(fun z u=>s.tn z u\/(z=x/\u=t))=s.tn:=by
  funext z u
  exact propext ⟨fun q=>q.elim id fun⟨a,b⟩=>by rw [a,b];exact h,.inl⟩
 rw [this]
theorem tu{f:Addr}{fd:FuncData}(F:Fun K "allow" "Search.allow" HH f fd)(T:jW K mg CS):am P w K mg base CX0 1 f fd ["self","atom","turn"] (IW CS):=by
 refine F.ok tT (fun vs H Q E h=>?_) (fun bp A' outer s' H vs Q E hr h=>?_)
 ·obtain⟨A,n,c,N,M,s,q,x,t,rfl,_⟩:=h;rfl
 ·obtain⟨A,n,c,N,M,s,q,x,t,rfl,R,hx,ht,k⟩:=h;have hu:=eE hr;refine⟨_,bg (bZ (FH (Ip hu (qA (ao (pv 1) (ao (pv 2) aD))) (bq (pv 0) rfl)))
    (aN (wb hu (bq (pv 0) rfl) (qA (ao (pv 1) (ao (pv 2) aD))) dF rfl)
    (bg (gR (lf AG E9 Fa Ft (bq (pv 0) rfl) (ao (qA (ao (pv 1) (ao (pv 2) aD))) aD))))) il),?_⟩
  obtain⟨ah,hb,hv,hl⟩:=R.trn;refine⟨_,rfl,_,rfl,(by show 2<=sizeLine;decide),fun u1 kc=>?_⟩
  have R1:=R.new (o:=.tup [.int (x:Int),.int t]) kc;have f1:Frm A H (upd H u1 (.tup [.int (x:Int),.int t])):=(Frm.refl _ _).new kc;have BV:upd H u1 (.tup [.int (x:Int),.int t]) A.tn=some (.dT ah):=by rw [aj (a9 hb kc)];exact hb
  refine⟨_,rfl,A.sr,CS,A.dx,_,_,rfl,R1.obj,T.cl,T.nt,Jb _ _,A.tn,_,rfl,DGet.t (k:=[.inl (x:Int),.inl t]) BV Z2j,_,rfl,bt (fun hc=>?_) (fun hc=>?_)⟩
  ·have hs:(aJ ah [.inl (x:Int),.inl t])=none:=by
    cases z:aJ ah [.inl (x:Int),.inl t]with
    |none=>rfl
    |some v=>rw [z]at hc;cases hc
   have ol:¬ s.tn x t:=fun z=>by have:=(hv x t).mpr z;rw [hs]at this;cases this
   refine⟨_,rfl,A.sr,CS,A.dx,_,_,rfl,R1.obj,T.cl,T.nt,Jb _ _,_,rfl,_,rfl,(by show 2<=sizeLine;decide),fun u2 CC=>?_⟩
   have R2:=R1.new (o:=.tup [.int (x:Int),.int t]) CC;have f2:=f1.new (o:=.tup [.int (x:Int),.int t]) CC;have jR:upd (upd H u1 (.tup [.int (x:Int),.int t])) u2 (.tup [.int (x:Int),.int t]) A.tn=some (.dT ah):=by rw [aj (a9 BV CC)];exact BV
   have sm:=R.small;refine⟨A.tn,_,rfl,DPut.t (k:=[.inl (x:Int),.inl t]) jR Z2j (by rw [ak];omega),?_⟩
   generalize hH2:upd (upd H u1 (.tup [.int (x:Int),.int t])) u2 (.tup [.int (x:Int),.int t])=H2 at *
   obtain⟨ts,hq,hT⟩:=R2.wat;have nd:=R.nd;have Ri:A.wq≠A.tn:=fun z=>by rw [z,jR]at hq;cases hq
   have Rj:A.sr≠A.tn:=az R2.obj jR (by intro z;cases z)
   have ho3:upd H2 A.tn (.dT (aE ah [.inl (x:Int),.inl t] (.bl true))) A.sr=some (.ins CS A.dx (A.flds c)):=by rw [aj Rj];exact R2.obj
   have Cm:upd H2 A.tn (.dT (aE ah [.inl (x:Int),.inl t] (.bl true))) A.wq=some (.lst (ts.map V.ref)):=by rw [aj Ri];exact hq
   refine⟨_,rfl,A.sr,CS,A.dx,_,_,rfl,ho3,T.cl,T.nq,HQ _ _,.inl ⟨rfl,_,SqL.of Cm⟩,_,rfl,_,rfl,(by show 2<=sizeLine;decide),fun u3 sQ=>?_⟩
   have zU:upd (upd H2 A.tn (.dT (aE ah [.inl (x:Int),.inl t] (.bl true)))) u3 (.tup [.int (x:Int),.int t]) A.wq=some (.lst (ts.map V.ref)):=by rw [aj (a9 Cm sQ)];exact Cm
   have hql:=R.qle;have zX:ts.length=q.length:=by have:=hT.1;rw [aT]at this;exact this
   refine⟨A.wq,_,_,rfl,rfl,zU,(by rw [aT,ak];omega),?_⟩
   have nu:∀ {b:Addr}{o:HO},upd H2 A.tn (.dT (aE ah [.inl (x:Int),.inl t] (.bl true))) b=some o->b≠u3:=fun e=>a9 e sQ;have keep:∀ {b:Addr}{o:HO},H2 b=some o->b≠A.tn->b≠A.wq->upd (upd (upd H2 A.tn (.dT (aE ah [.inl (x:Int),.inl t] (.bl true)))) u3 (.tup [.int (x:Int),.int t])) A.wq (.lst (ts.map V.ref++[.ref u3])) b=some o:=fun{b o} e n1 n2=>by
    have e1:upd H2 A.tn (.dT (aE ah [.inl (x:Int),.inl t] (.bl true))) b=some o:=by rw [aj n1];exact e
    rw [aj n2,aj (nu e1)];exact e1
   have CP:∀ b xs,H2 b=some (.tup xs)->upd (upd (upd H2 A.tn (.dT (aE ah [.inl (x:Int),.inl t] (.bl true)))) u3 (.tup [.int (x:Int),.int t])) A.wq (.lst (ts.map V.ref++[.ref u3])) b=some (.tup xs):=fun b xs e =>
    keep e (az e jR (by intro z;cases z)) (az e hq (by intro z;cases z))
   have Mw:A.tn≠u3:=nu Z2j;refine k _ (q++[(x,t)]) (N+1) ?_ ?_ (fun z=>absurd z ol) (fun _=>⟨rfl,rfl⟩) (Nat.le_succ _)
   ·exact((f2.upd (by simp)).new sQ).upd (by simp)
   ·obtain⟨k1,a1,b1,l1⟩:=R2.bas;obtain⟨k2,a2,b2,l2⟩:=R2.cby;obtain⟨k3,a3,b3,l3⟩:=R2.cfr;simp only [lz,bv,ij,or_false,b8]at nd;obtain⟨⟨n1,n2,n3,n4⟩,⟨n5,n6,n7⟩,⟨n8,n9⟩,_⟩:=nd;refine⟨keep R2.obj Rj (az R2.obj hq (by intro z;cases z)),⟨k1,keep a1 n3 n4,⟨b1.mid,b1.at_,b1.no⟩,l1⟩,⟨k2,keep a2 n6 n7,b2,l2⟩,⟨k3,keep a3 n8 n9,b3,l3⟩,⟨aE ah [.inl (x:Int),.inl t] (.bl true),?_,fun z u=>?_,?_⟩,⟨ts++[u3],?_,?_⟩,?_,?_,R.mle,R.nn,R.nd⟩
    ·rw [aj (Ne.symm Ri),aj Mw,Z2j]
    ·rw [iE];by_cases e:(([.inl (z:Int),.inl u]:List Key)=[.inl (x:Int),.inl t])
     ·rw [ae e];injection e with e1 e2
      injection e2 with e2 _
      have e1:=Sum.inl.inj e1;have e2:=Sum.inl.inj e2;refine⟨fun _=>.inr ⟨by omega,e2⟩,fun _=>rfl⟩
     ·rw [ac e,hv z u];refine⟨.inl,fun h=>h.elim id fun⟨h1,h2⟩=>absurd (by rw [h1,h2]) e⟩
    ·have:=mK ah [.inl (x:Int),.inl t] (.bl true);omega
    ·rw [Z2j,fL];rfl
    ·rw [fL];refine Tups.snoc (hT.same CP) ?_;rw [aj (fun z=>by rw [z]at sQ;rw [sQ]at Cm;cases Cm),Z2j]
     rfl
    ·rw [gC];show q.length+1<=N+1;omega
    ·have:=R.bud;have:=MX.Zba hx ht ol;omega
  ·have ol:s.tn x t:=by
    refine(hv x t).mp ?_;cases z:aJ ah [.inl (x:Int),.inl t]with
    |none=>rw [z]at hc;exact absurd rfl hc
    |some v=>rfl
   refine k _ q N f1 ?_ (fun _=>rfl) (fun z=>absurd ol z) (bK _);rw [OR ol];exact R1
end
def Ext(s:MX.S)(q:List (Nat×Int))(s':MX.S)(q':List (Nat×Int)):Prop:=∃ r,q'=q++r/\(∀ x t,s'.tn x t↔s.tn x t\/(x,t)∈r)/\(∀ p∈r,¬ s.tn p.1 p.2)/\r.Nodup
theorem Ext.refl(s:MX.S)(q:List (Nat×Int)):Ext s q s q:=⟨[],by simp,fun x t=>by simp,fun p hp=>by simp at hp,uI⟩
theorem Ext.trans{s s1 s2:MX.S}{q q1 q2:List (Nat×Int)}(a:Ext s q s1 q1)(b:Ext s1 q1 s2 q2):Ext s q s2 q2:=by
 obtain⟨r,rfl,h,n1,d1⟩:=a;obtain⟨r',rfl,h',n2,d2⟩:=b;refine⟨r++r',by simp,fun x t=>?_,fun p hp=>?_,?_⟩
 ·rw [h',h,dy,or_assoc]
 ·rcases dy.mp hp with hp |hp
  ·exact n1 p hp
  ·exact fun z=>n2 p hp ((h p.1 p.2).mpr (.inl z))
 ·exact qZ.mpr ⟨d1,d2,fun a ha b hb z=>n2 b hb ((h b.1 b.2).mpr (.inr (by rw [<-z];exact ha)))⟩
theorem Ext.tn{s s1 s2:MX.S}{q q1:List (Nat×Int)}(a:Ext s q s1 q1)(h:s2.tn=s1.tn):Ext s q s2 q1:=by
 obtain⟨r,e,k,n,d⟩:=a;exact⟨r,e,fun x t=>by rw [h];exact k x t,n,d⟩
theorem Ext.allow{s:MX.S}{q q':List (Nat×Int)}{x N N':Nat}{t:Int}(h1:s.tn x t->q'=q)(h2:¬ s.tn x t->q'=q++[(x,t)]/\N'=N+1):Ext s q (s.allow x t) q':=by
 by_cases h:s.tn x t
 ·rw [h1 h,OR h];exact Ext.refl _ _
 ·refine⟨[(x,t)],(h2 h).1,fun z u=>?_,fun p hp=>by rw [dq.mp hp];exact h,by simp⟩
  show s.tn z u\/(z=x/\u=t)↔_;simp
theorem Rep.congr{CS n:Nat}{H:Hp}{A:SA}{c:Nat}{s s':MX.S}{q:List (Nat×Int)}{N M:Nat}(r:Rep CS n H A c s q N M)(e1:s'.re=s.re)(e2:s'.root=s.root)(e3:s'.rk=s.rk)(e4:s'.cb=s.cb)(e5:s'.cf=s.cf)(e6:s'.tn=s.tn) :
  Rep CS n H A c s' q N M:=by
 obtain⟨k1,a1,b1,l1⟩:=r.bas;obtain⟨k2,a2,b2,l2⟩:=r.cby;obtain⟨k3,a3,b3,l3⟩:=r.cfr;obtain⟨k4,a4,b4,l4⟩:=r.trn;refine⟨r.obj,⟨k1,a1,⟨b1.mid,fun x hx=>?_,fun x hx=>?_⟩,l1⟩,⟨k2,a2,fun x hx=>?_,l2⟩,⟨k3,a3,fun x hx=>?_,l3⟩,⟨k4,a4,fun x t=>?_,l4⟩,r.wat,r.qle,?_,r.mle,r.nn,r.nd⟩
 ·rw [e1]at hx ⊢;rw [e2,e3];exact b1.at_ x hx
 ·rw [e1]at hx;exact b1.no x hx
 ·rw [e1]at hx;rw [e4];exact b2 x hx
 ·rw [e1]at hx;unfold MX.cfI;rw [e5];exact b3 x hx
 ·rw [e6];exact b4 x t
 ·have:=r.bud;unfold MX.miss at this ⊢;rw [e6];exact this
section
variable{P:Program}{w:World}{K:aq}{mg:Str->Option Value}{base:Heap}{CS:Addr}
theorem jj{A:SA}{c:Nat}{m:Str}(h0:(m=="ways")=false:=by decide)(h1:(m=="cut")=false:=by decide)(h2:(m=="bases")=false:=by decide)(h3:(m=="came_by")=false:=by decide)(h4:(m=="came_from")=false:=by decide)
  (h5:(m=="turns")=false:=by decide)(h6:(m=="waiting")=false:=by decide):(A.flds c).lookup m=none:=vz A c h0 h1 h2 h3 h4 h5 h6
def Jm(CS:Addr):Sp:=fun vs H Q _=>∃ (A:SA)(n c N M:Nat)(s:MX.S)(q:List (Nat×Int))(x:Nat),vs=[.ref A.sr,.int (x:Int)]/\Rep CS n H A c s q N M/\x<n /\
 ∀ H' q' N',Frm A H H'->Rep CS n H' A c ((s.allow x 1).allow x (-1)) q' N' M->Ext s q ((s.allow x 1).allow x (-1)) q'->N<=N'->Q .non H'
theorem yz:cU ["self","atom"] ["self","atom"] (bj Hv):=⟨rfl,rfl,rfl,by decide +kernel,rfl,by decide +kernel,by decide +kernel⟩
theorem xU{f fA:Addr}{fd gw:FuncData}(F:Fun K "allow_both" "Search.allow_both" Hv f fd)(T:jW K mg CS)(GA:am P w K mg base CX0 1 fA gw ["self","atom","turn"] (IW CS))(mA:aQ K CS "allow" fA)(bA:Binds K gw ["self","atom","turn"] []) :
  am P w K mg base CX0 2 f fd ["self","atom"] (Jm CS):=by
 refine F.ok yz (fun vs H Q E h=>?_) (fun bp A' outer s' H vs Q E hr h=>?_)
 ·obtain⟨A,n,c,N,M,s,q,x,rfl,_⟩:=h;rfl
 ·obtain⟨A,n,c,N,M,s,q,x,rfl,R,hx,k⟩:=h;refine⟨_,aN (gR (ej (pv 0) T.cl mA GA hr bA .nil aC (ao (pv 1) (ao (ay rfl T.up) aD)))) (bg (gR (ej (pv 0) T.cl mA GA hr bA .nil aC (ao (pv 1) (ao (ay rfl T.dn) aD))))),?_⟩;refine⟨_,rfl,A.sr,A.dx,_,rfl,R.obj,jj,_,rfl,A,n,c,N,M,s,q,x,1,rfl,R,hx,.inl rfl,fun H1 q1 N1 f1 R1 a1 b1 c1=>?_⟩;refine⟨_,rfl,A.sr,A.dx,_,rfl,R1.obj,jj,_,rfl,A,n,c,N1,M,_,q1,x,-1,rfl,R1,hx,.inr rfl,fun H2 q2 N2 f2 R2 a2 b2 c2=>?_⟩;exact k H2 q2 N2 (f1.trans f2) R2 ((Ext.allow a1 b1).trans (Ext.allow a2 b2)) (iD c1 c2)
def put(s:MX.S)(y e:Nat)(qB:Option Nat)(u:Int):MX.S where
 re:=fun z=>s.re z\/z=y
 root:=fun z=>if z=y then y else s.root z
 rk:=fun z=>if z=y then s.nx else s.rk z
 nx:=s.nx+1
 cb:=fun z=>if z=y then e else s.cb z
 cf:=fun z=>if z=y then qB else s.cf z
 ar:=fun z=>if z=y then -u else s.ar z
 tn:=fun z v=>s.tn z v\/(z=y/\v=u)
 dn:=s.dn
def IS(CS:Addr):Sp:=fun vs H Q _=>∃ (A:SA)(n c N M:Nat)(s:MX.S)(q:List (Nat×Int))(y e:Nat)(b u:Int)(qB:Option Nat),vs=[.ref A.sr,.int (y:Int),.int b,.int (e:Int),.int u]/\Rep CS n H A c s q N M/\M<=390/\y<n/\¬ s.re y /\
 (∀ x v,s.tn x v->s.re x)/\(∀ x,s.re x->s.re (s.root x))/\(u=1\/u=-1)/\b=(match qB with |none=>(-1:Int) |some x=>(x:Int)) /\
 ∀ H' q' N',Frm A H H'->Rep CS n H' A c (put s y e qB u) q' N' (M+1)->N'=N+1->Ext s q (put s y e qB u) q'->Q .non H'
theorem tV:cU ["self","atom","before","bond","turn"] ["self","atom","before","bond","turn"] (bj HG):=⟨rfl,rfl,rfl,by decide +kernel,rfl,by decide +kernel,by decide +kernel⟩
theorem tF{f fA:Addr}{fd gw:FuncData}(F:Fun K "reach" "Search.reach" HG f fd)(T:jW K mg CS)(GA:am P w K mg base CX0 1 fA gw ["self","atom","turn"] (IW CS))(mA:aQ K CS "allow" fA)(bA:Binds K gw ["self","atom","turn"] []) :
  am P w K mg base CX0 2 f fd ["self","atom","before","bond","turn"] (IS CS):=by
 refine F.ok tV (fun vs H Q E h=>?_) (fun bp A' outer s' H vs Q E hr h=>?_)
 ·obtain⟨A,n,c,N,M,s,q,y,e,b,u,qB,rfl,_⟩:=h;rfl
 ·obtain⟨A,n,c,N,M,s,q,y,e,b,u,qB,rfl,R,hM,hy,Co,lP,iK,kc,hb,k⟩:=h;have hu:=eE hr;refine⟨_,aN (wb hu (bq (pv 0) rfl) (pv 1) (pv 1) rfl)
   (aN (wb hu (bq (pv 0) rfl) (pv 1) (pv 3) rfl)
   (aN (wb hu (bq (pv 0) rfl) (pv 1) (pv 2) rfl)
   (bg (gR (ej (pv 0) T.cl mA GA hr bA .nil aC (ao (pv 1) (ao (pv 4) aD))))))),?_⟩
  obtain⟨k1,a1,b1,l1⟩:=R.bas;obtain⟨k2,a2,b2,l2⟩:=R.cby;obtain⟨k3,a3,b3,l3⟩:=R.cfr;obtain⟨k4,a4,b4,l4⟩:=R.trn;obtain⟨ts,a5,b5⟩:=R.wat;have nd:=R.nd;simp only [lz,bv,ij,or_false,b8]at nd;obtain⟨⟨n1,n2,n3,n4⟩,⟨n5,n6,n7⟩,⟨n8,n9⟩,z9,_⟩:=nd;have o1:=az R.obj a1 (by intro z;cases z)
  have o2:=az R.obj a2 (by intro z;cases z)
  have o3:=az R.obj a3 (by intro z;cases z)
  have qN:∀ {z},s.re z->z≠y:=fun h q=>Co (q ▸ h);refine⟨_,rfl,_,rfl,A.sr,CS,A.dx,_,_,rfl,R.obj,T.cl,T.nb,rD _ _,_,rfl,A.db,_,rfl,DPut.k (k:=.inl (y:Int)) a1 (by rw [ak];omega),?_⟩
  have Qz:upd H A.db (.dK (aE k1 (.inl (y:Int)) (.int (y:Int)))) A.sr=some (.ins CS A.dx (A.flds c)):=by rw [aj o1];exact R.obj
  have h1c:upd H A.db (.dK (aE k1 (.inl (y:Int)) (.int (y:Int)))) A.cb=some (.dK k2):=by rw [aj (Ne.symm n1)];exact a2
  refine⟨_,rfl,_,rfl,A.sr,CS,A.dx,_,_,rfl,Qz,T.cl,T.ny,N0 _ _,_,rfl,A.cb,_,rfl,DPut.k (k:=.inl (y:Int)) h1c (by rw [ak];omega),?_⟩
  have h2o:upd (upd H A.db (.dK (aE k1 (.inl (y:Int)) (.int (y:Int))))) A.cb (.dK (aE k2 (.inl (y:Int)) (.int (e:Int)))) A.sr=some (.ins CS A.dx (A.flds c)):=by rw [aj o2];exact Qz
  have h2c:upd (upd H A.db (.dK (aE k1 (.inl (y:Int)) (.int (y:Int))))) A.cb (.dK (aE k2 (.inl (y:Int)) (.int (e:Int)))) A.cf=some (.dK k3):=by rw [aj (Ne.symm n5),aj (Ne.symm n2)];exact a3
  refine⟨_,rfl,_,rfl,A.sr,CS,A.dx,_,_,rfl,h2o,T.cl,T.nf,NO _ _,_,rfl,A.cf,_,rfl,DPut.k (k:=.inl (y:Int)) h2c (by rw [ak];omega),?_⟩
  generalize lN:upd (upd (upd H A.db (.dK (aE k1 (.inl (y:Int)) (.int (y:Int))))) A.cb (.dK (aE k2 (.inl (y:Int)) (.int (e:Int))))) A.cf (.dK (aE k3 (.inl (y:Int)) (.int b)))=H3;have keep:∀ {a:Addr}{o:HO},H a=some o->a≠A.db->a≠A.cb->a≠A.cf->H3 a=some o:=fun{a o} e' m1 m2 m3=>by rw [<-lN,aj m3,aj m2,aj m1];exact e'
  have fr:Frm A H H3:=by rw [<-lN];exact(((Frm.refl A H).upd (by simp)).upd (by simp)).upd (by simp)
  have R3:Rep CS n H3 A c { put s y e qB u with tn:=s.tn } q N (M+1):=by
   refine⟨keep R.obj o1 o2 o3,⟨aE k1 (.inl (y:Int)) (.int (y:Int)),?_,⟨?_,fun x hx=>?_,fun x hx=>?_⟩,?_⟩,⟨aE k2 (.inl (y:Int)) (.int (e:Int)),?_,fun x hx=>?_,?_⟩,⟨aE k3 (.inl (y:Int)) (.int b),?_,fun x hx=>?_,?_⟩,⟨k4,keep a4 (Ne.symm n3) (Ne.symm n6) (Ne.symm n8),b4,l4⟩,
    ⟨ts,keep a5 (Ne.symm n4) (Ne.symm n7) (Ne.symm n9),b5.same fun d xs z=>keep z (az z a1 (by intro z;cases z)) (az z a2 (by intro z;cases z)) (az z a3 (by intro z;cases z))⟩,R.qle,R.bud,by omega,R.nn,R.nd⟩
   ·rw [<-lN,aj n2,aj n1,Z2j]
   ·rw [iE,ac (by rw [jN];omega)];exact b1.mid
   ·by_cases z:x=y
    ·subst z;refine⟨x,by rw [iE,ae rfl],.inr rfl,rfl,⟨fun _=>ae rfl,fun _=>rfl⟩,fun z=>absurd rfl z⟩
    ·have rx:s.re x:=hx.elim id fun z'=>absurd z' z;obtain⟨y1,v1,r1,e1,i1,lt1⟩:=b1.at_ x rx;refine⟨y1,by rw [iE,ac (by rw [jN];omega)];exact v1,.inl r1,?_,?_,?_⟩
     ·show(if y1=y then y else s.root y1)=if x=y then y else s.root x;rw [ac (qN r1),ac z];exact e1
     ·show y1=x↔(if x=y then y else s.root x)=x;rw [ac z];exact i1
     ·intro h';show(if y1=y then s.nx else s.rk y1)<if x=y then s.nx else s.rk x;rw [ac (qN r1),ac z];exact lt1 h'
   ·have nx:x≠y:=fun z=>hx (.inr z);rw [iE,ac (by rw [jN];omega)]
    exact b1.no x fun z=>hx (.inl z)
   ·have:=mK k1 (.inl (y:Int)) (.int (y:Int));omega
   ·rw [<-lN,aj n5,Z2j]
   ·show _=some (V.int ((if x=y then e else s.cb x:Nat):Int));by_cases z:x=y
    ·rw [ae z,z,iE,ae rfl]
    ·rw [ac z,iE,ac (by rw [jN];omega)]
     exact b2 x (hx.elim id fun z'=>absurd z' z)
   ·have:=mK k2 (.inl (y:Int)) (.int (e:Int));omega
   ·rw [<-lN,Z2j]
   ·by_cases z:x=y
    ·rw [z,iE,ae rfl];unfold MX.cfI;show _=some (V.int (match (if y=y then qB else s.cf y)with |none=>-1 |some w=>(w:Int)))
     rw [ae rfl,hb]
    ·rw [iE,ac (by rw [jN];omega)]
     have:=b3 x (hx.elim id fun z'=>absurd z' z);unfold MX.cfI at this ⊢;show _=some (V.int (match (if x=y then qB else s.cf x)with |none=>-1 |some w=>(w:Int)))
     rw [ac z];exact this
   ·have:=mK k3 (.inl (y:Int)) (.int b);omega
  have hn:¬ s.tn y u:=fun z=>Co (lP y u z);refine⟨_,rfl,A.sr,A.dx,_,rfl,R3.obj,jj,_,rfl,_,rfl,A,n,c,N,M+1,_,q,y,u,rfl,R3,hy,kc,fun H4 q4 N4 f4 R4 _ zU _=>?_⟩;obtain⟨hq5,JZ⟩:=zU hn;refine k H4 q4 N4 (fr.trans f4) (R4.congr rfl rfl rfl rfl rfl rfl) JZ ⟨[(y,u)],hq5,fun z v=>?_,fun p hp=>by rw [dq.mp hp];exact hn,by simp⟩
  show s.tn z v\/(z=y/\v=u)↔_;simp
end
end BK
end
section
namespace MX
theorem ZbB{up:Nat->Option Nat}:∀ {C:List Nat}{b z z':Nat},Path up b C (some z)->up z=some z'->(∀ w∈C++[z],w≠z')->Path up b (C++[z]) (some z')
 |[],b,z,z',h,hu,hn=>by
  have e:b=z:=by cases h with |nil=>rfl
  subst e;exact .step b z' [] _ hu (fun q=>hn b (by simp) (Option.some.inj q)) (.nil _)
 |y::C,b,z,z',h,hu,hn=>by
  cases h with
  |step _ x _ _ hx bQ hp=>exact .step _ x _ _ hx (fun q=>hn _ (by simp) (Option.some.inj q)) (ZbB hp hu fun w hw=>hn w (by rw [E5];exact dj _ hw))
theorem Zbq{up:Nat->Option Nat}:∀ {C:List Nat}{b z:Nat},Path up b C (some z)->up z=none->Path up b (C++[z]) none
 |[],b,z,h,hu=>by
  have e:b=z:=by cases h with |nil=>rfl
  subst e;exact .top b hu
 |y::C,b,z,h,hu=>by
  cases h with
  |step _ x _ _ hx bQ hp=>exact .step _ x _ _ hx (fun q=>by cases q) (Zbq hp hu)
end MX
namespace BK
open PySem PySem.Spec PyProof.Rows L2 EX RD LM
def pI:Option Nat->Int
 |none=>-1
 |some z=>z
theorem wk{p:Option Nat}:pI p=-1↔p=none:=by
 cases p with
 |none=>exact⟨fun _=>rfl,fun _=>rfl⟩
 |some z=>refine⟨fun h=>?_,fun h=>by cases h⟩;have h:(z:Int)=-1:=h;omega
def eh(C:List Nat)(p:Option Nat):List Nat:=C++p.toList
def Meet(s:MX.S)(b o:Nat)(r:Int)(C D:List Nat):Prop:=(∀ z,z∈C->z∉D)/\((r=-1/\MX.Path s.up b C none/\MX.Path s.up o D none)\/∃ m:Nat,r=m/\MX.Path s.up b C (some m)/\MX.Path s.up o D (some m))
theorem Meet.symm{s:MX.S}{b o:Nat}{r:Int}{C D:List Nat}(h:Meet s b o r C D):Meet s o b r D C :=
 ⟨fun z a b=>h.1 z b a,h.2.elim (fun⟨a,b,c⟩=>.inl ⟨a,c,b⟩) fun⟨m,a,b,c⟩=>.inr ⟨m,a,c,b⟩⟩
section
variable{P:Program}{w:World}{K:aq}{mg:Str->Option Value}{base:Heap}{CS:Addr}
def qd(CS:Addr):Sp:=fun vs H Q _=>∃ (A:SA)(n c N M:Nat)(s:MX.S)(q:List (Nat×Int))(G:MX.Gr)(T:Int)(b o:Nat),vs=[.ref A.sr,.int (b:Int),.int (o:Int)]/\Rep CS n H A c s q N M/\s.Ok G c T/\s.nx<=400 /\
 s.re b/\s.root b=b/\s.re o/\s.root o=o/\b≠o/\∀ H' r C D,Frm A H H'->Rep CS n H' A c s q N M->Meet s b o r C D->Q (.int r) H'
theorem ia:cU ["self","base","other","passed","before"] ["self","base","other"] (bj Hu):=⟨rfl,rfl,rfl,by decide +kernel,rfl,by decide +kernel,by decide +kernel⟩
def pf(s:MX.S)(x:Int):Nat:=if x=-1 then 0 else s.rk x.toNat+1
theorem Fl(s:MX.S)(z:Nat):pf s (pI (some z))=s.rk z+1:=by
 unfold pf;rw [ac (fun h=>by have:=wk.mp h;cases this)]
 rfl
theorem ph(s:MX.S):pf s (pI none)=0:=rfl
theorem Oi{p:Option Nat}(h:(!decide (V.int (pI p)=V.int (-1)))=true):p≠none:=fun z=>by rw [z]at h;simp [pI]at h
def sZ(s:MX.S)(x y:Int):Nat:=2*(pf s x+pf s y)+if x=-1 then 1 else 0
theorem x6{f fB:Addr}{fd iG:FuncData}(F:Fun K "meeting_of" "Search.meeting_of" Hu f fd)(T:jW K mg CS)(GB:am P w K mg base CX0 2 fB iG ["self","base"] (pY CS))(mB:aQ K CS "base_before" fB)(bB:Binds K iG ["self","base"] []) :
  am P w K mg base CX0 3 f fd ["self","base","other"] (qd CS):=by
 refine F.ok ia (fun vs H Q E h=>?_) (fun bp A' outer s' H vs Q E hr h=>?_)
 ·obtain⟨A,n,c,N,M,s,q,G,T',b,o,rfl,_⟩:=h;rfl
 ·obtain⟨A,n,c,N,M,s,q,G,T',b,o,rfl,R,ok,hnx,rb,bb,ro,oo,hbo,k⟩:=h;have hu:=eE hr;refine⟨_,aN (di (i:=3) ia.nd rfl (Or.inl rfl) (IQ (A3 (pv 1) dF (A3 (pv 2) dF IV)) rfl rfl (by decide) (by decide)))
   (aN (Fo PassesOwn.never (PW.pt (jz (gq dZ (pv 1) (ay rfl T.md) (eS _)) (FG (gq dZ (pv 2) (ay rfl T.md) (eS _)))))
     (aN (di (i:=4) ia.nd rfl (Or.inl rfl) (ej (pv 0) T.cl mB GB hr bB .nil aC (ao (pv 1) aD)))
     (aN (bZ (PW.pt (Bk (gq dZ (pv 4) (ay rfl T.md) (eS _)) (Fu (FH (yh hu (pv 4) (pv 3)))))) (bg (dJ (pv 4))) il)
     (aN (wb hu (pv 3) (pv 4) dF rfl)
     (aN (di (i:=1) ia.nd rfl (Or.inl rfl) (pv 2))
     (bg (di (i:=2) ia.nd rfl (Or.inl rfl) (pv 4))))))))
   (bg (dJ (ay rfl T.md)))),?_⟩
  intro pd kT;refine⟨_,rfl,_,rfl,Z2j,[(.inl (b:Int),.bl true),(.inl (o:Int),.bl true)],rfl,(by show 2<=15;decide),?_⟩
  rw [j0];have qJ:zB [] [((.inl (b:Int):Key),V.bl true),(.inl (o:Int),.bl true)]=aE (aE [] (Sum.inl (b:Int):Key) (.bl true)) (Sum.inl (o:Int):Key) (.bl true):=rfl;rw [qJ];generalize Cc:aE (aE [] (Sum.inl (b:Int):Key) (V.bl true)) (Sum.inl (o:Int):Key) (V.bl true)=kv0;have Le:∀ z:Nat,(aJ kv0 (.inl (z:Int))).isSome=true↔z∈eh [] (some b)\/z∈eh [] (some o):=fun z=>by
   rw [<-Cc,iE,iE,qr];simp only [eh,Option.toList,AE,dq,jN];by_cases z1:(z:Int)=(o:Int)
   ·rw [ae z1];exact⟨fun _=>.inr (by omega),fun _=>rfl⟩
   ·rw [ac z1];by_cases z2:(z:Int)=(b:Int)
    ·rw [ae z2];exact⟨fun _=>.inl (by omega),fun _=>rfl⟩
    ·rw [ac z2];exact⟨fun h=>absurd h (by simp),fun h=>by omega⟩
  have len0:kv0.length<=2:=by
   have a:=mK (aE ([]:List (Key×V)) (.inl (b:Int)) (.bl true)) (.inl (o:Int)) (.bl true);have b':=mK ([]:List (Key×V)) (.inl (b:Int)) (.bl true);simp only [lA]at b';rw [<-Cc];omega
  have Rq:∀ {H':Hp}{kv:List (Key×V)},H' pd=some (.dK kv)->pd∉A.mut:=fun{H' kv} _ hm=>by
   simp only [bv,ij,or_false]at hm;obtain⟨_,a1,_⟩:=R.bas;obtain⟨_,a2,_⟩:=R.cby;obtain⟨_,a3,_⟩:=R.cfr;obtain⟨_,a4,_⟩:=R.trn;obtain⟨_,a5,_⟩:=R.wat;rcases hm with h |h |h |h |h<;>rw [h]at kT
   ·rw [a1]at kT;cases kT
   ·rw [a2]at kT;cases kT
   ·rw [a3]at kT;cases kT
   ·rw [a4]at kT;cases kT
   ·rw [a5]at kT;cases kT
  have Rt:∀ {x:Nat},s.re x->s.rk x<400:=fun h=>iC (ok.rkn _ h) hnx;refine Jd (fun σ H'=>∃ (b0 o0:Nat)(C D:List Nat)(p p':Option Nat)(kv:List (Key×V))(v:Option V),σ=[some (.ref A.sr),some (.int (pI p)),some (.int (pI p')),some (.ref pd),v]/\((b0=b/\o0=o)\/(b0=o/\o0=b)) /\
    Frm A H H'/\Rep CS n H' A c s q N M/\H' pd=some (.dK kv)/\(∀ z:Nat,(aJ kv (.inl (z:Int))).isSome=true↔z∈eh C p\/z∈eh D p')/\MX.Path s.up b0 C p/\MX.Path s.up o0 D p'/\(∀ z,z∈eh C p->z∉eh D p') /\
    kv.length+sZ s (pI p) (pI p')<=2000)
   (fun σ _=>match σ with |[_,some (.int x),some (.int y),_,_]=>sZ s x y |_=>0)
   ⟨b,o,[],[],some b,some o,kv0,none,rfl,.inl ⟨rfl,rfl⟩,(Frm.refl _ _).new kT,R.new kT,Z2j,Le,.nil _,.nil _,fun z h1 h2=>?_,?_⟩ ?_ ?_
  ·simp only [eh,Option.toList,AE,dq]at h1 h2;omega
  ·have a:=Rt rb;have b':=Rt ro;unfold sZ;rw [Fl,Fl,ac (fun z=>by have:=wk.mp z;cases this)]
   omega
  ·rintro σ H1 ⟨b0,o0,C,D,p,p',kv,v,rfl,u9,fr,R1,hk,key,pC,pD,dis,bO⟩;have gv:s.re b0/\s.root b0=b0/\s.re o0/\s.root o0=o0:=by
    rcases u9 with⟨rfl,rfl⟩ |⟨rfl,rfl⟩
    ·exact⟨rb,bb,ro,oo⟩
    ·exact⟨ro,oo,rb,bb⟩
   refine⟨_,rfl,rfl,_,rfl,bt (fun hc=>?_) (fun hc=>⟨_,rfl,rfl,_,rfl,bt (fun gM=>?_) (fun gM=>?_)⟩)⟩
   rotate_left 2
   ·
    have e1:p=none:=wk.mp (by simpa using hc)
    have e2:p'=none:=wk.mp (by simpa using gM)
    subst e1 e2;have hm:Meet s b0 o0 (-1) C D:=⟨fun z h1 h2=>dis z (by simpa [eh]using h1) (by simpa [eh]using h2),.inl ⟨rfl,pC,pD⟩⟩
    rcases u9 with⟨rfl,rfl⟩ |⟨rfl,rfl⟩
    ·exact k H1 (-1) C D fr R1 hm
    ·exact k H1 (-1) D C fr R1 hm.symm
   all_goals
    have bQ:p≠none\/p'≠none:=by
     first
     |exact .inl (Oi hc)
     |exact .inr (Oi gM)
    have hb:∃ p2:Option Nat,ux s (pI p) (pI p2)/\(p=none->p2=none)/\∀ z,p=some z->s.up z=p2/\s.re z/\s.root z=z:=by
     cases hp:p with
     |none=>exact⟨none,.inl ⟨rfl,rfl⟩,fun _=>rfl,fun z h=>by cases h⟩
     |some z =>
      rw [hp]at pC;obtain⟨_,a2⟩:=MX.Z6D ok pC gv.1 gv.2.1;obtain⟨c1,c2,_⟩:=a2 z rfl;refine⟨s.up z,.inr ⟨z,rfl,c1,fun w hw=>(ok.tree z w c1 hw).1,?_⟩,fun h=>(by cases h),fun z' h=>by cases h;exact⟨rfl,c1,c2⟩⟩
      cases s.up z<;>rfl
    obtain⟨p2,Kb,Cj,w9⟩:=hb;refine⟨_,rfl,A.sr,A.dx,_,rfl,R1.obj,jj,_,rfl,A,n,c,N,M,s,q,pI p,pI p2,rfl,R1,Kb,fun H2 f2 R2=>?_⟩;have jv:H2 pd=some (.dK kv):=f2 _ _ hk (Rq hk);have wE:∀ z∈eh C p,z∉eh D p':=dis;have vH:∀ z2,p2=some z2->z2∉eh C p/\MX.Path s.up b0 (eh C p) (some z2):=fun z2 e=>by
     cases hp:p with
     |none=>rw [Cj hp]at e;cases e
     |some z =>
      obtain⟨e1,r1,r2⟩:=w9 z hp;rw [e]at e1;obtain⟨a1,a2,a3⟩:=MX.up_lt ok r1 e1;rw [hp]at pC;obtain⟨q1,q2⟩:=MX.Z6D ok pC gv.1 gv.2.1;obtain⟨_,_,_,q3⟩:=q2 z rfl;have lt:∀ w∈C++[z],s.rk z2<s.rk w:=fun w hw=>by
       rcases dy.mp hw with h |h
       ·exact qu a3 (q3 w h)
       ·rw [dq.mp h];exact a3
      exact⟨fun h=>ik _ (lt z2 h),MX.ZbB pC e1 fun w hw z'=>by have:=lt w hw;rw [z']at this;exact ik _ this⟩
    have Ef:p2=none->MX.Path s.up b0 (eh C p) none:=fun e=>by
     cases hp:p with
     |none=>rw [hp]at pC;simpa [eh]using pC
     |some z =>
      obtain⟨e1,_,_⟩:=w9 z hp;rw [hp]at pC;exact MX.Zbq pC (e1.trans e)
    have BP:(∀ z2,p2=some z2->z2∉eh D p')->(∃ (b1 o1:Nat)(C1 D1:List Nat)(p1 Dz:Option Nat)(Lg:List (Key×V))(v1:Option V),[some (V.ref A.sr),some (.int (pI p')),some (.int (pI p2)),some (.ref pd),some (.int (pI p2))]=[some (V.ref A.sr),some (.int (pI p1)),some (.int (pI Dz)),some (.ref pd),v1]/\((b1=b/\o1=o)\/(b1=o/\o1=b)) /\
      Frm A H (upd H2 pd (.dK (aE kv (.inl (pI p2)) (.bl true))))/\Rep CS n (upd H2 pd (.dK (aE kv (.inl (pI p2)) (.bl true)))) A c s q N M/\upd H2 pd (.dK (aE kv (.inl (pI p2)) (.bl true))) pd=some (.dK Lg)/\(∀ z:Nat,(aJ Lg (.inl (z:Int))).isSome=true↔z∈eh C1 p1\/z∈eh D1 Dz)/\MX.Path s.up b1 C1 p1/\MX.Path s.up o1 D1 Dz/\(∀ z,z∈eh C1 p1->z∉eh D1 Dz) /\
      Lg.length+sZ s (pI p1) (pI Dz)<=2000)/\sZ s (pI p') (pI p2)<sZ s (pI p) (pI p'):=fun Ch=>by
     have ms:sZ s (pI p') (pI p2)<sZ s (pI p) (pI p'):=by
      unfold sZ;have h1:pf s (pI p2)<=pf s (pI p)/\(p≠none->pf s (pI p2)<pf s (pI p)):=by
       cases hp:p with
       |none=>rw [Cj hp];exact⟨bK _,fun h=>absurd rfl h⟩
       |some z =>
        obtain⟨e1,r1,_⟩:=w9 z hp;have hz:=Fl s z;have:pf s (pI p2)<pf s (pI (some z)):=by
         rw [hz];cases e2:p2 with
         |none=>rw [ph];omega
         |some z2 =>
          rw [e2]at e1;have:=(MX.up_lt ok r1 e1).2.2;rw [Fl];omega
        exact⟨vS this,fun _=>this⟩
      by_cases hp:p=none
      ·have w8:p'≠none:=bQ.elim (fun z=>absurd hp z) id;rw [ac (fun z=>w8 (wk.mp z)),ae (wk.mpr hp)];omega
      ·have:=h1.2 hp;rw [ac (fun z=>hp (wk.mp z))];split<;>omega
     refine⟨⟨o0,b0,D,eh C p,p',p2,aE kv (.inl (pI p2)) (.bl true),_,rfl,u9.elim (fun⟨a,b⟩=>.inr ⟨b,a⟩) fun⟨a,b⟩=>.inl ⟨b,a⟩,fun x ob e hx=>?_,?_,Z2j,fun z=>?_,pD,?_,fun z h1 h2=>?_,?_⟩,ms⟩
     ·rw [aj (a9 e kT)];exact(fr.trans f2) x ob e hx
     ·
      obtain⟨k1,a1,b1,l1⟩:=R2.bas;obtain⟨k2,a2,b2,l2⟩:=R2.cby;obtain⟨k3,a3,b3,l3⟩:=R2.cfr;obtain⟨k4,a4,b4,l4⟩:=R2.trn;obtain⟨ts,a5,b5⟩:=R2.wat;have np:=Rq hk;simp only [bv,ij,or_false,b8]at np;obtain⟨m1,m2,m3,m4,m5⟩:=np;have keep:∀ {a:Addr}{ob:HO},H2 a=some ob->a≠pd->upd H2 pd (.dK (aE kv (.inl (pI p2)) (.bl true))) a=some ob:=fun e h=>by rw [aj h];exact e
      exact⟨keep R2.obj (az R2.obj jv (by intro z;cases z)),⟨k1,keep a1 (Ne.symm m1),b1,l1⟩,⟨k2,keep a2 (Ne.symm m2),b2,l2⟩,⟨k3,keep a3 (Ne.symm m3),b3,l3⟩,⟨k4,keep a4 (Ne.symm m4),b4,l4⟩,⟨ts,keep a5 (Ne.symm m5),b5.same fun d xs e=>keep e (az e jv (by intro z;cases z))⟩,R2.qle,R2.bud,R2.mle,R2.nn,R2.nd⟩
     ·rw [iE];cases e2:p2 with
      |none =>
       rw [ac (by rw [jN];show ¬ (z:Int)=-1;omega),key z]
       simp only [eh,Option.toList,jY];exact or_comm
      |some z2 =>
       have em:z∈eh (eh C p) (some z2)↔z∈eh C p\/z=z2:=by
        show z∈eh C p++[z2]↔_;rw [dy,dq]
       rw [em];by_cases q1:z=z2
       ·rw [ae (by rw [jN,q1];rfl)]
        exact⟨fun _=>.inr (.inr q1),fun _=>rfl⟩
       ·rw [ac (by rw [jN];show ¬ (z:Int)=(z2:Int);omega),key z]
        constructor
        ·rintro(h |h)
         ·exact .inr (.inl h)
         ·exact .inl h
        ·rintro(h |h |h)
         ·exact .inr h
         ·exact .inl h
         ·exact absurd h q1
     ·cases e2:p2 with
      |none=>exact Ef e2
      |some z2=>exact(vH z2 e2).2
     ·cases e2:p2 with
      |none =>
       rw [e2]at h2;have h2:z∈eh C p:=by simpa [eh]using h2
       exact wE z h2 h1
      |some z2 =>
       rw [e2]at h2;rcases dy.mp (show z∈eh C p++[z2]from h2)with h |h
       ·exact wE z h h1
       ·rw [dq.mp h]at h1;exact Ch z2 e2 h1
     ·have:=mK kv (.inl (pI p2)) (.bl true);omega
    have C8:kv.length<sizeLine:=by rw [ak];omega
    refine⟨_,rfl,rfl,_,rfl,bt (fun kO=>?_) (fun kO=>?_)⟩
    ·
     obtain⟨z2,e2⟩:∃ z2,p2=some z2:=by
      cases e2:p2 with
      |none=>rw [e2]at kO;simp [pI]at kO
      |some z2=>exact⟨z2,rfl⟩
     refine⟨_,rfl,_,rfl,pd,_,rfl,DGet.k (k:=.inl (pI p2)) jv,_,rfl,bt (fun qH=>?_) (fun qH=>?_)⟩
     ·
      rw [e2]at qH;have ml:=(key z2).mp qH;obtain⟨n1,F9⟩:=vH z2 e2;have hD:z2∈eh D p':=ml.elim (fun h=>absurd h n1) id;have yq:∃ D1,MX.Path s.up o0 D1 (some z2)/\∀ x∈D1,x∈eh D p':=by
       cases w8:p' with
       |none =>
        rw [w8]at hD pD;have hD:z2∈D:=by simpa [eh]using hD
        have sp:∀ {L:List Nat}{x:Nat},MX.Path s.up x L none->s.re x->s.root x=x->z2∈L->∃ D1,MX.Path s.up x D1 (some z2)/\∀ y∈D1,y∈L:=fun{L}=>by
         induction L with
         |nil=>intro x h _ _ hz;simp at hz
         |cons y L ih =>
          intro x h hr hx hz;by_cases FR:x=z2
          ·subst FR;exact⟨[],.nil _,fun y hy=>by simp at hy⟩
          ·have CK:x=y:=by cases h<;>rfl
           subst CK;rcases(show(L=[])\/∃ x',s.up x=some x'/\MX.Path s.up x' L none by
            cases h with
            |top _ hu=>exact .inl rfl
            |step _ x' _ _ hu _ hp=>exact .inr ⟨x',hu,hp⟩)with hL |⟨x',hu,hp⟩
           ·rw [hL]at hz;simp at hz;exact absurd hz.symm FR
           ·
            obtain⟨a1,a2,a3⟩:=MX.up_lt ok hr hu;have vc:z2∈L:=(bv.mp hz).elim (fun h=>absurd h.symm FR) id;obtain⟨D1,d1,d2⟩:=ih hp a1 a2 vc;exact⟨x::D1,.step _ x' _ _ hu (fun q=>FR (Option.some.inj q)) d1,fun y hy=>(bv.mp hy).elim (fun h=>by rw [h];exact cY ..) fun h=>dj _ (d2 y h)⟩
        obtain⟨D1,d1,d2⟩:=sp pD gv.2.2.1 gv.2.2.2 hD;exact⟨D1,d1,fun x hx=>by simpa [eh]using d2 x hx⟩
       |some y =>
        rw [w8]at hD pD;by_cases q1:z2=y
        ·subst q1;exact⟨D,pD,fun x hx=>jX _ hx⟩
        ·have j7:z2∈D:=by
          rcases dy.mp (show z2∈D++[y]from hD)with h |h
          ·exact h
          ·exact absurd (dq.mp h) q1
         obtain⟨D1,D2,_,d1,_,d2,_⟩:=MX.Z4I ok pD gv.2.2.1 gv.2.2.2 j7;exact⟨D1,d1,fun x hx=>jX _ (d2 x hx)⟩
      obtain⟨D1,d1,d2⟩:=yq;have hm:Meet s b0 o0 (z2:Int) (eh C p) D1:=⟨fun z h1 h2=>wE z h1 (d2 z h2),.inr ⟨z2,rfl,F9,d1⟩⟩;have e3:pI p2=(z2:Int):=by rw [e2];rfl
      refine⟨_,rfl,?_⟩;rw [e3];rcases u9 with⟨rfl,rfl⟩ |⟨rfl,rfl⟩
      ·exact k H2 _ _ _ (fr.trans f2) R2 hm
      ·exact k H2 _ _ _ (fr.trans f2) R2 hm.symm
     ·have Ch:∀ z,p2=some z->z∉eh D p':=fun z e h=>qH (by rw [e];exact(key z).mpr (.inr h))
      exact⟨_,rfl,_,rfl,pd,_,rfl,DPut.k (k:=.inl (pI p2)) jv C8,_,rfl,_,rfl,BP Ch⟩
    ·have Ch:∀ z,p2=some z->z∉eh D p':=fun z e h=>kO (by rw [e];simp [pI])
     exact⟨_,rfl,_,rfl,pd,_,rfl,DPut.k (k:=.inl (pI p2)) jv C8,_,rfl,_,rfl,BP Ch⟩
  ·rintro σ H1 Q1 Q2 hq ⟨v,e,h1,b',e2,q'⟩;refine⟨v,e,h1,b',e2,?_⟩;cases b' with
   |true=>exact hq _ _ q'
   |false =>
    obtain⟨v,e,h1,b',e2,q'⟩:=q';exact⟨v,e,h1,b',e2,hq _ _ q'⟩
end
end BK
end
section
namespace BK
open PySem PySem.Spec PyProof.Rows L2 EX RD LM
open Classical in
noncomputable def ba(s:MX.S)(Z:List Nat)(m:Nat):MX.S:={ s with root:=fun v=>if s.root v∈Z then m else s.root v,tn:=fun z u=>s.tn z u\/(z∈Z/\(u=1\/u=-1)) }
theorem Z8y(s:MX.S)(m:Nat):(ba s [] m).root=s.root:=by
 funext v
 unfold ba;dsimp only;rw [ac ij]
theorem NI(s:MX.S)(m:Nat):(ba s [] m).tn=s.tn:=by
 funext z u
 refine propext ⟨fun h=>h.elim id fun h=>by simp at h,.inl⟩
section
variable{P:Program}{w:World}{K:aq}{mg:Str->Option Value}{base:Heap}{CS:Addr}
def p0(CS:Addr):Sp:=fun vs H Q _=>∃ (A:SA)(n c N M:Nat)(s:MX.S)(q:List (Nat×Int))(G:MX.Gr)(T:Int)(Z L:List Nat)(z m:Nat),vs=[.ref A.sr,.int (z:Int),.int (m:Int)]/\Rep CS n H A c (ba s Z m) q N M/\s.Ok G c T/\G.n=n /\
 MX.Path s.up z L (some m)/\s.re z/\s.root z=z/\(∀ x∈L,x∉Z)/\m∉Z/\∀ H' q' N',Frm A H H'->Rep CS n H' A c (ba s (Z++L) m) q' N' M->Ext (ba s Z m) q (ba s (Z++L) m) q'->N<=N'->Q .non H'
theorem kf:cU ["self","base","meeting","before"] ["self","base","meeting"] (bj HL):=⟨rfl,rfl,rfl,by decide +kernel,rfl,by decide +kernel,by decide +kernel⟩
theorem xV{f fB fA:Addr}{fd iG gw:FuncData}(F:Fun K "fold" "Search.fold" HL f fd)(T:jW K mg CS)(GB:am P w K mg base CX0 2 fB iG ["self","base"] (pY CS))(mB:aQ K CS "base_before" fB)(bB:Binds K iG ["self","base"] [])
  (GA:am P w K mg base CX0 2 fA gw ["self","atom"] (Jm CS))(mA:aQ K CS "allow_both" fA)(bA:Binds K gw ["self","atom"] []):am P w K mg base CX0 3 f fd ["self","base","meeting"] (p0 CS):=by
 refine F.ok kf (fun vs H Q E h=>?_) (fun bp A' outer s' H vs Q E hr h=>?_)
 ·obtain⟨A,n,c,N,M,s,q,G,T',Z,L,z,m,rfl,_⟩:=h;rfl
 ·obtain⟨A,n,c,N,M,s,q,G,T',Z,L,z,m,rfl,R,ok,hn,F9,rz,zz,dis,mZ,k⟩:=h;have hu:=eE hr;refine⟨_,bg (Fo PassesOwn.never (gq dZ (pv 1) (pv 2) (eS _))
    (aN (di (i:=3) kf.nd rfl (Or.inl rfl) (ej (pv 0) T.cl mB GB hr bB .nil aC (ao (pv 1) aD)))
    (aN (wb hu (bq (pv 0) rfl) (pv 1) (pv 2) rfl)
    (aN (gR (ej (pv 0) T.cl mA GA hr bA .nil aC (ao (pv 1) aD)))
    (bg (di (i:=1) kf.nd rfl (Or.inl rfl) (pv 3))))))),?_⟩
  obtain⟨pr1,pr2⟩:=MX.Z6D ok F9 rz zz;obtain⟨rm,mm,_,Ll⟩:=pr2 m rfl;refine Jd (fun σ H'=>∃ (x:Nat)(L1 L2:List Nat)(q':List (Nat×Int))(N':Nat)(v:Option V),σ=[some (.ref A.sr),some (.int (x:Int)),some (.int (m:Int)),v]/\L=L1++L2/\MX.Path s.up x L2 (some m)/\s.re x/\s.root x=x/\(∀ y∈L1,y∉L2) /\
    Frm A H H'/\Rep CS n H' A c (ba s (Z++L1) m) q' N' M/\Ext (ba s Z m) q (ba s (Z++L1) m) q'/\N<=N')
   (fun σ _=>match σ with |[_,some (.int x),_,_]=>s.rk x.toNat |_=>0)
   ⟨z,[],L,q,N,none,rfl,rfl,F9,rz,zz,fun y hy=>by simp at hy,Frm.refl _ _,by rw [jY];exact R,by rw [jY];exact Ext.refl _ _,bK _⟩ ?_ ?_
  ·rintro σ H1 ⟨x,L1,L2,q1,N1,v,rfl,hL,px,rx,xx,d12,fr,R1,ex,hN⟩;refine⟨_,rfl,_,rfl,rfl,_,rfl,bt (fun hc=>?_) (fun hc=>?_)⟩
   ·have zY:x≠m:=fun e=>by simp [e]at hc
    obtain⟨x',L3,kc,zT,JX⟩:∃ x' L3,s.up x=some x'/\MX.Path s.up x' L3 (some m)/\L2=x::L3:=by
     cases px with
     |nil=>exact absurd rfl zY
     |step _ x' L3 _ kc _ hp=>exact⟨x',L3,kc,hp,rfl⟩
    subst JX;obtain⟨rx',xx',lt'⟩:=MX.up_lt ok rx kc;obtain⟨nL3,_⟩:=MX.Z7M ok rx xx kc zT;have xL:x∈L:=by rw [hL];simp
    have xZ:x∉Z++L1:=fun h=>by
     rcases dy.mp h with h |h
     ·exact dis x xL h
     ·exact d12 x h (cY ..)
    have x'Z:x'∉Z++L1:=fun h=>by
     have hx':x'∈L3\/x'=m:=MX.Z3e zT;rcases hx' with h3 |h3
     ·rcases dy.mp h with h |h
      ·exact dis x' (by rw [hL];simp [h3]) h
      ·exact d12 x' h (dj _ h3)
     ·subst h3;rcases dy.mp h with h |h
      ·exact mZ h
      ·exact ik _ (Ll x' (by rw [hL];exact jX _ h))
    have mZ1:m∉Z++L1:=fun h=>by
     rcases dy.mp h with h |h
     ·exact mZ h
     ·exact ik _ (Ll m (by rw [hL];exact jX _ h))
    have hup:(ba s (Z++L1) m).up x=some x':=by
     unfold MX.S.up at kc ⊢;cases e:s.cf x with
     |none=>rw [e]at kc;cases kc
     |some w' =>
      rw [e]at kc;have e2:s.root w'=x':=Option.some.inj kc;show Option.map (ba s (Z++L1) m).root (s.cf x)=some x';rw [e];show some (if s.root w'∈Z++L1 then m else s.root w')=some x';rw [ac (by rw [e2];exact x'Z),e2]
    refine⟨_,rfl,A.sr,A.dx,_,rfl,R1.obj,jj,_,rfl,A,n,c,N1,M,_,q1,(x:Int),(x':Int),rfl,R1,.inr ⟨x,rfl,rx,fun w' hw=>(ok.tree x w' rx hw).1,by rw [hup]⟩,fun H2 f2 R2=>?_⟩
    obtain⟨ah,hb,B,hl⟩:=R2.bas;refine⟨_,rfl,_,rfl,A.sr,CS,A.dx,_,_,rfl,R2.obj,T.cl,T.nb,rD _ _,_,rfl,A.db,_,rfl,DPut.k (k:=.inl (x:Int)) hb (by rw [ak];have:=R2.mle;omega),?_⟩
    have Af:∀ v,(ba s (Z++L1++[x]) m).root v=if (ba s (Z++L1) m).root v=x then m else(ba s (Z++L1) m).root v:=fun v=>by
     show(if s.root v∈Z++L1++[x]then m else s.root v)=if (if s.root v∈Z++L1 then m else s.root v)=x then m else(if s.root v∈Z++L1 then m else s.root v);by_cases h1:s.root v∈Z++L1
     ·rw [ae (jX _ h1),ae h1,ac (fun e=>zY e.symm)]
     ·rw [ac h1];by_cases h2:s.root v=x
      ·rw [ae (by rw [h2];simp),ae h2]
      ·rw [ac (fun h=>(dy.mp h).elim h1 fun h=>h2 (dq.mp h)),ac h2]
    have Rx:(ba s (Z++L1) m).root x=x:=by
     show(if s.root x∈Z++L1 then m else s.root x)=x;rw [xx,ac xZ]
    have Rv:(ba s (Z++L1) m).root m=m:=by
     show(if s.root m∈Z++L1 then m else s.root m)=m;rw [mm,ac mZ1]
    have lmx:s.rk m<s.rk x:=Ll x xL;obtain⟨yx,vx,_⟩:=B.at_ x rx;have B2:Bas { ba s (Z++L1) m with root:=(ba s (Z++L1++[x]) m).root } (aE ah (.inl (x:Int)) (.int (m:Int))):=by
     refine⟨?_,fun y hy=>?_,fun y hy=>?_⟩
     ·rw [iE,ac (by rw [jN];omega)];exact B.mid
     ·by_cases e:y=x
      ·subst e;refine⟨m,by rw [iE,ae rfl],rm,?_,?_,fun _=>lmx⟩
       ·show(ba s (Z++L1++[y]) m).root m=(ba s (Z++L1++[y]) m).root y;rw [Af,Af,Rv,Rx,ac (fun e=>zY e.symm),ae rfl]
       ·show m=y↔(ba s (Z++L1++[y]) m).root y=y;rw [Af,Rx,ae rfl]
      ·obtain⟨y1,v1,r1,e1,i1,l1⟩:=B.at_ y hy;refine⟨y1,by rw [iE,ac (by rw [jN];omega)];exact v1,r1,?_,?_,l1⟩
       ·show(ba s (Z++L1++[x]) m).root y1=(ba s (Z++L1++[x]) m).root y;rw [Af,Af,e1]
       ·show y1=y↔(ba s (Z++L1++[x]) m).root y=y;rw [Af];by_cases e2:(ba s (Z++L1) m).root y=x
        ·rw [ae e2];refine⟨fun h=>?_,fun h=>?_⟩
         ·have:=i1.mp h;rw [e2]at this;exact absurd this.symm e
         ·rw [<-h,Rv]at e2;exact absurd e2.symm zY
        ·rw [ac e2];exact i1
     ·rw [iE,ac (by rw [jN];intro h;apply hy;have:y=x:=(by omega);rw [this];exact rx)]
      exact B.no y hy
    have R3:=R2.setBas B2 (by rw [Om (by rw [vx];rfl)];exact hl) rfl rfl rfl rfl
    refine⟨_,rfl,A.sr,A.dx,_,rfl,R3.obj,jj,_,rfl,A,n,c,N1,M,_,q1,x,rfl,R3,by rw [<-hn];exact ok.rn x rx,fun H4 q4 N4 f4 R4 e4 JZ=>?_⟩
    have Qn:(ba s (Z++L1++[x]) m).tn=(({ ba s (Z++L1) m with root:=(ba s (Z++L1++[x]) m).root }:MX.S).allow x 1 |>.allow x (-1)).tn:=by
     funext y u
     refine propext ⟨fun h=>?_,fun h=>?_⟩
     ·rcases h with h |⟨h,d9⟩
      ·exact .inl (.inl (.inl h))
      ·rcases dy.mp h with h |h
       ·exact .inl (.inl (.inr ⟨h,d9⟩))
       ·have h:=dq.mp h;rcases d9 with d9 |d9
        ·exact .inl (.inr ⟨h,d9⟩)
        ·exact .inr ⟨h,d9⟩
     ·rcases h with((h |⟨h,d9⟩) |⟨h,d9⟩) |⟨h,d9⟩
      ·exact .inl h
      ·exact .inr ⟨jX _ h,d9⟩
      ·exact .inr ⟨by rw [h];simp,.inl d9⟩
      ·exact .inr ⟨by rw [h];simp,.inr d9⟩
    have R5:Rep CS n H4 A c (ba s (Z++L1++[x]) m) q4 N4 M:=R4.congr rfl rfl rfl rfl rfl Qn;refine⟨_,rfl,⟨x',L1++[x],L3,q4,N4,_,rfl,by rw [hL];simp,zT,rx',xx',fun y hy h3=>?_,((fr.trans f2).upd (by simp)).trans f4,by rw [<-List.append_assoc];exact R5,?_,iD hN JZ⟩,?_⟩
    ·rcases dy.mp hy with h |h
     ·exact d12 y h (dj _ h3)
     ·rw [dq.mp h]at h3;exact nL3 h3
    ·rw [<-List.append_assoc];refine ex.trans (Ext.tn ?_ Qn);obtain⟨r,a1,a2,a3⟩:=e4;exact⟨r,a1,a2,a3⟩
    ·show s.rk ((x':Int)).toNat<s.rk ((x:Int)).toNat;simpa using lt'
   ·have zY:x=m:=by
     have:(x:Int)=(m:Int):=by simpa using hc
     omega
    subst zY;have JX:L2=[]:=by
     cases px with
     |nil=>rfl
     |step _ _ _ _ _ bQ _=>exact absurd rfl bQ
    subst JX;rw [jY]at hL;subst hL;exact k H1 q1 N1 fr R1 ex hN
  ·rintro σ H1 Q1 Q2 hq ⟨v,e,v2,e2,h1,b',e3,q'⟩;exact⟨v,e,v2,e2,h1,b',e3,hq _ _ q'⟩
end
end BK
end
section
namespace BK
open PySem PySem.Spec PyProof.Rows L2 EX RD LM
def wf(e y:Int)(d:Addr):List (Str×V):=[("bond",.int e),("other",.int y),("rooms",.ref d)]
theorem IX(e y:Int)(d:Addr):(wf e y d).lookup ("bond" : Str)=some (.int e):=by
 unfold wf;rw [bh,show(("bond" : Str)=="bond")=true by decide]
theorem Fm(e y:Int)(d:Addr):(wf e y d).lookup ("other" : Str)=some (.int y):=by
 unfold wf;rw [bh,show(("other" : Str)=="bond")=false by decide,bh,show(("other" : Str)=="other")=true by decide]
theorem Fi(e y:Int)(d:Addr):(wf e y d).lookup ("rooms" : Str)=some (.ref d):=by
 unfold wf;rw [bh,show(("rooms" : Str)=="bond")=false by decide,bh,show(("rooms" : Str)=="other")=false by decide,bh,show(("rooms" : Str)=="rooms")=true by decide]
def WayAt(CW:Addr)(H:Hp)(r:Addr)(e y:Nat)(o:Int):Prop:=∃ dx d ah,H r=some (.ins CW dx (wf e y d))/\H d=some (.dK ah)/\aJ ah (.inl 1)=some (.int (3-o))/\aJ ah (.inl (-1))=some (.int (o-1))
def WayOff(CW:Addr)(A:SA)(H:Hp)(r:Addr):Prop:=r∉A.mut/\∀ dx fs d,H r=some (.ins CW dx fs)->fs.lookup ("rooms" : Str)=some (.ref d)->d∉A.mut
theorem WayAt.frm{CW:Addr}{A:SA}{H H':Hp}{r:Addr}{e y:Nat}{o:Int}(h:WayAt CW H r e y o)(f:Frm A H H')(w:WayOff CW A H r):WayAt CW H' r e y o:=by
 obtain⟨dx,d,ah,a,b,c1,c2⟩:=h;exact⟨dx,d,ah,f _ _ a w.1,f _ _ b (w.2 dx _ d a (Fi _ _ _)),c1,c2⟩
theorem WayAt.room{G:MX.Gr}{ah:List (Key×V)}{e:Nat}{t:Int}(h1:aJ ah (.inl 1)=some (.int (3-(G.bd e).o)))(h2:aJ ah (.inl (-1))=some (.int ((G.bd e).o-1)))(ht:t=1\/t=-1):aJ ah (.inl t)=some (.int (G.room t e)):=by
 unfold MX.Gr.room;rcases ht with rfl |rfl
 ·rw [ae rfl];exact h1
 ·rw [ac (by decide)];exact h2
structure TW(K:aq)(CW:Addr):Prop where
 cl:Cls K CW
 nb:NoAttr K CW "bond"
 no:NoAttr K CW "other"
 nr:NoAttr K CW "rooms"
structure qS(G:MX.Gr)(n c:Nat)(T:Int)(s:MX.S)(N M:Nat):Prop where
 ok:s.Ok G c T
 gok:G.Ok
 gn:G.n=n
 cm:c<G.m
 co:(G.bd c).o=2
 hT:T=1\/T=-1
 mn:M<=N+2
 nx:s.nx<=N
section
variable{P:Program}{w:World}{K:aq}{mg:Str->Option Value}{base:Heap}{CS CW:Addr}
def P6(CS CW:Addr):Sp:=fun vs H Q _=>∃ (A:SA)(n c N M:Nat)(s:MX.S)(q:List (Nat×Int))(G:MX.Gr)(T:Int)(x y e:Nat)(t:Int)(wr:Addr),vs=[.ref A.sr,.int (x:Int),.int t,.ref wr]/\Rep CS n H A c s q N M/\qS G n c T s N M /\
 WayAt CW H wr e y (G.bd e).o/\WayOff CW A H wr/\s.tn x t/\e<G.m/\e≠c/\MX.Jn (G.bd e) x y/\0<G.room t e/\¬ s.dn x t e /\
 (∀ H',Frm A H H'->(∃ δ,G.Chg δ/\δ c=T)->Q (.bl true) H') /\
 ∀ H' s' q' N' M',Frm A H H'->Rep CS n H' A c s' q' N' M'->qS G n c T s' N' M'->Ext s q s' q'->(∀ z u f,s'.dn z u f↔s.dn z u f\/(z=x/\u=t/\f=e))->Q (.bl false) H'
theorem fz:cU ["self","atom","turn","way","base","other_base","used_up","meeting"] ["self","atom","turn","way"] (bj Hl):=⟨rfl,rfl,rfl,by decide +kernel,rfl,by decide +kernel,by decide +kernel⟩
theorem tz{f fR fB fM fF fA:Addr}{fd BD iG uY Qx gw:FuncData}(F:Fun K "closes" "Search.closes" Hl f fd)(T:jW K mg CS)(W:TW K CW)
  (GR:am P w K mg base CX0 2 fR BD ["self","atom","before","bond","turn"] (IS CS))(mR:aQ K CS "reach" fR)(bR:Binds K BD ["self","atom","before","bond","turn"] [])
  (GB:am P w K mg base CX0 1 fB iG ["self","atom"] (Jo CS))(mB:aQ K CS "base_of" fB)(bB:Binds K iG ["self","atom"] [])
  (GM:am P w K mg base CX0 3 fM uY ["self","base","other"] (qd CS))(mM:aQ K CS "meeting_of" fM)(bM:Binds K uY ["self","base","other"] [])
  (GF:am P w K mg base CX0 3 fF Qx ["self","base","meeting"] (p0 CS))(mF:aQ K CS "fold" fF)(bF:Binds K Qx ["self","base","meeting"] [])
  (GA:am P w K mg base CX0 2 fA gw ["self","atom"] (Jm CS))(mA:aQ K CS "allow_both" fA)(bA:Binds K gw ["self","atom"] []) :
  am P w K mg base CX0 4 f fd ["self","atom","turn","way"] (P6 CS CW):=by
 refine F.ok fz (fun vs H Q E h=>?_) (fun bp A' outer s' H vs Q E hr h=>?_)
 ·obtain⟨A,n,c,N,M,s,q,G,T',x,y,e,t,wr,rfl,_⟩:=h;rfl
 ·obtain⟨A,n,c,N,M,s,q,G,T',x,y,e,t,wr,rfl,R,S,hW,hO,tx,he,hec,hj,jw,wX,k1,k2⟩:=h;have hu:=eE hr;have eg:Room 2 _:=hr.mono (by decide)
  have iJ:Room 1 _:=hr.mono (by decide)
  refine⟨_,aN (bZ (FH (Ip hu (bq (pv 3) rfl) (bq (pv 0) rfl)))
    (aN (gR (ej (pv 0) T.cl mR GR eg bR .nil aC (ao (bq (pv 3) rfl) (ao (pv 1) (ao (bq (pv 3) rfl) (ao (lg FD (pv 2)) aD)))))) (bg (dJ dF))) il)
   (aN (di (i:=4) fz.nd rfl (Or.inl rfl) (ej (pv 0) T.cl mB GB iJ bB .nil aC (ao (pv 1) aD)))
   (aN (di (i:=5) fz.nd rfl (Or.inl rfl) (ej (pv 0) T.cl mB GB iJ bB .nil aC (ao (bq (pv 3) rfl) aD)))
   (aN (di (i:=6) fz.nd rfl (Or.inl rfl) (Bl (wa iQ (uP hu (bq (pv 0) rfl) (pv 4) (fun _ _=>rfl)) (bq (pv 3) rfl) (eS _)) (FE (wa iQ (uP hu (bq (pv 3) rfl) (pv 2) (fun _ _=>rfl)) bx (eS _)))))
   (aN (bZ (PW.pt (jz (gq iQ (pv 4) (pv 5) (eS _)) (jz (zD (pv 6)) (FG (FH (Ip hu (qA (ao (bq (pv 3) rfl) (ao (pv 2) aD))) (bq (pv 0) rfl))))))) (bg (dJ dF)) il)
   (aN (di (i:=7) fz.nd rfl (Or.inl rfl) (ej (pv 0) T.cl mM GM hr bM .nil aC (ao (pv 4) (ao (pv 5) aD))))
   (aN (bZ (gq iQ (pv 7) (ay rfl T.md) (eS _)) (bg (dJ dF)) il)
   (aN (gR (ej (pv 0) T.cl mF GF hr bF .nil aC (ao (pv 4) (ao (pv 7) aD))))
   (aN (gR (ej (pv 0) T.cl mF GF hr bF .nil aC (ao (pv 5) (ao (pv 7) aD))))
   (aN (gR (ej (pv 0) T.cl mA GA eg bA .nil aC (ao (pv 7) aD)))
   (bg (dJ dF))))))))))),?_⟩
  have rx:=(S.ok.tnr x t tx).1;have ht:=(S.ok.tnr x t tx).2;have small:=R.small;obtain⟨dw,dd,kw,qL,Q3,Q4,Q5⟩:=id hW;obtain⟨ah,hb,B,hl⟩:=R.bas;have yn:y<n:=by
   rw [<-S.gn];rcases hj with⟨_,z⟩ |⟨_,z⟩
   ·rw [<-z];exact S.gok.bn e he
   ·rw [<-z];exact S.gok.an e he
  refine⟨_,rfl,wr,CW,dw,_,_,rfl,qL,W.cl,W.no,Fm _ _ _,_,rfl,A.sr,CS,A.dx,_,_,rfl,R.obj,T.cl,T.nb,rD _ _,A.db,_,rfl,DGet.k (k:=.inl (y:Int)) hb,_,rfl,bt (fun hc=>?_) (fun hc=>?_)⟩
  ·
   have Co:¬ s.re y:=fun z=>by
    obtain⟨y1,v1,_⟩:=B.at_ y z;rw [v1]at hc;cases hc
   refine⟨_,rfl,A.sr,A.dx,_,rfl,R.obj,jj,_,rfl,wr,CW,dw,_,_,rfl,qL,W.cl,W.no,Fm _ _ _,_,rfl,_,rfl,wr,CW,dw,_,_,rfl,qL,W.cl,W.nb,IX _ _ _,_,rfl,_,rfl,
    A,n,c,N,M,s,q,y,e,(x:Int),-t,some x,rfl,R,by have:=S.mn;omega,yn,Co,fun z v h=>(S.ok.tnr z v h).1,fun z h=>(S.ok.root z h).1,by omega,rfl,fun H1 q1 N1 f1 R1 hN1 e1=>?_⟩
   have okr:=MX.reach_ok S.ok S.gok tx he hec hj jw Co;have R2:Rep CS n H1 A c (s.reach x y e t) q1 N1 (M+1):=R1.congr rfl rfl rfl rfl rfl rfl;exact k2 H1 (s.reach x y e t) q1 N1 (M+1) f1 R2 ⟨okr,S.gok,S.gn,S.cm,S.co,S.hT,by have:=S.mn;omega,by show s.nx+1<=N1;have:=S.nx;omega⟩ (Ext.tn e1 rfl) fun z u f=>Iff.rfl
  ·have ry:s.re y:=by
    by_cases z:s.re y
    ·exact z
    ·rw [B.no y z]at hc;exact absurd rfl hc
   refine⟨_,rfl,A.sr,A.dx,_,rfl,R.obj,jj,_,rfl,A,n,c,N,M,s,q,(x:Int),(s.root x:Int),rfl,R,.inr ⟨x,rfl,rx,rfl⟩,fun H1 f1 R1=>?_⟩;have BU:=hW.frm f1 hO;obtain⟨dw1,dd1,kw1,K4,hw12,hw13,hw14⟩:=id BU;have J0:WayOff CW A H1 wr:=⟨hO.1,fun dx fs d h1 h2=>hO.2 dx fs d (by
    have:=f1 _ _ qL hO.1;rw [this]at h1;cases h1;exact qL) h2⟩
   refine⟨_,rfl,A.sr,A.dx,_,rfl,R1.obj,jj,_,rfl,wr,CW,dw1,_,_,rfl,K4,W.cl,W.no,Fm _ _ _,A,n,c,N,M,s,q,(y:Int),(s.root y:Int),rfl,R1,.inr ⟨y,rfl,ry,rfl⟩,fun H2 f2 R2=>?_⟩;have hW2:=BU.frm f2 J0;obtain⟨JG,zI,kw2,xo,K5,K6,K7⟩:=id hW2;obtain⟨k2c,c1,c2,c3⟩:=R2.cby;have rrx:=(S.ok.root x rx).1;have gcb:DGet H2 A.cb (.int (s.root x:Int)) (some (.int (s.cb (s.root x):Int))):=by rw [<-c2 _ rrx];exact DGet.k (k:=.inl (s.root x:Int)) c1
   have JT:DGet H2 zI (.int t) (some (.int (G.room t e))):=by rw [<-WayAt.room K6 K7 ht];exact DGet.k (k:=.inl t) K5
   have Qs:=f1.trans f2;have stay:(s.root x=s.root y\/(s.cb (s.root x)=e/\G.room t e=1)\/¬ s.tn y t)->∀ H3,Frm A H2 H3->Rep CS n H3 A c s q N M->Q (.bl false) H3:=fun hh H3 f3 R3=>by
    have okm:=MX.mark_ok S.ok S.gok tx he hec hj jw ry hh;have R4:Rep CS n H3 A c (s.mark x e t) q N M:=R3.congr rfl rfl rfl rfl rfl rfl;exact k2 H3 (s.mark x e t) q N M (Qs.trans f3) R4 ⟨okm,S.gok,S.gn,S.cm,S.co,S.hT,S.mn,S.nx⟩ (Ext.tn (Ext.refl _ _) rfl) fun z u f=>Iff.rfl
   have KY:decide (V.int (s.cb (s.root x):Int)=V.int (e:Int))=true->(decide (V.int (G.room t e)=V.int 1)=true↔(s.cb (s.root x)=e/\G.room t e=1)):=fun h=>by
    have h1:s.cb (s.root x)=e:=by have:=V.int.inj (ap h);omega
    rw [ag];exact⟨fun h=>⟨h1,V.int.inj h⟩,fun h=>by rw [h.2]⟩
   have KZ:¬ decide (V.int (s.cb (s.root x):Int)=V.int (e:Int))=true->(false=true↔(s.cb (s.root x)=e/\G.room t e=1)):=fun h =>
    ⟨fun z=>absurd z (by decide),fun z=>absurd (ai (by rw [z.1])) h⟩
   refine⟨_,rfl,A.sr,CS,A.dx,_,_,rfl,R2.obj,T.cl,T.ny,N0 _ _,_,rfl,A.cb,_,rfl,gcb,_,rfl,wr,CW,JG,_,_,rfl,xo,W.cl,W.nb,IX _ _ _,rfl,_,rfl,
    bt (fun fQ=>⟨_,rfl,wr,CW,JG,_,_,rfl,xo,W.cl,W.nr,Fi _ _ _,_,rfl,zI,_,rfl,JT,rfl,?_⟩) (fun fQ=>?_)⟩
   all_goals
    first
    |have CD:=KY fQ
    |have CD:=KZ fQ
    refine⟨_,rfl,_,rfl,rfl,_,rfl,bt (fun ha=>?_) (fun ha=>⟨_,rfl,_,rfl,bt (fun jR=>?_) (fun jR=>?_)⟩)⟩
    ·exact stay (.inl (by have:=V.int.inj (ap ha);omega)) H2 (Frm.refl _ _) R2
    ·exact stay (.inr (.inl (CD.mp jR))) H2 (Frm.refl _ _) R2
    have CI:s.root x≠s.root y:=fun z=>ha (ai (by rw [z]))
    have KI:¬ (s.cb (s.root x)=e/\G.room t e=1):=fun z=>jR (CD.mpr z);obtain⟨k4,d1,d2,d3⟩:=R2.trn;refine⟨_,rfl,wr,CW,JG,_,_,rfl,xo,W.cl,W.no,Fm _ _ _,_,rfl,(by show 2<=sizeLine;decide),fun u3 sQ=>?_⟩
    have R3:=R2.new (o:=.tup [.int (y:Int),.int t]) sQ;have f3:Frm A H2 (upd H2 u3 (.tup [.int (y:Int),.int t])):=(Frm.refl _ _).new sQ;have Kf:upd H2 u3 (.tup [.int (y:Int),.int t]) A.tn=some (.dT k4):=by rw [aj (a9 d1 sQ)];exact d1
    refine⟨_,rfl,A.sr,CS,A.dx,_,_,rfl,R3.obj,T.cl,T.nt,Jb _ _,A.tn,_,rfl,DGet.t (k:=[.inl (y:Int),.inl t]) Kf Z2j,_,rfl,bt (fun qH=>?_) (fun qH=>?_)⟩
    ·refine stay (.inr (.inr fun z=>?_)) _ f3 R3;have:=(d2 y t).mpr z;rw [this]at qH;cases qH
    have ty:s.tn y t:=by
     refine(d2 y t).mp ?_;cases z:aJ k4 [.inl (y:Int),.inl t]with
     |none=>rw [z]at qH;exact absurd rfl qH
     |some v=>rfl
    generalize upd H2 u3 (.tup [.int (y:Int),.int t])=H3 at R3 f3;have JK:=Qs.trans f3;have Gc:=S.ok.root x rx;have Gd:=S.ok.root y ry;refine⟨_,rfl,A.sr,A.dx,_,rfl,R3.obj,jj,_,rfl,_,rfl,A,n,c,N,M,s,q,G,T',s.root x,s.root y,rfl,R3,S.ok,by have:=S.nx;omega,Gc.1,Gc.2.1,Gd.1,Gd.2.1,CI,fun H4 r C D f4 R4 hm=>?_⟩
    have Qu:=JK.trans f4;refine⟨_,rfl,rfl,_,rfl,bt (fun Kc=>?_) (fun Kc=>?_)⟩
    ·
     have er:r=-1:=V.int.inj (ap Kc);obtain⟨dis,hm⟩:=hm;rcases hm with⟨_,p1,p2⟩ |⟨m,z,_⟩
     ·exact k1 H4 Qu (MX.found S.ok S.gok S.cm S.co S.hT he hec hj jw tx ty p1 p2 dis)
     ·omega
    ·obtain⟨dis,hm⟩:=hm;rcases hm with⟨z,_⟩ |⟨m,rfl,p1,p2⟩
     ·exact absurd (ai (by rw [z])) Kc
     ·have Rg:MX.Ring s G c x y e t C D m:=⟨tx,ty,he,hec,hj,jw,p1,p2,dis⟩;obtain⟨m1,m2,m3,m4,m5,m6⟩:=MX.Z7r S.ok Rg;have R5:Rep CS n H4 A c (ba s [] m) q N M:=R4.congr rfl (Z8y s m) rfl rfl rfl (NI s m);refine⟨_,rfl,A.sr,A.dx,_,rfl,R4.obj,jj,_,rfl,_,rfl,A,n,c,N,M,s,q,G,T',[],C,s.root x,m,rfl,R5,S.ok,S.gn,p1,Gc.1,Gc.2.1,fun z _ h=>by simp at h,by simp,fun H6 q6 N6 f6 R6 e6 hN6=>?_⟩
      rw [AE]at R6 e6;refine⟨_,rfl,A.sr,A.dx,_,rfl,R6.obj,jj,_,rfl,_,rfl,A,n,c,N6,M,s,q6,G,T',C,D,s.root y,m,rfl,R6,S.ok,S.gn,p2,Gd.1,Gd.2.1,fun z h1 h2=>dis z h2 h1,m3,fun H7 q7 N7 f7 R7 e7 hN7=>?_⟩;refine⟨_,rfl,A.sr,A.dx,_,rfl,R7.obj,jj,_,rfl,A,n,c,N7,M,_,q7,m,rfl,R7,by rw [<-S.gn];exact S.ok.rn m m1,fun H8 q8 N8 f8 R8 e8 hN8=>?_⟩
      have okf:=MX.fold_ok S.ok S.gok Rg CI KI wX;have er:(s.fold C D m x e t).root=(((ba s (C++D) m).allow m 1).allow m (-1)).root:=by
       funext v
       show(if s.root v∈C\/s.root v∈D then m else s.root v)=if s.root v∈C++D then m else s.root v;by_cases z:s.root v∈C\/s.root v∈D
       ·rw [ae z,ae (dy.mpr z)]
       ·rw [ac z,ac fun h=>z (dy.mp h)]
      have et:(s.fold C D m x e t).tn=(((ba s (C++D) m).allow m 1).allow m (-1)).tn:=by
       funext z u
       refine propext ⟨fun h=>?_,fun h=>?_⟩
       ·rcases h with h |⟨h |h |h,d9⟩
        ·exact .inl (.inl (.inl h))
        ·exact .inl (.inl (.inr ⟨jX _ h,d9⟩))
        ·exact .inl (.inl (.inr ⟨ko _ h,d9⟩))
        ·rcases d9 with d9 |d9
         ·exact .inl (.inr ⟨h,d9⟩)
         ·exact .inr ⟨h,d9⟩
       ·rcases h with((h |⟨h,d9⟩) |⟨h,d9⟩) |⟨h,d9⟩
        ·exact .inl h
        ·exact .inr ⟨(dy.mp h).imp_right .inl,d9⟩
        ·exact .inr ⟨.inr (.inr h),.inl d9⟩
        ·exact .inr ⟨.inr (.inr h),.inr d9⟩
      have R9:Rep CS n H8 A c (s.fold C D m x e t) q8 N8 M:=R8.congr rfl er rfl rfl rfl et;have ex:Ext s q (s.fold C D m x e t) q8:=by
       have a:Ext s q (ba s C m) q6:=by
        obtain⟨r,a1,a2,a3,a4⟩:=e6;rw [NI]at a2 a3;exact⟨r,a1,a2,a3,a4⟩
       exact((a.trans e7).trans e8).tn et
      exact k2 H8 (s.fold C D m x e t) q8 N8 M (((Qu.trans f6).trans f7).trans f8) R9 ⟨okf,S.gok,S.gn,S.cm,S.co,S.hT,by have:=S.mn;omega,by show s.nx<=N8;have:=S.nx;omega⟩ ex fun z u f=>Iff.rfl
end
end BK
end
section
namespace MX
theorem ZbP{n:Nat}:∀ {r:List (Nat×Int)}{s s':S},(∀ x t,s'.tn x t↔s.tn x t\/(x,t)∈r)->(∀ p∈r,¬ s.tn p.1 p.2)->r.Nodup->(∀ p∈r,p.1<n/\(p.2=1\/p.2=-1))->miss s n=miss s' n+r.length
 |[],s,s',h,_,_,_=>by
  unfold miss;rw [Z4H (p:=fun x=>¬ s.tn x 1) (q:=fun x=>¬ s'.tn x 1) fun x _=>by rw [h];simp,Z4H (p:=fun x=>¬ s.tn x (-1)) (q:=fun x=>¬ s'.tn x (-1)) fun x _=>by rw [h];simp]
  rfl
 |(x,t)::r,s,s',h,hn,hd,hv=>by
  have hx:=hv (x,t) (cY ..);rw [Zba hx.1 hx.2 (hn (x,t) (cY ..))];have:=ZbP (n:=n) (r:=r) (s:=s.allow x t) (s':=s') (fun z u=>?_) (fun p hp z=>?_) (lz.mp hd).2 (fun p hp=>hv p (dj _ hp))
  ·rw [this,gB];omega
  ·rw [h];show _↔(s.tn z u\/(z=x/\u=t))\/_;rw [bv,Prod.mk.injEq,or_assoc]
  ·rcases z with z |⟨z1,z2⟩
   ·exact hn p (dj _ hp) z
   ·have:p=(x,t):=by rw [<-z1,<-z2]
    rw [this]at hp;exact(lz.mp hd).1 hp
end MX
namespace L2
theorem uv{c:TT}{tb:TS}{D:dH}{σ:St}{H:Hp}(Pv:Nat->St->Hp->Prop)(m0:Nat)(h0:Pv m0 σ H)
  (hs:∀ m σ H,Pv m σ H->c σ H fun b H1=>if b=true then tb { D with nx:=fun σ' H'=>∃ m',m' < m/\Pv m' σ' H',ct:=fun σ' H'=>∃ m',m' < m/\Pv m' σ' H',bk:=D.nx } σ H1 else D.nx σ H1)
  (mono:∀ σ H Q Q',(∀ b H1,Q b H1->Q' b H1)->c σ H Q->c σ H Q'):Jq c tb D σ H:=by
 refine⟨Pv,⟨m0,h0⟩,fun m σ H p=>?_⟩;refine mono σ H _ _ (fun b H1 q=>?_) (hs m σ H p);cases b with
 |true=>exact⟨_,fun σ' H' z=>z,q⟩
 |false=>exact q
end L2
namespace BK
open PySem PySem.Spec PyProof.Rows L2 EX RD LM
structure Wys(CW:Addr)(A:SA)(G:MX.Gr)(H:Hp)(ls:List Addr)(ws:Nat->List Addr)(E:Nat->List (Nat×Nat)):Prop where
 top:H A.wl=some (.lst (ls.map V.ref))
 tof:A.wl∉A.mut
 len:ls.length=G.n
 row:∀ x l,ls[x]?=some l->H l=some (.lst ((ws x).map V.ref))/\l∉A.mut
 wln:∀ x,x<G.n->(ws x).length=(E x).length
 way:∀ (x j:Nat) r p,x<G.n->(ws x)[j]?=some r->(E x)[j]?=some p->WayAt CW H r p.1 p.2 (G.bd p.1).o/\WayOff CW A H r
 cov:∀ x e y,x<G.n->((e,y)∈E x↔e<G.m/\MX.Jn (G.bd e) x y)
 unq:∀ x,x<G.n->((E x).map (·.1)).Nodup
theorem WayOff.frm{CW:Addr}{A:SA}{H H':Hp}{r:Addr}{e y:Nat}{o:Int}(h:WayAt CW H r e y o)(f:Frm A H H')(w:WayOff CW A H r):WayOff CW A H' r:=by
 obtain⟨dx,d,ah,a,b,_⟩:=h;refine⟨w.1,fun eN uZ d' h1 h2=>?_⟩;rw [f _ _ a w.1]at h1;cases h1;exact w.2 dx _ d' a h2
theorem Wys.frm{CW:Addr}{A:SA}{G:MX.Gr}{H H':Hp}{ls:List Addr}{ws:Nat->List Addr}{E:Nat->List (Nat×Nat)}(h:Wys CW A G H ls ws E)(f:Frm A H H'):Wys CW A G H' ls ws E :=
 ⟨f _ _ h.top h.tof,h.tof,h.len,fun x l e=>⟨f _ _ (h.row x l e).1 (h.row x l e).2,(h.row x l e).2⟩,h.wln,fun x j r p hx e1 e2=>let z:=h.way x j r p hx e1 e2;⟨z.1.frm f z.2,z.2.frm z.1 f⟩,h.cov,h.unq⟩
section
variable{P:Program}{w:World}{K:aq}{mg:Str->Option Value}{base:Heap}{CS CW:Addr}
def qa(CS CW:Addr):Sp:=fun vs H Q _=>∃ (A:SA)(n c N M:Nat)(s:MX.S)(q:List (Nat×Int))(G:MX.Gr)(T:Int)(ls:List Addr)(ws:Nat->List Addr)(E:Nat->List (Nat×Nat))(x:Nat)(t:Int),vs=[.ref A.sr,.int (x:Int),.int t]/\Rep CS n H A c s q N M/\qS G n c T s N M /\
 Wys CW A G H ls ws E/\s.tn x t/\(∀ e,¬ s.dn x t e) /\
 (∀ H',Frm A H H'->(∃ δ,G.Chg δ/\δ c=T)->Q (.bl true) H') /\
 ∀ H' s' q' N' M',Frm A H H'->Rep CS n H' A c s' q' N' M'->qS G n c T s' N' M'->Ext s q s' q'->(∀ z u f,s'.dn z u f↔s.dn z u f\/(z=x/\u=t/\f≠c/\0<G.room t f/\f<G.m/\∃ y,MX.Jn (G.bd f) x y))->Q (.bl false) H'
theorem pP:cU ["self","atom","turn","way"] ["self","atom","turn"] (bj Hg):=⟨rfl,rfl,rfl,by decide +kernel,rfl,by decide +kernel,by decide +kernel⟩
theorem xW{f fC:Addr}{fd BA:FuncData}(F:Fun K "goes_on" "Search.goes_on" Hg f fd)(T:jW K mg CS)(W:TW K CW)
  (GC:am P w K mg base CX0 4 fC BA ["self","atom","turn","way"] (P6 CS CW))(mC:aQ K CS "closes" fC)(bC:Binds K BA ["self","atom","turn","way"] []):am P w K mg base CX0 5 f fd ["self","atom","turn"] (qa CS CW):=by
 refine F.ok pP (fun vs H Q E h=>?_) (fun bp A' outer s' H vs Q E' hr h=>?_)
 ·obtain⟨A,n,c,N,M,s,q,G,T',ls,ws,E,x,t,rfl,_⟩:=h;rfl
 ·obtain⟨A,n,c,N,M,s,q,G,T',ls,ws,E,x,t,rfl,R,S,Y,tx,wX,k1,k2⟩:=h;have hu:=eE hr;refine⟨_,aN (lH PassesOwn.never rfl (qx (dk qy (bq (pv 0) rfl) (pv 1) (fun _ _=>rfl))) (eT (i:=3) pP.nd rfl (Or.inl rfl))
    (bg (bZ (PW.pt (Bk (gq dZ (bq (pv 3) rfl) (bq (pv 0) rfl) (eS _)) (Bk (gq kZ (uP hu (bq (pv 3) rfl) (pv 2) (fun _ _=>rfl)) bx (eS _)) (Fu (zD (ej (pv 0) T.cl mC GC hr bC .nil aC (ao (pv 1) (ao (pv 2) (ao (pv 3) aD)))))))))
      (bg (dJ dF)) il)))
   (bg (dJ dF)),?_⟩
  have rx:=(S.ok.tnr x t tx).1;have ht:=(S.ok.tnr x t tx).2;have xn:=S.ok.rn x rx;have lx:x<ls.length:=by rw [Y.len];exact xn
  obtain⟨r1,r2⟩:=Y.row x ls[x] (du lx);have wl:=Y.wln x xn;refine⟨_,rfl,A.sr,CS,A.dx,_,_,rfl,R.obj,T.cl,T.nw,tX _ _,_,rfl,A.wl,_,_,.ref ls[x],rfl,rfl,SqL.of Y.top,qz (by rw [dP,du lx];rfl),ls[x],rfl,⟨_,SqL.of r1⟩,
   FB (K:=K) (a:=ls[x]) (xs:=(ws x).map V.ref) (fun i σ H'=>∃ (v:Option V)(s1:MX.S)(q1:List (Nat×Int))(N1 M1:Nat),σ=[some (.ref A.sr),some (.int (x:Int)),some (.int t),v]/\Frm A H H'/\Rep CS n H' A c s1 q1 N1 M1/\qS G n c T' s1 N1 M1/\Ext s q s1 q1 /\
    ∀ z u f,s1.dn z u f↔s.dn z u f\/(z=x/\u=t/\f≠c/\0<G.room t f/\∃ y,(f,y)∈(E x).take i))
   ⟨none,s,q,N,M,rfl,Frm.refl _ _,R,S,Ext.refl _ _,fun z u f=>by simp⟩ (fun i σ H' _ h=>?_) ?_ ?_⟩
  ·obtain⟨v,s1,q1,N1,M1,_,fr,_⟩:=h;exact SqL.of (fr _ _ r1 r2)
  ·rintro i y σ H1 hi ⟨v,s1,q1,N1,M1,rfl,fr,R1,S1,ex,hd⟩;obtain⟨wr,hwr,rfl⟩:∃ wr,(ws x)[i]?=some wr/\y=V.ref wr:=by
    rw [dP]at hi;cases e:(ws x)[i]? with
    |none=>rw [e]at hi;cases hi
    |some wr=>rw [e]at hi;exact⟨wr,rfl,(Option.some.inj hi).symm⟩
   have li:i<(E x).length:=by rw [<-wl];exact(ee.mp hwr).1
   have BR:(E x)[i]?=some (E x)[i]:=du li;generalize (E x)[i]=p at BR;obtain⟨e,y⟩:=p;obtain⟨QF,QD⟩:=Y.way x i wr (e,y) xn hwr BR;have BU:=QF.frm fr QD;have J0:=QD.frm QF fr;obtain⟨dw,dd,kw,qL,Q3,Q4,Q5⟩:=id BU;have cov:=(Y.cov x e y xn).mp (gK BR);have JT:DGet H1 dd (.int t) (some (.int (G.room t e))):=by rw [<-WayAt.room Q4 Q5 ht];exact DGet.k (k:=.inl t) Q3
   have wY:∀ y',(e,y')∉(E x).take i:=fun y' hm=>by
    have nd:=Y.unq x xn;obtain⟨j,hj⟩:=List.getElem?_of_mem hm;have hj1:=(ee.mp hj).1;rw [lW]at hj1;rw [List.getElem?_take_of_lt (by omega)]at hj
    have a1:((E x).map (·.1))[j]?=some e:=by rw [dP,hj];rfl
    have a2:((E x).map (·.1))[i]?=some e:=by rw [dP,BR];rfl
    have:=(List.getElem?_inj (i:=j) (j:=i) (by rw [aT];omega) nd).mp (a1.trans a2.symm)
    omega
   have KB:¬ s1.dn x t e:=fun z=>by
    rcases(hd x t e).mp z with z |⟨_,_,_,_,y',K8⟩
    ·exact wX e z
    ·exact wY y' K8
   have tk:∀ (pp:Nat×Nat),pp∈(E x).take (i+1)↔pp∈(E x).take i\/pp=(e,y):=fun pp=>by
    rw [mJ,BR,dy];simp
   have DY:(e=c\/¬ 0<G.room t e)->∃ (v:Option V)(s2:MX.S)(q2:List (Nat×Int))(N2 M2:Nat),[some (V.ref A.sr),some (.int (x:Int)),some (.int t),some (.ref wr)]=[some (V.ref A.sr),some (.int (x:Int)),some (.int t),v]/\Frm A H H1/\Rep CS n H1 A c s2 q2 N2 M2/\qS G n c T' s2 N2 M2/\Ext s q s2 q2 /\
     ∀ z u f,s2.dn z u f↔s.dn z u f\/(z=x/\u=t/\f≠c/\0<G.room t f/\∃ y,(f,y)∈(E x).take (i+1)):=fun hh=>by
    refine⟨_,s1,q1,N1,M1,rfl,fr,R1,S1,ex,fun z u f=>?_⟩;rw [hd];refine⟨fun h=>h.imp_right fun⟨a,b,c1,d,y',h⟩=>⟨a,b,c1,d,y',(tk _).mpr (.inl h)⟩,fun h=>h.imp_right fun⟨a,b,c1,d,y',h⟩=>⟨a,b,c1,d,y',?_⟩⟩;rcases(tk _).mp h with h |h
    ·exact h
    ·injection h with h1 h2
     rw [h1]at c1 d;rcases hh with hh |hh
     ·exact absurd hh c1
     ·exact absurd d hh
   refine⟨_,rfl,wr,CW,dw,_,_,rfl,qL,W.cl,W.nb,IX _ _ _,_,rfl,A.sr,CS,A.dx,_,_,rfl,R1.obj,T.cl,T.nc,yB _ _,rfl,_,rfl,bt (fun fQ=>?_) (fun fQ=>?_)⟩
   ·have hec:e≠c:=fun z=>by rw [z]at fQ;simp at fQ
    refine⟨_,rfl,wr,CW,dw,_,_,rfl,qL,W.cl,W.nr,Fi _ _ _,_,rfl,dd,_,rfl,JT,_,_,rfl,rfl,_,rfl,bt (fun gM=>?_) (fun gM=>?_)⟩
    ·have jw:0<G.room t e:=ap gM;have tx1:s1.tn x t:=by obtain⟨r,_,h,_⟩:=ex;exact(h x t).mpr (.inl tx)
     refine⟨_,rfl,A.sr,A.dx,_,rfl,R1.obj,jj,_,rfl,_,rfl,_,rfl,A,n,c,N1,M1,s1,q1,G,T',x,y,e,t,wr,rfl,R1,S1,BU,J0,tx1,cov.1,hec,cov.2,jw,KB,fun H2 f2 hδ=>?_,fun H2 s2 q2 N2 M2 f2 R2 S2 e2 d2=>?_⟩
     ·exact⟨_,rfl,k1 H2 (fr.trans f2) hδ⟩
     ·refine⟨_,rfl,_,s2,q2,N2,M2,rfl,fr.trans f2,R2,S2,ex.trans e2,fun z u f=>?_⟩;rw [d2,hd];constructor
      ·rintro((h |⟨a,b,c1,d,y',h⟩) |⟨rfl,rfl,rfl⟩)
       ·exact .inl h
       ·exact .inr ⟨a,b,c1,d,y',(tk _).mpr (.inl h)⟩
       ·exact .inr ⟨rfl,rfl,hec,jw,y,(tk _).mpr (.inr rfl)⟩
      ·rintro(h |⟨a,b,c1,d,y',h⟩)
       ·exact .inl (.inl h)
       ·rcases(tk _).mp h with h |h
        ·exact .inl (.inr ⟨a,b,c1,d,y',h⟩)
        ·injection h with h1 h2
         exact .inr ⟨a,b,h1⟩
    ·exact DY (.inr fun z=>gM (ai z))
   ·exact DY (.inl (by
     by_cases z:e=c
     ·exact z
     ·exact absurd (show _=true by simp;omega) fQ))
  ·rintro σ H1 ⟨v,s1,q1,N1,M1,rfl,fr,R1,S1,ex,hd⟩;refine k2 H1 s1 q1 N1 M1 fr R1 S1 ex fun z u f=>?_;rw [hd,aT,wl,qw];refine or_congr Iff.rfl ⟨fun⟨a,b,c1,d,y,h⟩=>?_,fun⟨a,b,c1,d,e1,y,h⟩=>⟨a,b,c1,d,y,(Y.cov x f y xn).mpr ⟨e1,h⟩⟩⟩;have:=(Y.cov x f y xn).mp h;exact⟨a,b,c1,d,this.1,y,this.2⟩
end
section
variable{P:Program}{w:World}{K:aq}{mg:Str->Option Value}{base:Heap}{CS CW:Addr}
structure Wt(G:MX.Gr)(c:Nat)(s:MX.S)(q:List (Nat×Int)):Prop where
 nd:q.Nodup
 un:∀ p∈q,s.tn p.1 p.2/\∀ e,¬ s.dn p.1 p.2 e
 dn:∀ x t,s.tn x t->(x,t)∈q\/∀ e y,e<G.m->e≠c->MX.Jn (G.bd e) x y->0<G.room t e->s.dn x t e
def pX(CS CW:Addr):Sp:=fun vs H Q _=>∃ (A:SA)(n c N M:Nat)(s:MX.S)(q:List (Nat×Int))(G:MX.Gr)(T:Int)(ls:List Addr)(ws:Nat->List Addr)(E:Nat->List (Nat×Nat)),vs=[.ref A.sr]/\Rep CS n H A c s q N M/\qS G n c T s N M /\
 Wys CW A G H ls ws E/\Wt G c s q/\∀ (b:Bool) H',Frm A H H'->(b=true↔∃ δ,G.Chg δ/\δ c=T)->Q (.bl b) H'
theorem pN:cU ["self","state"] ["self"] (bj Hw):=⟨rfl,rfl,rfl,by decide +kernel,rfl,by decide +kernel,by decide +kernel⟩
theorem xS{f fG:Addr}{fd kJ:FuncData}(F:Fun K "comes_back" "Search.comes_back" Hw f fd)(T:jW K mg CS)
  (GG:am P w K mg base CX0 5 fG kJ ["self","atom","turn"] (qa CS CW))(mG:aQ K CS "goes_on" fG)(bG:Binds K kJ ["self","atom","turn"] []):am P w K mg base CX0 6 f fd ["self"] (pX CS CW):=by
 refine F.ok pN (fun vs H Q E h=>?_) (fun bp A' outer s' H vs Q E' hr h=>?_)
 ·obtain⟨A,n,c,N,M,s,q,G,T',ls,ws,E,rfl,_⟩:=h;rfl
 ·obtain⟨A,n,c,N,M,s,q,G,T',ls,ws,E,rfl,R,S,Y,GZ,k⟩:=h;refine⟨_,aN (Fo PassesOwn.never (pz (bq (pv 0) rfl) (fun _=>rfl))
    (aN (di (i:=1) pN.nd rfl (Or.inl rfl) (yj AG PySem.F.slot_list_pop PySem.F.type_list_pop xO (bq (pv 0) rfl)))
    (bg (bZ (zD (ej (pv 0) T.cl mG GG hr bG .nil aC (ao (dk zw (pv 1) bx (fun _ _=>rfl)) (ao (dk zw (pv 1) bx (fun _ _=>rfl)) aD)))) (bg (dJ dF)) il))))
   (bg (dJ dF)),?_⟩
  refine uv (fun m σ H'=>∃ (v:Option V)(s1:MX.S)(q1:List (Nat×Int))(N1 M1:Nat),σ=[some (.ref A.sr),v]/\m=2*MX.miss s1 n+q1.length/\Frm A H H'/\Rep CS n H' A c s1 q1 N1 M1/\qS G n c T' s1 N1 M1/\Wt G c s1 q1) _ ⟨none,s,q,N,M,rfl,rfl,Frm.refl _ _,R,S,GZ⟩ ?_ ?_
  ·rintro m σ H1 ⟨v,s1,q1,N1,M1,rfl,rfl,fr,R1,S1,W1⟩;obtain⟨ts,hq,hT⟩:=R1.wat;have zX:ts.length=q1.length:=by have:=hT.1;rw [aT]at this;exact this
   refine⟨_,rfl,A.sr,CS,A.dx,_,_,rfl,R1.obj,T.cl,T.nq,HQ _ _,_,.inl ⟨_,SqL.of hq,rfl⟩,?_⟩;rcases List.eq_nil_or_concat q1 with hq1 |⟨q0,p,hq1⟩
   ·
    subst hq1;have:ts=[]:=E7 zX;subst this;show Q (.bl false) H1;refine k false H1 fr ⟨fun z=>(by cases z),fun⟨δ,hδ,e⟩=>?_⟩
    refine absurd e (MX.ended S1.ok S1.gok S1.cm S1.hT (fun x y t e' lP he hec hj jw=>?_) hδ);rcases W1.dn x t lP with h |h
    ·simp at h
    ·exact h e' y he hec hj jw
   ·rw [List.concat_eq_append]at hq1;subst hq1;obtain⟨x,t⟩:=p;have bO:ts.length=q0.length+1:=by rw [zX];simp
    obtain⟨mq,tl,hts⟩:∃ mq tl,ts=mq++[tl]:=by
     rcases List.eq_nil_or_concat ts with h |⟨a,b,h⟩
     ·rw [h]at bO;simp at bO
     ·exact⟨a,b,by rw [h,List.concat_eq_append]⟩
    subst hts;have l0:mq.length=q0.length:=by simp at bO;exact bO
    have Cy:H1 tl=some (.tup (([(x:Int),t]:List Int).map V.int)):=by
     refine hT.2 mq.length tl _ (by simp) ?_
     rw [l0];simp
    have un:=W1.un (x,t) (by simp)
    have bQ:(!((mq++[tl]).map V.ref).isEmpty)=true:=by simp
    rw [bQ];refine⟨_,rfl,A.sr,CS,A.dx,_,_,rfl,R1.obj,T.cl,T.nq,HQ _ _,.inl ⟨rfl,_,SqL.of hq⟩,A.wq,_,.ref tl,rfl,rfl,hq,by simp,?_⟩
    have hdl:((mq++[tl]).map V.ref).dropLast=mq.map V.ref:=by rw [fL];simp
    rw [hdl];obtain⟨k1,a1,b1,l1⟩:=R1.bas;obtain⟨k2,a2,b2,l2⟩:=R1.cby;obtain⟨k3,a3,b3,l3⟩:=R1.cfr;obtain⟨k4,a4,b4,l4⟩:=R1.trn;have nd:=R1.nd;simp only [lz,bv,ij,or_false,b8]at nd;obtain⟨⟨n1,n2,n3,n4⟩,⟨n5,n6,n7⟩,⟨n8,n9⟩,z9,_⟩:=nd;have keep:∀ {a:Addr}{o:HO},H1 a=some o->a≠A.wq->upd H1 A.wq (.lst (mq.map V.ref)) a=some o:=fun e h=>by rw [aj h];exact e
    have R2:Rep CS n (upd H1 A.wq (.lst (mq.map V.ref))) A c s1 q0 N1 M1:=by
     refine⟨keep R1.obj (az R1.obj hq (by intro z;cases z)),⟨k1,keep a1 n4,b1,l1⟩,⟨k2,keep a2 n7,b2,l2⟩,⟨k3,keep a3 n9,b3,l3⟩,⟨k4,keep a4 z9,b4,l4⟩,⟨mq,Z2j,by rw [aT];exact l0,fun j t' m' e1 e2=>?_⟩,?_,R1.bud,R1.mle,R1.nn,R1.nd⟩
     ·have lj:=(ee.mp e1).1;have lj2:j<q0.length:=by omega
      have z:=hT.2 j t' m' (by rw [mI lj];exact e1) (by rw [fL,mI (by rw [aT];exact lj2)];exact e2)
      exact keep z (az z hq (by intro y;cases y))
     ·have:=R1.qle;simp at this;omega
    have JQ:=fr.upd (b:=A.wq) (o:=.lst (mq.map V.ref)) (by simp)
    have Y2:=Y.frm JQ;have Cz:upd H1 A.wq (.lst (mq.map V.ref)) tl=some (.tup (([(x:Int),t]:List Int).map V.int)):=keep Cy (az Cy hq (by intro z;cases z))
    refine⟨_,rfl,A.sr,A.dx,_,rfl,R2.obj,jj,_,rfl,tl,_,_,_,rfl,rfl,SqT.of Cz,rfl,_,rfl,tl,_,_,_,rfl,rfl,SqT.of Cz,rfl,A,n,c,N1,M1,s1,q0,G,T',ls,ws,E,x,t,rfl,R2,S1,Y2,un.1,un.2,fun H3 f3 hδ=>?_,fun H3 s3 q3 N3 M3 f3 R3 S3 e3 d3=>?_⟩
    ·exact⟨_,rfl,k true H3 (JQ.trans f3) ⟨fun _=>hδ,fun _=>rfl⟩⟩
    ·obtain⟨r,j9,Cv,FY,Cg⟩:=e3;subst j9;have EE:∀ p∈r,p.1<n/\(p.2=1\/p.2=-1):=fun p hp=>by
      have:=S3.ok.tnr p.1 p.2 ((Cv p.1 p.2).mpr (.inr hp));exact⟨by rw [<-S3.gn];exact S3.ok.rn _ this.1,this.2⟩
     have hm:=MX.ZbP (n:=n) Cv FY Cg EE;have hxq:(x,t)∉q0:=fun h=>by
      have:=W1.nd;rw [qZ]at this;exact this.2.2 (x,t) h (x,t) (by simp) rfl
     refine⟨_,rfl,2*MX.miss s3 n+(q0++r).length,?_,_,s3,q0++r,N3,M3,rfl,rfl,JQ.trans f3,R3,S3,⟨?_,fun p hp=>?_,fun z u hz=>?_⟩⟩
     ·simp only [gC,gB,lA];omega
     ·have nd0:q0.Nodup:=(qZ.mp W1.nd).1;exact qZ.mpr ⟨nd0,Cg,fun a ha b hb z=>FY b hb (by rw [<-z];exact(W1.un a (by simp [ha])).1)⟩
     ·rcases dy.mp hp with hp |hp
      ·obtain⟨u1,u2⟩:=W1.un p (by simp [hp])
       refine⟨(Cv _ _).mpr (.inl u1),fun e h=>?_⟩;rcases(d3 _ _ _).mp h with h |⟨h1,h2,_⟩
       ·exact u2 e h
       ·have:p=(x,t):=by rw [<-h1,<-h2]
        rw [this]at hp;exact hxq hp
      ·refine⟨(Cv _ _).mpr (.inr hp),fun e h=>?_⟩;rcases(d3 _ _ _).mp h with h |⟨h1,h2,_⟩
       ·exact FY p hp (S1.ok.d1 _ _ _ h).1
       ·have:p=(x,t):=by rw [<-h1,<-h2]
        exact FY p hp (by rw [this];exact un.1)
     ·rcases(Cv z u).mp hz with h |h
      ·rcases W1.dn z u h with h2 |h2
       ·rcases dy.mp h2 with h2 |h2
        ·exact .inl (jX _ h2)
        ·right;intro e y he hec hj jw;have h2:=dq.mp h2;injection h2 with h3 h4
         subst h3 h4;exact(d3 _ _ _).mpr (.inr ⟨rfl,rfl,hec,jw,he,y,hj⟩)
       ·exact .inr fun e y he hec hj jw=>(d3 _ _ _).mpr (.inl (h2 e y he hec hj jw))
      ·exact .inl (ko _ h)
  ·rintro σ H1 Q1 Q2 hq ⟨v,e,a,C,dx,fs,v',h1,h2,h3,h4,h5,k',h6,q'⟩;exact⟨v,e,a,C,dx,fs,v',h1,h2,h3,h4,h5,k',h6,hq _ _ q'⟩
end
def bf(a b o sd:Int):List (Str×V):=[("a",.int a),("b",.int b),("order",.int o),("side",.int sd)]
theorem lK(a b o sd:Int):(bf a b o sd).lookup ("a" : Str)=some (.int a):=by
 unfold bf;rw [bh,show(("a" : Str)=="a")=true by decide]
theorem lL(a b o sd:Int):(bf a b o sd).lookup ("b" : Str)=some (.int b):=by
 unfold bf;rw [bh,show(("b" : Str)=="a")=false by decide,bh,show(("b" : Str)=="b")=true by decide]
theorem Iy(a b o sd:Int):(bf a b o sd).lookup ("order" : Str)=some (.int o):=by
 unfold bf;rw [bh,show(("order" : Str)=="a")=false by decide,bh,show(("order" : Str)=="b")=false by decide,bh,show(("order" : Str)=="order")=true by decide]
theorem rL(a b o sd:Int):(bf a b o sd).lookup ("side" : Str)=some (.int sd):=by
 unfold bf;rw [bh,show(("side" : Str)=="a")=false by decide,bh,show(("side" : Str)=="b")=false by decide,bh,show(("side" : Str)=="order")=false by decide,bh,show(("side" : Str)=="side")=true by decide]
def mw(CB:Addr)(H:Hp)(r:Addr)(a b:Nat)(o sd:Int):Prop:=∃ dx,H r=some (.ins CB dx (bf a b o sd))
structure uD(K:aq)(CB:Addr):Prop where
 cl:Cls K CB
 na:NoAttr K CB "a"
 nb:NoAttr K CB "b"
 no:NoAttr K CB "order"
 ns:NoAttr K CB "side"
structure Bds(CB:Addr)(G:MX.Gr)(H:Hp)(bl:Addr)(bs:List Addr)(sd:Nat->Int):Prop where
 top:H bl=some (.lst (bs.map V.ref))
 len:bs.length=G.m
 bond:∀ e r,bs[e]?=some r->mw CB H r (G.bd e).a (G.bd e).b (G.bd e).o (sd e)
theorem Bds.same{CB:Addr}{G:MX.Gr}{H H':Hp}{bl:Addr}{bs:List Addr}{sd:Nat->Int}(h:Bds CB G H bl bs sd)(s:L2.Same H H'):Bds CB G H' bl bs sd :=
 ⟨s _ _ h.top,h.len,fun e r z=>let ⟨dx,q⟩:=h.bond e r z;⟨dx,s _ _ q⟩⟩
structure Wys0(CW:Addr)(G:MX.Gr)(H:Hp)(wl:Addr)(ls:List Addr)(ws:Nat->List Addr)(E:Nat->List (Nat×Nat)):Prop where
 top:H wl=some (.lst (ls.map V.ref))
 len:ls.length=G.n
 row:∀ (x:Nat) l,ls[x]?=some l->H l=some (.lst ((ws x).map V.ref))
 wln:∀ x,x<G.n->(ws x).length=(E x).length
 way:∀ (x j:Nat) r p,x<G.n->(ws x)[j]?=some r->(E x)[j]?=some p->WayAt CW H r p.1 p.2 (G.bd p.1).o
 cov:∀ x e y,x<G.n->((e,y)∈E x↔e<G.m/\MX.Jn (G.bd e) x y)
 unq:∀ x,x<G.n->((E x).map (·.1)).Nodup
theorem Wys0.same{CW:Addr}{G:MX.Gr}{H H':Hp}{wl:Addr}{ls:List Addr}{ws:Nat->List Addr}{E:Nat->List (Nat×Nat)}(h:Wys0 CW G H wl ls ws E)(s:L2.Same H H'):Wys0 CW G H' wl ls ws E :=
 ⟨s _ _ h.top,h.len,fun x l e=>s _ _ (h.row x l e),h.wln,fun x j r p hx e1 e2=>let ⟨dx,d,ah,a,b,c⟩:=h.way x j r p hx e1 e2;⟨dx,d,ah,s _ _ a,s _ _ b,c⟩,h.cov,h.unq⟩
theorem Wys0.wys{CW:Addr}{A:SA}{G:MX.Gr}{H H':Hp}{ls:List Addr}{ws:Nat->List Addr}{E:Nat->List (Nat×Nat)}(h:Wys0 CW G H A.wl ls ws E)(new:∀ b∈A.mut,H b=none)(s:L2.Same H H'):Wys CW A G H' ls ws E:=by
 have off:∀ {b:Addr}{o:HO},H b=some o->b∉A.mut:=fun e hb=>by rw [new _ hb]at e;cases e
 refine⟨s _ _ h.top,off h.top,h.len,fun x l e=>⟨s _ _ (h.row x l e),off (h.row x l e)⟩,h.wln,fun x j r p hx e1 e2=>?_,h.cov,h.unq⟩;obtain⟨dx,d,ah,a,b,c⟩:=h.way x j r p hx e1 e2;refine⟨⟨dx,d,ah,s _ _ a,s _ _ b,c⟩,off a,fun eN uZ d' h1 h2=>?_⟩;rw [s _ _ a]at h1;cases h1;rw [Fi]at h2;cases h2;exact off b
section
variable{P:Program}{w:World}{K:aq}{mg:Str->Option Value}{base:Heap}{CS CW CB:Addr}
def Eb(CS:Addr):Sp:=fun vs H Q _=>∃ (sr dx wl:Addr)(c:Nat),vs=[.ref sr,.ref wl,.int (c:Int)]/\H sr=some (.ins CS dx []) /\
 ∀ (H':Hp)(A:SA),A.sr=sr->A.dx=dx->A.wl=wl->H' sr=some (.ins CS dx (A.flds c))->H' A.db=some (.dK [(.inl (-1),.int (-1))])->H' A.cb=some (.dK [])->H' A.cf=some (.dK [])->H' A.tn=some (.dT [])->H' A.wq=some (.lst []) ->
  A.mut.Nodup->(∀ b∈A.mut,H b=none)->Only sr H H'->Q .non H'
theorem Md:cU ["self","ways","cut"] ["self","ways","cut"] (bj HN):=⟨rfl,rfl,rfl,by decide +kernel,rfl,by decide +kernel,by decide +kernel⟩
theorem LI{f:Addr}{fd:FuncData}(F:Fun K "__init__" "Search.__init__" HN f fd)(T:jW K mg CS):am P w K mg base CX0 1 f fd ["self","ways","cut"] (Eb CS):=by
 refine F.ok Md (fun vs H Q E h=>?_) (fun bp A' outer s' H vs Q E hr h=>?_)
 ·obtain⟨sr,dx,wl,c,rfl,_⟩:=h;rfl
 ·obtain⟨sr,dx,wl,c,rfl,ho,k⟩:=h;refine⟨_,aN (gr (pv 0) (pv 1) rfl) (aN (gr (pv 0) (pv 2) rfl)
   (aN (gr (pv 0) (IQ (A3 (ay rfl T.md) (ay rfl T.md) IV) rfl rfl (by decide) (by decide)) rfl)
   (aN (gr (pv 0) Pe rfl) (aN (gr (pv 0) Pe rfl) (aN (gr (pv 0) oV rfl) (bg (gr (pv 0) (mL aD) rfl))))))),?_⟩
  refine⟨_,rfl,_,rfl,sr,CS,dx,[],rfl,ho,T.cl,T.nw,(by show 0<1000;decide),?_⟩
  refine⟨_,rfl,_,rfl,sr,CS,dx,_,rfl,Z2j,T.cl,T.nc,(by show 1<1000;decide),?_⟩
  rw [j0];intro db gy;refine⟨Z2j,[(.inl (-1),.int (-1))],rfl,(by show 1<=15;decide),?_⟩
  rw [j0];have n1:sr≠db:=a9 Z2j gy;refine⟨_,rfl,sr,CS,dx,_,rfl,by rw [aj n1,Z2j],T.cl,T.nb,(by show 2<1000;decide),?_⟩
  intro cb B0;have n2:sr≠cb:=a9 Z2j B0;have Aa:db≠cb:=fun z=>by rw [<-z,aj (Ne.symm n1),Z2j]at B0;cases B0
  refine⟨_,rfl,sr,CS,dx,_,rfl,by rw [aj n2,Z2j],T.cl,T.ny,(by show 3<1000;decide),?_⟩
  intro cf wQ;have n3:sr≠cf:=a9 Z2j wQ;have Db:cb≠cf:=fun z=>by rw [<-z,aj (Ne.symm n2),Z2j]at wQ;cases wQ
  have oH:db≠cf:=fun z=>by rw [<-z,aj (Ne.symm n1),aj Aa,aj (Ne.symm n1),Z2j]at wQ;cases wQ
  refine⟨_,rfl,sr,CS,dx,_,rfl,by rw [aj n3,Z2j],T.cl,T.nf,(by show 4<1000;decide),?_⟩
  intro tn lP;have n4:sr≠tn:=a9 Z2j lP;have F2:cf≠tn:=fun z=>by rw [<-z,aj (Ne.symm n3),Z2j]at lP;cases lP
  have F3:cb≠tn:=fun z=>by rw [<-z,aj (Ne.symm n2),aj Db,aj (Ne.symm n2),Z2j]at lP;cases lP
  have F4:db≠tn:=fun z=>by rw [<-z,aj (Ne.symm n1),aj oH,aj (Ne.symm n1),aj Aa,aj (Ne.symm n1),Z2j]at lP;cases lP
  refine⟨_,rfl,sr,CS,dx,_,rfl,by rw [aj n4,Z2j],T.cl,T.nt,(by show 5<1000;decide),?_⟩
  refine⟨fj _,fun wq on=>?_⟩;have n5:sr≠wq:=a9 Z2j on;have Lm:tn≠wq:=fun z=>by rw [<-z,aj (Ne.symm n4),Z2j]at on;cases on
  have Ln:cf≠wq:=fun z=>by rw [<-z,aj (Ne.symm n3),aj F2,aj (Ne.symm n3),Z2j]at on;cases on
  have Lo:cb≠wq:=fun z=>by rw [<-z,aj (Ne.symm n2),aj F3,aj (Ne.symm n2),aj Db,aj (Ne.symm n2),Z2j]at on;cases on
  have Lp:db≠wq:=fun z=>by rw [<-z,aj (Ne.symm n1),aj F4,aj (Ne.symm n1),aj oH,aj (Ne.symm n1),aj Aa,aj (Ne.symm n1),Z2j]at on;cases on
  refine⟨_,rfl,sr,CS,dx,_,rfl,by rw [aj n5,Z2j],T.cl,T.nq,(by show 6<1000;decide),?_⟩
  have free:∀ {b:Addr}{o:HO}{H1:Hp},(L2.upd H1 sr o) b=none->b≠sr/\H1 b=none:=fun{b o H1} h=>by
   have e:b≠sr:=fun z=>by rw [z,Z2j]at h;cases h
   exact⟨e,by rw [aj e]at h;exact h⟩
  refine k _ ⟨sr,dx,wl,db,cb,cf,tn,wq⟩ rfl rfl rfl ?_ ?_ ?_ ?_ ?_ ?_ ?_ ?_ ?_
  ·rw [Z2j];rfl
  ·rw [aj (Ne.symm n1),aj Lp,aj (Ne.symm n1),aj F4,aj (Ne.symm n1),aj oH,aj (Ne.symm n1),aj Aa,aj (Ne.symm n1),Z2j];rfl
  ·rw [aj (Ne.symm n2),aj Lo,aj (Ne.symm n2),aj F3,aj (Ne.symm n2),aj Db,aj (Ne.symm n2),Z2j]
  ·rw [aj (Ne.symm n3),aj Ln,aj (Ne.symm n3),aj F2,aj (Ne.symm n3),Z2j]
  ·rw [aj (Ne.symm n4),aj Lm,aj (Ne.symm n4),Z2j]
  ·rw [aj (Ne.symm n5),Z2j]
  ·simp only [lz,bv,ij,or_false,b8];exact⟨⟨Aa,oH,F4,Lp⟩,⟨Db,F3,Lo⟩,⟨F2,Ln⟩,Lm,not_false,uI⟩
  ·intro b hb;simp only [bv,ij,or_false]at hb;rcases hb with rfl |rfl |rfl |rfl |rfl
   ·exact(free gy).2
   ·have:=(free B0).2;rw [aj (Ne.symm Aa)]at this;exact(free this).2
   ·have:=(free wQ).2;rw [aj (Ne.symm Db)]at this;have:=(free this).2;rw [aj (Ne.symm oH)]at this;exact(free this).2
   ·have:=(free lP).2;rw [aj (Ne.symm F2)]at this;have:=(free this).2;rw [aj (Ne.symm F3)]at this;have:=(free this).2;rw [aj (Ne.symm F4)]at this;exact(free this).2
   ·have:=(free on).2;rw [aj (Ne.symm Lm)]at this;have:=(free this).2;rw [aj (Ne.symm Ln)]at this;have:=(free this).2;rw [aj (Ne.symm Lo)]at this;have:=(free this).2;rw [aj (Ne.symm Lp)]at this;exact(free this).2
  ·exact(((((((((((Only.refl sr H).trans (Only.upd _)).new gy).trans (Only.upd _)).new B0).trans (Only.upd _)).new wQ).trans (Only.upd _)).new lP).trans (Only.upd _)).new on).trans (Only.upd _)
end
def DK(c:Nat)(T:Int):MX.S where
 re:=fun _=>False
 root:=fun x=>x
 rk:=fun _=>1
 nx:=0
 cb:=fun _=>c
 cf:=fun _=>none
 ar:=fun _=>T
 tn:=fun _ _=>False
 dn:=fun _ _ _=>False
section
variable{P:Program}{w:World}{K:aq}{mg:Str->Option Value}{base:Heap}{CS CW CB:Addr}
def D7(CW CB:Addr):Sp:=fun vs H Q _=>∃ (wl bl:Addr)(c:Nat)(T:Int)(G:MX.Gr)(ls:List Addr)(ws:Nat->List Addr)(E:Nat->List (Nat×Nat))(bs:List Addr)(sd:Nat->Int),vs=[.ref wl,.ref bl,.int (c:Int),.int T]/\Wys0 CW G H wl ls ws E/\Bds CB G H bl bs sd /\
 G.Ok/\G.n<=128/\c<G.m/\(G.bd c).o=2/\(T=1\/T=-1)/\∀ (b:Bool) H',L2.Same H H'->(b=true↔∃ δ,G.Chg δ/\δ c=T)->Q (.bl b) H'
theorem DU:cU ["ways","bonds","number","turn","search"] ["ways","bonds","number","turn"] (bj IJ):=⟨rfl,rfl,rfl,by decide +kernel,rfl,by decide +kernel,by decide +kernel⟩
theorem LD{f fI fR fB:Addr}{fd js BD iG:FuncData}(F:Fun K "can_go" "can_go" IJ f fd)(T:jW K mg CS)(B:uD K CB)(M:Mk K CS fI)(hC:mg "Search" = some (.ref CS))
  (GI:am P w K mg base CX0 1 fI js ["self","ways","cut"] (Eb CS))(bI:Binds K js ["self","ways","cut"] [])
  (GR:am P w K mg base CX0 2 fR BD ["self","atom","before","bond","turn"] (IS CS))(mR:aQ K CS "reach" fR)(bR:Binds K BD ["self","atom","before","bond","turn"] [])
  (GB:am P w K mg base CX0 6 fB iG ["self"] (pX CS CW))(mB:aQ K CS "comes_back" fB)(bB:Binds K iG ["self"] []) :
  am P w K mg base CX0 7 f fd ["ways","bonds","number","turn"] (D7 CW CB):=by
 refine F.ok DU (fun vs H Q E h=>?_) (fun bp A' outer s' H vs Q E' hr h=>?_)
 ·obtain⟨wl,bl,c,T',G,ls,ws,E,bs,sd,rfl,_⟩:=h;rfl
 ·obtain⟨wl,bl,c,T',G,ls,ws,E,bs,sd,rfl,Y,D,hG,hn,hc,ho,hT,k⟩:=h;have eg:Room 2 _:=hr.mono (by decide)
  refine⟨_,aN (di (i:=4) DU.nd rfl (Or.inl rfl) (rq M GI eg rfl hC bI .nil aC (ao (pv 0) (ao (pv 2) aD))))
   (aN (gR (ej (pv 4) T.cl mR GR eg bR .nil aC (ao (bq (dk qy (pv 1) (pv 2) (fun _ _=>rfl)) rfl) (ao (ay rfl T.md) (ao (pv 2) (ao (lg FD (pv 3)) aD))))))
   (aN (gR (ej (pv 4) T.cl mR GR eg bR .nil aC (ao (bq (dk qy (pv 1) (pv 2) (fun _ _=>rfl)) rfl) (ao (ay rfl T.md) (ao (pv 2) (ao (lg FD (pv 3)) aD))))))
   (bg (dJ (Jc (pv 4) T.cl mB GB hr bB .nil aC))))),?_⟩
  refine⟨_,rfl,_,rfl,fun x dx nx nd ndx=>⟨x,dx,wl,c,rfl,Z2j,fun H1 A e1 e2 e3 g1 g2 g3 g4 g5 g6 nod new o1=>⟨rfl,?_⟩⟩⟩;subst e1 e2 e3;have Dd:∀ b∈A.mut,H b=none:=fun b hb=>by
   have:=new b hb;cases q:H b with
   |none=>rfl
   |some o =>
    rw [aj (a9 q nx),aj (a9 q nd),q]at this;cases this
  have s1:L2.Same H H1:=fun b o e=>o1 b o (by rw [aj (a9 e nx),aj (a9 e nd)];exact e) (a9 e nx)
  have R1:Rep CS G.n H1 A c (DK c T') [] 0 1:=by
   refine⟨g1,⟨_,g2,⟨rfl,fun x h=>h.elim,fun x _=>?_⟩,bK _⟩,⟨_,g3,fun x h=>h.elim,fj _⟩,⟨_,g4,fun x h=>h.elim,fj _⟩,⟨_,g5,fun x t=>⟨fun z=>?_,fun z=>z.elim⟩,bK _⟩,⟨[],g6,rfl,fun j t m a b=>?_⟩,bK _,?_,by decide,hn,nod⟩
   ·unfold aJ;rw [List.find?_cons_of_neg (by simp only [decide_eq_true_eq];rw [jN];omega)];rfl
   ·cases z
   ·cases a
   ·unfold MX.miss;have a1:=MX.cnt_le G.n (fun x=>¬ (DK c T').tn x 1);have a2:=MX.cnt_le G.n (fun x=>¬ (DK c T').tn x (-1));omega
  have sF:∀ {H'},Frm A H1 H'->L2.Same H H':=fun fr b o e=>fr b o (s1 b o e) fun hb=>by rw [Dd b hb]at e;cases e
  have lc:c<bs.length:=by rw [D.len];exact hc
  have bc:bs[c]?=some bs[c]:=du lc;have Qg:(bs.map V.ref)[c]?=some (.ref bs[c]):=by rw [dP,bc];rfl
  have D1:=D.same s1;obtain⟨db1,BV⟩:=D1.bond c _ bc;refine⟨_,rfl,A.sr,A.dx,_,rfl,R1.obj,jj,_,rfl,_,rfl,bl,_,_,_,rfl,rfl,SqL.of D1.top,qz Qg,bs[c],CB,db1,_,_,rfl,BV,B.cl,B.na,lK _ _ _ _,_,rfl,_,rfl,_,rfl,
   A,G.n,c,0,1,DK c T',[],(G.bd c).a,c,-1,-T',none,rfl,R1,by decide,hG.an c hc,id,fun x v h=>h.elim,fun x h=>h.elim,by omega,rfl,fun H2 q2 N2 f2 R2 hN2 e2=>?_⟩
  subst hN2;have D2:=D.same (sF f2);obtain⟨db2,jR⟩:=D2.bond c _ bc;refine⟨_,rfl,A.sr,A.dx,_,rfl,R2.obj,jj,_,rfl,_,rfl,bl,_,_,_,rfl,rfl,SqL.of D2.top,qz Qg,bs[c],CB,db2,_,_,rfl,jR,B.cl,B.nb,lL _ _ _ _,_,rfl,_,rfl,_,rfl,
   A,G.n,c,_,_,_,q2,(G.bd c).b,c,-1,-T',none,rfl,R2,by decide,hG.bn c hc,?n1,?n2,?n3,by omega,rfl,fun H3 q3 N3 f3 R3 hN3 e3=>?_⟩
  case n1=>exact fun h=>Or.elim h id fun z=>hG.ne c hc z.symm
  case n2=>exact fun x v h=>.inr (Or.elim h False.elim fun z=>z.1)
  case n3 =>
   intro x h;right;show(if x=(G.bd c).a then(G.bd c).a else x)=(G.bd c).a;rcases h with h |h
   ·exact h.elim
   ·rw [ae h]
  subst hN3;have BJ:=f2.trans f3;have zM:=hG.ne c hc;have R4:Rep CS G.n H3 A c (MX.S.start G c T') q3 2 3:=by
   refine R3.congr ?_ ?_ ?_ ?_ ?_ ?_
   ·funext z
    exact propext ⟨fun h=>h.elim (fun h=>.inl (.inr h)) .inr,fun h=>h.elim (fun h=>h.elim False.elim .inl) .inr⟩
   ·funext z
    show z=if z=(G.bd c).b then(G.bd c).b else if z=(G.bd c).a then(G.bd c).a else z;split
    ·assumption
    ·split
     ·assumption
     ·rfl
   ·funext z
    show(if z=(G.bd c).a then 0 else 1)=if z=(G.bd c).b then 1 else if z=(G.bd c).a then 0 else 1;by_cases h:z=(G.bd c).b
    ·rw [ae h,ac (by rw [h];exact Ne.symm zM)]
    ·rw [ac h]
   ·funext z
    show c=if z=(G.bd c).b then c else if z=(G.bd c).a then c else c;simp
   ·funext z
    show none=if z=(G.bd c).b then none else if z=(G.bd c).a then none else none;simp
   ·funext z u
    show((z=(G.bd c).a\/z=(G.bd c).b)/\u=-T')=((False\/(z=(G.bd c).a/\u=-T'))\/(z=(G.bd c).b/\u=-T'));refine propext ⟨fun⟨h1,h2⟩=>h1.elim (fun h=>.inl (.inr ⟨h,h2⟩)) fun h=>.inr ⟨h,h2⟩,fun h=>?_⟩;rcases h with(h |⟨h1,h2⟩) |⟨h1,h2⟩
    ·exact h.elim
    ·exact⟨.inl h1,h2⟩
    ·exact⟨.inr h1,h2⟩
  have ex:Ext (DK c T') [] (MX.S.start G c T') q3:=(e2.trans e3).tn (by
    funext z u
    show((z=(G.bd c).a\/z=(G.bd c).b)/\u=-T')=((False\/(z=(G.bd c).a/\u=-T'))\/(z=(G.bd c).b/\u=-T'));refine propext ⟨fun⟨h1,h2⟩=>h1.elim (fun h=>.inl (.inr ⟨h,h2⟩)) fun h=>.inr ⟨h,h2⟩,fun h=>?_⟩;rcases h with(h |⟨h1,h2⟩) |⟨h1,h2⟩
    ·exact h.elim
    ·exact⟨.inl h1,h2⟩
    ·exact⟨.inr h1,h2⟩)
  obtain⟨r,qK,QY,QT,wS⟩:=ex;have KO:q3=r:=by rw [qK];rfl
  subst KO;have GZ:Wt G c (MX.S.start G c T') q3:=⟨wS,fun p hp=>⟨(QY _ _).mpr (.inr hp),fun e h=>h.elim⟩,fun x t h=>.inl ((QY x t).mp h |>.elim False.elim id)⟩;have S4:qS G G.n c T' (MX.S.start G c T') 2 3:=⟨MX.start_ok hG hc hT,hG,rfl,hc,ho,hT,by decide,by show 2<=2;decide⟩
  refine⟨_,rfl,A.sr,A.dx,_,rfl,R4.obj,jj,A,G.n,c,2,3,_,q3,G,T',ls,ws,E,rfl,R4,S4,Y.wys Dd (sF BJ),GZ,fun b H4 f4 hb=>?_⟩;exact k b H4 (sF (BJ.trans f4)) hb
def vE(CW CB:Addr):Sp:=fun vs H Q _=>∃ (wl bl:Addr)(c:Nat)(G:MX.Gr)(ls:List Addr)(ws:Nat->List Addr)(E:Nat->List (Nat×Nat))(bs:List Addr)(sd:Nat->Int),vs=[.ref wl,.ref bl,.int (c:Int)]/\Wys0 CW G H wl ls ws E/\Bds CB G H bl bs sd /\
 G.Ok/\G.n<=128/\c<G.m/\(G.bd c).o=2/\∀ (b:Bool) H',L2.Same H H'->(b=true↔∀ δ,G.Chg δ->δ c=0)->Q (.bl b) H'
theorem DT:cU ["ways","bonds","number"] ["ways","bonds","number"] (bj Hf):=⟨rfl,rfl,rfl,by decide +kernel,rfl,by decide +kernel,by decide +kernel⟩
theorem Dq{f fG:Addr}{fd kJ:FuncData}(F:Fun K "is_fixed_double" "is_fixed_double" Hf f fd)(T:jW K mg CS)
  (GG:am P w K mg base CX0 7 fG kJ ["ways","bonds","number","turn"] (D7 CW CB))(mG:mg "can_go" = some (.ref fG))(kG:PySem.W.keepIn K (.ref fG)=true)(bG:Binds K kJ ["ways","bonds","number","turn"] []) :
  am P w K mg base CX0 8 f fd ["ways","bonds","number"] (vE CW CB):=by
 refine F.ok DT (fun vs H Q E h=>?_) (fun bp A' outer s' H vs Q E' hr h=>?_)
 ·obtain⟨wl,bl,c,G,ls,ws,E,bs,sd,rfl,_⟩:=h;rfl
 ·obtain⟨wl,bl,c,G,ls,ws,E,bs,sd,rfl,Y,D,hG,hn,hc,ho,k⟩:=h;refine⟨_,bg (dJ (Bl (oZ (fO GG hr rfl mG kG bG .nil aC (ao (pv 0) (ao (pv 1) (ao (pv 2) (ao (ay rfl T.up) aD)))))) (FE (oZ (fO GG hr rfl mG kG bG .nil aC (ao (pv 0) (ao (pv 1) (ao (pv 2) (ao (ay rfl T.dn) aD))))))))),?_⟩;have key:(∀ δ,G.Chg δ->δ c=0)↔¬ (∃ δ,G.Chg δ/\δ c=1)/\¬ (∃ δ,G.Chg δ/\δ c=-1):=by
   refine⟨fun h=>⟨fun⟨δ,a,b⟩=>?_,fun⟨δ,a,b⟩=>?_⟩,fun⟨h1,h2⟩ δ hδ=>?_⟩
   ·rw [h δ a]at b;cases b
   ·rw [h δ a]at b;cases b
   ·have u:=hδ.up c hc;have d:=hδ.dn c hc;have n1:δ c≠1:=fun z=>h1 ⟨δ,hδ,z⟩;have n2:δ c≠-1:=fun z=>h2 ⟨δ,hδ,z⟩;omega
  refine⟨_,rfl,_,rfl,_,rfl,wl,bl,c,1,G,ls,ws,E,bs,sd,rfl,Y,D,hG,hn,hc,ho,.inl rfl,fun b H1 s1 hb=>⟨_,rfl,_,rfl,bt (fun h=>?_) (fun h=>?_)⟩⟩
  ·refine⟨_,rfl,_,rfl,_,rfl,wl,bl,c,-1,G,ls,ws,E,bs,sd,rfl,Y.same s1,D.same s1,hG,hn,hc,ho,.inr rfl,fun b2 H2 s2 jR=>⟨_,rfl,k _ H2 (fun a o e=>s2 a o (s1 a o e)) ?_⟩⟩;rw [key,<-hb,<-jR];cases b with
   |true=>cases h
   |false=>cases b2<;>simp
  ·refine k false H1 s1 ?_;rw [key,<-hb];cases b with
   |true=>simp
   |false=>exact absurd rfl h
end
end BK
end
section
namespace MX
def Gr.at_(G:Gr):Nat->Nat->List (Nat×Nat)
 |0,_=>[]
 |i+1,x=>(G.at_ i x++if x=(G.bd i).a then[(i,(G.bd i).b)]else[])++if x=(G.bd i).b then[(i,(G.bd i).a)]else[]
theorem Gr.mem_at(G:Gr)(x e y:Nat):∀ i,(e,y)∈G.at_ i x↔e<i/\Jn (G.bd e) x y
 |0=>by unfold Gr.at_;simp
 |i+1=>by
  unfold Gr.at_ Jn;rw [dy,dy,G.mem_at x e y i];have h1:(e,y)∈(if x=(G.bd i).a then[(i,(G.bd i).b)]else[])↔x=(G.bd i).a/\e=i/\y=(G.bd i).b:=by
   split<;>simp_all
  have h2:(e,y)∈(if x=(G.bd i).b then[(i,(G.bd i).a)]else[])↔x=(G.bd i).b/\e=i/\y=(G.bd i).a:=by
   split<;>simp_all
  rw [h1,h2];unfold Jn;constructor
  ·rintro((⟨h,k⟩ |⟨a,rfl,c⟩) |⟨a,rfl,c⟩)
   ·exact⟨by omega,k⟩
   ·exact⟨by omega,.inl ⟨a.symm,c.symm⟩⟩
   ·exact⟨by omega,.inr ⟨a.symm,c.symm⟩⟩
  ·rintro⟨h,k⟩;by_cases z:e<i
   ·exact .inl (.inl ⟨z,k⟩)
   ·have:e=i:=by omega
    subst this;rcases k with⟨a,c⟩ |⟨a,c⟩
    ·exact .inl (.inr ⟨a.symm,rfl,c.symm⟩)
    ·exact .inr ⟨a.symm,rfl,c.symm⟩
theorem Gr.at_nd(G:Gr)(x:Nat):∀ i,(∀ e,e<i->(G.bd e).a≠(G.bd e).b)->((G.at_ i x).map (·.1)).Nodup
 |0,_=>by unfold Gr.at_;simp
 |i+1,h=>by
  have ih:=G.at_nd x i fun e he=>h e (by omega)
  have hi:=h i (by omega)
  have lt:∀ e∈(G.at_ i x).map (·.1),e<i:=fun e he=>by
   obtain⟨⟨e',y'⟩,hp,rfl⟩:=i3.mp he;exact((G.mem_at x e' y' i).mp hp).1
  unfold Gr.at_;have fin:∀ y:Nat,((G.at_ i x++[(i,y)]).map (·.1)).Nodup:=fun y=>by
   rw [fL];refine qZ.mpr ⟨ih,by simp,fun a ha b hb z=>?_⟩
   have:=lt a ha;simp at hb;omega
  by_cases q1:x=(G.bd i).a
  ·have q2:x≠(G.bd i).b:=fun z=>hi (by rw [<-q1,<-z])
   rw [ae q1,ac q2,jY];exact fin _
  ·rw [ac q1,jY];by_cases q2:x=(G.bd i).b
   ·rw [ae q2];exact fin _
   ·rw [ac q2,jY];exact ih
theorem Gr.at_len(G:Gr)(x:Nat):∀ i,(G.at_ i x).length<=2*i
 |0=>by unfold Gr.at_;simp
 |i+1=>by
  have:=G.at_len x i;unfold Gr.at_;rw [gC,gC];split<;>split<;>simp<;>omega
end MX
namespace BK
open PySem PySem.Spec PyProof.Rows L2 EX RD LM
structure Rws(CW:Addr)(G:MX.Gr)(H:Hp)(wl:Addr)(ls:List Addr)(ws:Nat->List Addr)(E:Nat->List (Nat×Nat)):Prop where
 top:H wl=some (.lst (ls.map V.ref))
 nd:ls.Nodup
 tn:wl∉ls
 row:∀ (x:Nat) l,ls[x]?=some l->H l=some (.lst ((ws x).map V.ref))
 wln:∀ x,(ws x).length=(E x).length
 way:∀ (x j:Nat) r p,(ws x)[j]?=some r->(E x)[j]?=some p->WayAt CW H r p.1 p.2 (G.bd p.1).o
theorem WayAt.same{CW:Addr}{H H':Hp}{r:Addr}{e y:Nat}{o:Int}(h:WayAt CW H r e y o)(s:L2.Same H H'):WayAt CW H' r e y o :=
 let ⟨dx,d,ah,a,b,c⟩:=h;⟨dx,d,ah,s _ _ a,s _ _ b,c⟩
theorem WayAt.upd{CW:Addr}{H:Hp}{r l:Addr}{e y:Nat}{o:Int}{xs ys:List V}(h:WayAt CW H r e y o)(hl:H l=some (.lst xs)):WayAt CW (L2.upd H l (.lst ys)) r e y o :=
 let ⟨dx,d,ah,a,b,c⟩:=h;⟨dx,d,ah,by rw [aj (az a hl (by intro z;cases z))];exact a,by rw [aj (az b hl (by intro z;cases z))];exact b,c⟩
theorem Rws.same{CW:Addr}{G:MX.Gr}{H H':Hp}{wl:Addr}{ls:List Addr}{ws:Nat->List Addr}{E:Nat->List (Nat×Nat)}(h:Rws CW G H wl ls ws E)(s:L2.Same H H'):Rws CW G H' wl ls ws E :=
 ⟨s _ _ h.top,h.nd,h.tn,fun x l e=>s _ _ (h.row x l e),h.wln,fun x j r p e1 e2=>(h.way x j r p e1 e2).same s⟩
theorem Rws.app{CW:Addr}{G:MX.Gr}{H:Hp}{wl l r:Addr}{ls:List Addr}{ws:Nat->List Addr}{E:Nat->List (Nat×Nat)}{x e y:Nat}(h:Rws CW G H wl ls ws E)(hl:ls[x]?=some l)(hw:WayAt CW H r e y (G.bd e).o) :
  Rws CW G (upd H l (.lst ((ws x).map V.ref++[.ref r]))) wl ls (fun z=>if z=x then ws x++[r]else ws z) (fun z=>if z=x then E x++[(e,y)]else E z):=by
 have Kv:=h.row x l hl;refine⟨?_,h.nd,h.tn,fun z l' e'=>?_,fun z=>?_,fun z j r' p e1 e2=>?_⟩
 ·rw [aj (fun z=>h.tn (by rw [z];exact gK hl))];exact h.top
 ·by_cases q:z=x
  ·subst q;rw [hl]at e';cases e';rw [Z2j,ae rfl,fL];rfl
  ·rw [ac q,aj]
   ·exact h.row z l' e'
   ·rintro rfl;exact q ((List.getElem?_inj (ee.mp e').1 h.nd).mp (e'.trans hl.symm))
 ·split
  ·rw [gC,gC,h.wln x];rfl
  ·exact h.wln z
 ·by_cases q:z=x
  ·subst q;rw [ae rfl]at e1 e2;have ll:=h.wln z;by_cases lt:j<(ws z).length
   ·rw [mI lt]at e1;rw [mI (by omega)]at e2
    exact(h.way z j r' p e1 e2).upd Kv
   ·have l1:=(ee.mp e1).1;rw [gC,E3]at l1;have:j=(ws z).length:=by omega
    subst this;rw [uH (bK _),uK]at e1;rw [ll,uH (bK _),uK]at e2;cases e1;cases e2;exact hw.upd Kv
  ·rw [ac q]at e1 e2;exact(h.way z j r' p e1 e2).upd Kv
noncomputable def I0(b:List Stmt):Scope:=match b.findSome? (fun x=>match x with |.Assign _ (.ListComp _ _ sc _) _=>some sc |_=>none)with
 |some sc=>sc
 |none=>{ kind:=.function,names:=[],isGenerator:=false,isCoroutine:=false }
section
variable{P:Program}{w:World}{K:aq}{mg:Str->Option Value}{base:Heap}{CS CW CB:Addr}
def Ed(CW:Addr):Sp:=fun vs H Q _=>∃ (r dx:Addr)(e y o:Int),vs=[.ref r,.int e,.int y,.int o]/\H r=some (.ins CW dx []) /\
 ∀ (H':Hp)(d:Addr)(ah:List (Key×V)),H' r=some (.ins CW dx (wf e y d))->H' d=some (.dK ah)->aJ ah (.inl 1)=some (.int (3-o))->aJ ah (.inl (-1))=some (.int (o-1))->Only r H H'->Q .non H'
theorem Me:cU ["self","bond","other","order"] ["self","bond","other","order"] (bj Ii):=⟨rfl,rfl,rfl,by decide +kernel,rfl,by decide +kernel,by decide +kernel⟩
theorem LJ{f:Addr}{fd:FuncData}(F:Fun K "__init__" "Way.__init__" Ii f fd)(T:jW K mg CS)(W:TW K CW):am P w K mg base CX0 1 f fd ["self","bond","other","order"] (Ed CW):=by
 refine F.ok Me (fun vs H Q E h=>?_) (fun bp A' outer s' H vs Q E hr h=>?_)
 ·obtain⟨r,dx,e,y,o,rfl,_⟩:=h;rfl
 ·obtain⟨r,dx,e,y,o,rfl,ho,k⟩:=h;refine⟨_,aN (gr (pv 0) (pv 1) rfl) (aN (gr (pv 0) (pv 2) rfl)
   (bg (gr (pv 0) (IQ (A3 (ay rfl T.up) (aZ uN bx (pv 3)) (A3 (ay rfl T.dn) (aZ uN (pv 3) bx) IV)) rfl rfl (by decide) (by decide)) rfl))),?_⟩
  refine⟨_,rfl,_,rfl,r,CW,dx,[],rfl,ho,W.cl,W.nb,(by show 0<1000;decide),?_⟩
  refine⟨_,rfl,_,rfl,r,CW,dx,_,rfl,Z2j,W.cl,W.no,(by show 1<1000;decide),?_⟩
  rw [j0];intro d hd;refine⟨_,rfl,_,_,rfl,rfl,_,rfl,_,_,rfl,rfl,Z2j,[(.inl 1,.int (3-o)),(.inl (-1),.int (o-1))],rfl,(by show 2<=15;decide),?_⟩
  rw [j0];have n1:r≠d:=a9 Z2j hd;refine⟨_,rfl,r,CW,dx,_,rfl,by rw [aj n1,Z2j],W.cl,W.nr,(by show 2<1000;decide),?_⟩
  refine k _ d [(.inl 1,.int (3-o)),(.inl (-1),.int (o-1))] (by rw [Z2j];rfl) (by rw [aj (Ne.symm n1),Z2j];rfl) rfl rfl ?_
  exact(((Only.refl r H).trans (Only.upd _)).new hd).trans (Only.upd _)
def qh(CW CB:Addr):Sp:=fun vs H Q _=>∃ (bl:Addr)(G:MX.Gr)(bs:List Addr)(sd:Nat->Int),vs=[.int (G.n:Int),.ref bl]/\Bds CB G H bl bs sd/\G.Ok/\G.n<=128/\G.m<=192 /\
 ∀ H' wl ls ws E,L2.Same H H'->Wys0 CW G H' wl ls ws E->Q (.ref wl) H'
theorem ib:cU ["count","bonds","ways","number","bond","atom"] ["count","bonds"] (bj A4):=⟨rfl,rfl,rfl,by decide +kernel,rfl,by decide +kernel,by decide +kernel⟩
theorem rN:cX ["count","bonds","ways","number","bond","atom"] (bj A4) (I0 (eP A4)) [("atom",5)]:=⟨rfl,by decide +kernel,by decide +kernel,by decide +kernel,by decide +kernel⟩
theorem yd{f fI:Addr}{fd js:FuncData}(F:Fun K "ways_at" "ways_at" A4 f fd)(B:uD K CB)(M:Mk K CW fI)(hC:mg "Way" = some (.ref CW))(mr:mg "range" = none)(me:mg "enumerate" = none)
  (GI:am P w K mg base CX0 1 fI js ["self","bond","other","order"] (Ed CW))(bI:Binds K js ["self","bond","other","order"] []):am P w K mg base CX0 3 f fd ["count","bonds"] (qh CW CB):=by
 refine F.ok ib (fun vs H Q E h=>?_) (fun bp A' outer s' H vs Q E' hr h=>?_)
 ·obtain⟨bl,G,bs,sd,rfl,_⟩:=h;rfl
 ·obtain⟨bl,G,bs,sd,rfl,D,hG,hn,hm,k⟩:=h;refine⟨_,aN (Pa (i:=2) rfl ib.nd rfl rfl (Bb rfl rfl rfl rfl) (AY rfl mr (ao (pv 0) aD)) rN (fun s H C cl fp=>eT (i:=5) ib.nd rfl (Or.inl rfl)) (fun s H C cl fp=>mQ) (fun s H C cl fp=>mL aD))
   (aN (lH PassesOwn.never rfl (Fy rfl me (ao (pv 1) aD)) (zA rfl (kr (eT (i:=3) ib.nd rfl (Or.inl rfl)) (kr (eT (i:=4) ib.nd rfl (Or.inl rfl)) wc)))
     (aN (gR (lf AG E9 Fa Ft (dk qy (pv 2) (bq (pv 4) rfl) (fun _ _=>rfl)) (ao (rq M GI hr rfl hC bI .nil aC (ao (pv 3) (ao (bq (pv 4) rfl) (ao (bq (pv 4) rfl) aD)))) aD)))
     (bg (gR (lf AG E9 Fa Ft (dk qy (pv 2) (bq (pv 4) rfl) (fun _ _=>rfl)) (ao (rq M GI hr rfl hC bI .nil aC (ao (pv 3) (ao (bq (pv 4) rfl) (ao (bq (pv 4) rfl) aD)))) aD))))))
   (bg (dJ (pv 2)))),?_⟩
  refine⟨_,rfl,(G.n:Int),rfl,by omega,by omega,fun wl vb=>Fg (lo:=0) (n:=(G.n:Int).toNat) (fun i H2=>∃ ls:List Addr,ls.length=i/\ls.Nodup/\wl∉ls/\(∀ l∈ls,H l=none)/\L2.Same H H2/\H2 wl=some (.lst (ls.map V.ref))/\∀ x l,ls[x]?=some l->H2 l=some (.lst []))
   ⟨[],rfl,uI,by simp,fun l hl=>absurd hl (by simp),RD.Same.new vb,Z2j,fun x l (e:([]:List Addr)[x]?=some l)=>absurd e (by rw [List.getElem?_nil];intro z;cases z)⟩ ?_ ?_⟩
  ·rintro i H2 hi ⟨ls,e1,nd,nw,nh,s2,h2,eg⟩;refine⟨rfl,fj _,fun l hl=>?_⟩;have nl:∀ {b:Addr}{o:HO},H2 b=some o->b≠l:=fun e=>a9 e hl;refine⟨_,by rw [aj (nl h2)];exact h2,by rw [aT,ak];omega,ls++[l],by simp [e1],?_,?_,?_,?_,?_,?_⟩
   ·refine qZ.mpr ⟨nd,by simp,fun a ha b hb z=>?_⟩
    obtain⟨x,hx⟩:=List.getElem?_of_mem ha;have:=nl (eg x a hx);simp at hb;exact this (z.trans hb)
   ·rw [dy,b8];exact⟨nw,by simpa using nl h2⟩
   ·intro b hb;rcases dy.mp hb with hb |hb
    ·exact nh b hb
    ·rw [dq.mp hb];exact s2.free hl
   ·intro b o e;rw [aj (fun z=>by rw [z,vb]at e;cases e),aj (nl (s2 _ _ e))]
    exact s2 _ _ e
   ·rw [Z2j,fL];rfl
   ·intro x l' e;have hlw:l'≠wl:=by
     rintro rfl;have:=gK e;rw [dy]at this;rcases this with h |h
     ·exact nw h
     ·exact nl h2 (dq.mp h)
    rw [aj hlw];by_cases lt:x<ls.length
    ·rw [mI lt]at e;rw [aj (nl (eg x l' e))];exact eg x l' e
    ·have l1:=(ee.mp e).1;rw [gC,E3]at l1;have:x=ls.length:=by omega
     subst this;rw [uH (bK _),uK]at e;cases e;exact Z2j
  ·rintro H2 ⟨ls,e1,nd,nw,nh,s2,h2,eg⟩;have R0:Rws CW G H2 wl ls (fun _=>[]) (G.at_ 0):=⟨h2,nd,nw,fun x l e=>eg x l e,fun x=>rfl,fun x j r p e _=>by simp at e⟩
   have e1:ls.length=G.n:=by omega
   refine⟨_,rfl,bl,_,rfl,SqL.of (s2 _ _ D.top),Fn (K:=K) (a:=bl) (xs:=bs.map V.ref) (fun i σ H'=>∃ (v3 v4 v5:Option V)(ws:Nat->List Addr),σ=[some (.int (G.n:Int)),some (.ref bl),some (.ref wl),v3,v4,v5]/\L2.Same H H'/\Rws CW G H' wl ls ws (G.at_ i))
    ⟨none,none,none,_,rfl,s2,R0⟩ (fun i σ H' _ ⟨_,_,_,_,_,s',_⟩=>SqL.of (s' _ _ D.top)) ?_ ?_⟩
   ·rintro i y σ H3 T hi ⟨v3,v4,v5,ws,rfl,s3,R3⟩ hT;obtain⟨r,xj,rfl⟩:∃ r,bs[i]?=some r/\y=V.ref r:=by
     rw [dP]at hi;cases e:bs[i]? with
     |none=>rw [e]at hi;cases hi
     |some r=>rw [e]at hi;exact⟨r,rfl,(Option.some.inj hi).symm⟩
    have im:i<G.m:=by rw [<-D.len];exact(ee.mp xj).1
    have an:=hG.an i im;have bn:=hG.bn i im;have zM:=hG.ne i im;have s4:L2.Same H (upd H3 T (.tup [.int (i:Int),.ref r])):=s3.trans (RD.Same.new hT);have R4:=R3.same (RD.Same.new (o:=.tup [.int (i:Int),.ref r]) hT);obtain⟨dx,J8⟩:=(D.same s4).bond i r xj;have la:ls[(G.bd i).a]?=some ls[(G.bd i).a]:=du (by omega)
    have lb:ls[(G.bd i).b]?=some ls[(G.bd i).b]:=du (by omega)
    have LW:=R4.row _ _ la;refine⟨T,_,rfl,SqT.of Z2j,rfl,_,_,rfl,_,_,rfl,rfl,?_⟩;refine⟨_,rfl,_,rfl,r,CB,dx,_,_,rfl,J8,B.cl,B.na,lK _ _ _ _,wl,_,_,.ref ls[(G.bd i).a],rfl,rfl,SqL.of R4.top,qz (by rw [dP,la];rfl),.inl ⟨rfl,_,SqL.of LW⟩,
     _,rfl,_,rfl,r,CB,dx,_,_,rfl,J8,B.cl,B.nb,lL _ _ _ _,_,rfl,r,CB,dx,_,_,rfl,J8,B.cl,B.no,Iy _ _ _ _,fun x xd nx nd' ndx=>⟨x,xd,_,_,_,rfl,Z2j,fun H5 d ah g1 g2 g3 g4 o5=>⟨rfl,?_⟩⟩⟩
    have RC:L2.Same (upd H3 T (.tup [.int (i:Int),.ref r])) H5:=fun b o e=>o5 b o (by rw [aj (a9 e nx),aj (a9 e nd')];exact e) (a9 e nx)
    have R5:=R4.same RC;have s5:=s4.trans RC;have DI:=R5.row _ _ la;have len5:=R5.wln (G.bd i).a;have al:=G.at_len (G.bd i).a i;refine⟨_,_,_,rfl,rfl,DI,by rw [aT,ak];omega,?_⟩
    have R6:=R5.app (x:=(G.bd i).a) (e:=i) (y:=(G.bd i).b) la ⟨xd,d,ah,g1,g2,g3,g4⟩;have Rf:∀ {x:Nat},(h:x<ls.length)->H ls[x]=none:=fun h=>nh _ (AH h);have s6:L2.Same H (upd H5 ls[(G.bd i).a] (.lst ((ws (G.bd i).a).map V.ref++[.ref x]))):=fun b o e=>by
     rw [aj (fun z=>by rw [z,Rf (by omega)]at e;cases e)];exact s5 _ _ e
    obtain⟨qD,J9⟩:=(D.same s6).bond i r xj;have LX:=R6.row _ _ lb;refine⟨_,rfl,_,rfl,r,CB,qD,_,_,rfl,J9,B.cl,B.nb,lL _ _ _ _,wl,_,_,.ref ls[(G.bd i).b],rfl,rfl,SqL.of R6.top,qz (by rw [dP,lb];rfl),.inl ⟨rfl,_,SqL.of LX⟩,
     _,rfl,_,rfl,r,CB,qD,_,_,rfl,J9,B.cl,B.na,lK _ _ _ _,_,rfl,r,CB,qD,_,_,rfl,J9,B.cl,B.no,Iy _ _ _ _,fun x2 RL Rl nd2 ndx2=>⟨x2,RL,_,_,_,rfl,Z2j,fun H7 d2 Lh g1' g2' g3' g4' o7=>⟨rfl,?_⟩⟩⟩
    have RE:L2.Same (upd H5 ls[(G.bd i).a] (.lst ((ws (G.bd i).a).map V.ref++[.ref x]))) H7:=fun b o e=>o7 b o (by rw [aj (a9 e Rl),aj (a9 e nd2)];exact e) (a9 e Rl)
    have R7:=R6.same RE;have s7:=s6.trans RE;have DJ:=R7.row _ _ lb;have len7:=R5.wln (G.bd i).b;have bl':=G.at_len (G.bd i).b i;refine⟨_,_,_,rfl,rfl,DJ,by rw [aT,ak,ac (Ne.symm zM)];omega,?_⟩
    have R8:=R7.app (x:=(G.bd i).b) (e:=i) (y:=(G.bd i).a) lb ⟨RL,d2,Lh,g1',g2',g3',g4'⟩;refine⟨_,_,_,_,rfl,fun b o e=>?_,R8.top,R8.nd,R8.tn,R8.row,fun z=>?_,fun z j r' p h1 h2=>?_⟩
    ·rw [aj (fun z=>by rw [z,Rf (by omega)]at e;cases e)];exact s7 _ _ e
    all_goals
     have key:∀ z,G.at_ (i+1) z=(fun z=>if z=(G.bd i).b then(fun z=>if z=(G.bd i).a then G.at_ i (G.bd i).a++[(i,(G.bd i).b)]else G.at_ i z) (G.bd i).b++[(i,(G.bd i).a)]else(fun z=>if z=(G.bd i).a then G.at_ i (G.bd i).a++[(i,(G.bd i).b)]else G.at_ i z) z) z:=fun z=>by
      show(G.at_ i z++if z=(G.bd i).a then[(i,(G.bd i).b)]else[])++(if z=(G.bd i).b then[(i,(G.bd i).a)]else[])=_;by_cases q2:z=(G.bd i).b
      ·subst q2;rw [ac (Ne.symm zM)];simp [Ne.symm zM]
      ·by_cases q1:z=(G.bd i).a
       ·subst q1;simp [zM]
       ·simp [q1,q2]
    ·rw [key z];exact R8.wln z
    ·rw [key z]at h2;exact R8.way z j r' p h1 h2
   ·rintro σ H3 ⟨v3,v4,v5,ws,rfl,s3,R3⟩;have lm:(bs.map V.ref).length=G.m:=by rw [aT,D.len]
    rw [lm]at R3;refine⟨_,rfl,k H3 wl ls ws (G.at_ G.m) s3 ⟨R3.top,e1,R3.row,fun x _=>R3.wln x,fun x j r p _=>R3.way x j r p,fun x e y _=>G.mem_at x e y G.m,fun x _=>G.at_nd x G.m hG.ne⟩⟩
end
end BK
end
section
namespace BK
open PySem PySem.Spec PyProof.Rows L2 EX RD
theorem A2{bs:List Int}:∀ {ms:List Int}{p q:Nat},p<=bs.length->bX bs p ms=.ok q->q<=bs.length
 |[],p,q,h,e=>by
  unfold bX at e;cases e;exact h
 |m::ms,p,q,h,e=>by
  unfold bX at e;split at e
  ·cases e
  ·split at e
   ·cases e
   ·exact A2 (by omega) e
theorem dA{bs:List Int}{p n:Nat}{lo hi v:Int}(e:aW bs p n lo hi=.ok v):p+n<=bs.length/\lo<=v/\v<=hi/\v=fq ((bs.drop p).take n):=by
 unfold aW at e;split at e
 ·cases e
 ·split at e
  ·cases e
  ·rename_i h1 h2;cases e;refine⟨by omega,?_,?_,rfl⟩<;>omega
def eQ(bs:List Int)(p:Nat):Except (Int×Int) Fk.Atom :=
 match aW bs p 1 1 118 with
 |.error e=>.error e
 |.ok x=>match aW bs (p+1) 2 0 500 with
  |.error e=>.error e
  |.ok y=>match aW bs (p+3) 1 0 8 with
   |.error e=>.error e
   |.ok c=>match aW bs (p+4) 1 0 7 with
    |.error e=>.error e
    |.ok h=>match aW bs (p+5) 1 0 2 with
     |.error e=>.error e
     |.ok s=>.ok ⟨x.toNat,y.toNat,c-4,h.toNat,s.toNat⟩
def jn(bs:List Int):Nat->Nat->Except (Int×Int) (List Fk.Atom)
 |0,_=>.ok []
 |k+1,p=>match eQ bs p with
  |.error e=>.error e
  |.ok x=>match jn bs k (p+6)with
   |.error e=>.error e
   |.ok y=>.ok (x::y)
def eR(bs:List Int)(n:Int)(p:Nat)(b:Int×Int):Except (Int×Int) Fk.Bond :=
 match aW bs p 1 0 (n-1)with
 |.error e=>.error e
 |.ok x=>match aW bs (p+1) 1 (x+1) (n-1)with
  |.error e=>.error e
  |.ok y=>if cM [x,y] [b.1,b.2]=true then .error (3,p)else match aW bs (p+2) 1 1 3 with
   |.error e=>.error e
   |.ok o=>match aW bs (p+3) 1 0 2 with
    |.error e=>.error e
    |.ok s=>.ok ⟨x.toNat,y.toNat,o.toNat,s.toNat⟩
def jo(bs:List Int)(n:Int):Nat->Nat->Int×Int->Except (Int×Int) (List Fk.Bond)
 |0,_,_=>.ok []
 |k+1,p,b=>match eR bs n p b with
  |.error e=>.error e
  |.ok x=>match jo bs n k (p+4) (x.a,x.b)with
   |.error e=>.error e
   |.ok y=>.ok (x::y)
def rG(bs:List Int):Except (Int×Int) Fk.Mol :=
 match bX bs 0 [70,75,77,49]with
 |.error e=>.error e
 |.ok p=>match aW bs p 1 0 128 with
  |.error e=>.error e
  |.ok n=>match aW bs (p+1) 1 0 192 with
   |.error e=>.error e
   |.ok m=>match jn bs n.toNat (p+2)with
    |.error e=>.error e
    |.ok as=>match jo bs n m.toNat (p+2+6*n.toNat) (0,0)with
     |.error e=>.error e
     |.ok ds=>if p+2+6*n.toNat+4*m.toNat<bs.length then .error (7,(p+2+6*n.toNat+4*m.toNat:Nat))else .ok ⟨as,ds⟩
def ja(bs:List Int):Except (Int×Int) Fk.Mol :=
 match rG bs with
 |.error e=>.error e
 |.ok M=>match (List.range M.n).find? fun v=>(M.atom v).hand != 0&&!M.handed v with
  |some v=>.error (4,((6+6*v+5:Nat):Int))
  |none=>match (List.range M.bonds.length).find? fun j=>(M.bonds[j]?.map Fk.Bond.side).getD 0 != 0&&!M.sided j with
   |some j=>.error (6,((6+6*M.n+4*j+3:Nat):Int))
   |none=>.ok M
structure GY(x:Fk.Atom):Prop where
 el:1<=x.element/\x.element<=118
 iso:x.isotope<=500
 ch:-4<=x.charge/\x.charge<=4
 hy:x.hydrogens<=7
 hd:x.hand<=2
structure AA(n:Nat)(x:Fk.Bond):Prop where
 ab:x.a<x.b
 bn:x.b<n
 od:1<=x.order/\x.order<=3
 sd:x.side<=2
def Am(x y:Fk.Bond):Prop:=x.a<y.a\/(x.a=y.a/\x.b<y.b)
structure Wf(M:Fk.Mol):Prop where
 n:M.atoms.length<=128
 m:M.bonds.length<=192
 at_:∀ x∈M.atoms,GY x
 bd:∀ x∈M.bonds,AA M.atoms.length x
 rs:M.bonds.Pairwise Am
theorem Pg{bs:List Int}{p:Nat}{x:Fk.Atom}(e:eQ bs p=.ok x):p+6<=bs.length/\GY x:=by
 unfold eQ at e;split at e
 ·cases e
 ·rename_i h1;split at e
  ·cases e
  ·rename_i h2;split at e
   ·cases e
   ·rename_i h3;split at e
    ·cases e
    ·rename_i h4;split at e
     ·cases e
     ·rename_i h5;cases e;have a1:=dA h1;have a2:=dA h2;have a3:=dA h3;have a4:=dA h4;have a5:=dA h5;refine⟨by omega,⟨?_,?_,?_,?_,?_⟩⟩<;>dsimp only<;>omega
theorem ID{bs:List Int}:∀ {k p:Nat}{l:List Fk.Atom},jn bs k p=.ok l->p<=bs.length->l.length=k/\p+6*k<=bs.length/\∀ x∈l,GY x
 |0,p,l,e,hp=>by unfold jn at e;cases e;exact⟨rfl,by omega,fun x hx=>by simp at hx⟩
 |k+1,p,l,e,hp=>by
  unfold jn at e;split at e
  ·cases e
  ·rename_i h1;split at e
   ·cases e
   ·rename_i h2;cases e;have a1:=Pg h1;have a2:=ID h2 (by omega)
    refine⟨by rw [gB,a2.1],by omega,fun x hx=>?_⟩
    rcases bv.mp hx with rfl |hx
    ·exact a1.2
    ·exact a2.2.2 x hx
theorem ZbS(x y a b:Int):cM [x,y] [a,b]=true↔x<a\/(x=a/\y<=b):=by
 rw [HX];split
 ·rename_i h;rw [HX];split
  ·rename_i h2;exact⟨fun _=>.inr ⟨h,by omega⟩,fun _=>rfl⟩
  ·rename_i h2;rw [ag];omega
 ·rename_i h;rw [ag];omega
theorem Pj{bs:List Int}{n:Int}{p:Nat}{b:Int×Int}{x:Fk.Bond}(e:eR bs n p b=.ok x):p+4<=bs.length/\AA n.toNat x/\(b.1<x.a\/(b.1=x.a/\b.2<x.b)):=by
 unfold eR at e;split at e
 ·cases e
 ·rename_i h1;split at e
  ·cases e
  ·rename_i h2;split at e
   ·cases e
   ·rename_i h3;split at e
    ·cases e
    ·rename_i h4;split at e
     ·cases e
     ·rename_i h5;cases e;rw [ZbS]at h3;have a1:=dA h1;have a2:=dA h2;have a4:=dA h4;have a5:=dA h5;refine⟨by omega,⟨?_,?_,?_,?_⟩,?_⟩<;>dsimp only<;>omega
theorem OU{bs:List Int}{n:Int}:∀ {k p:Nat}{b:Int×Int}{l:List Fk.Bond},jo bs n k p b=.ok l->p<=bs.length->l.length=k/\p+4*k<=bs.length/\(∀ x∈l,AA n.toNat x)/\(∀ x∈l,b.1<x.a\/(b.1=x.a/\b.2<x.b))/\l.Pairwise Am
 |0,p,b,l,e,hp=>by unfold jo at e;cases e;exact⟨rfl,by omega,fun x hx=>by simp at hx,fun x hx=>by simp at hx,List.Pairwise.nil⟩
 |k+1,p,b,l,e,hp=>by
  unfold jo at e;split at e
  ·cases e
  ·rename_i h1;split at e
   ·cases e
   ·rename_i h2;cases e;obtain⟨a1,a2,a3⟩:=Pj h1;obtain⟨c1,c2,c3,c4,c5⟩:=OU h2 (by omega)
    refine⟨by rw [gB,c1],by omega,fun x hx=>?_,fun x hx=>?_,List.Pairwise.cons (fun y hy=>?_) c5⟩
    ·rcases bv.mp hx with rfl |hx
     ·exact a2
     ·exact c3 x hx
    ·rcases bv.mp hx with rfl |hx
     ·exact a3
     ·have:=c4 x hx;dsimp only at this;omega
    ·have:=c4 y hy;dsimp only at this;unfold Am;omega
theorem ZbD{bs:List Int}{M:Fk.Mol}(e:rG bs=.ok M):Wf M:=by
 unfold rG at e;split at e
 ·cases e
 ·rename_i h1;split at e
  ·cases e
  ·rename_i h2;split at e
   ·cases e
   ·rename_i h3;split at e
    ·cases e
    ·rename_i h4;split at e
     ·cases e
     ·rename_i h5;split at e
      ·cases e
      ·cases e;have a1:=dA h2;have a2:=dA h3;have a3:=ID h4 (by omega)
       have a4:=OU h5 (by omega)
       refine⟨by dsimp only;omega,by dsimp only;omega,a3.2.2,?_,a4.2.2.2.2⟩
       dsimp only;rw [a3.1];exact a4.2.2.1
structure TR(K:aq)(mg:Str->Option Value)(CF CR fF:Addr):Prop where
 xi:jl K CF fF "rule" "place" "which" 0
 cl:Cls K CR
 nf:NoAttr K CR "form"
 np:NoAttr K CR "place"
 mgF:mg "Fault" = some (.ref CF)
 mgR:mg "Reader" = some (.ref CR)
 len:mg "len" = none
 rev:mg "reversed" = none
 c1:∃ u,mg "WRONG_MARK" = some u/\RelV (.int 1) u
 c2:∃ u,mg "OUT_OF_BOUNDS" = some u/\RelV (.int 2) u
 c5:∃ u,mg "ENDS_EARLY" = some u/\RelV (.int 5) u
 c7:∃ u,mg "LEFT_OVER" = some u/\RelV (.int 7) u
section
variable{P:Program}{w:World}{K:aq}{mg:Str->Option Value}{base:Heap}{CF CR fF:Addr}
def yE(CR:Addr):Sp:=fun vs H Q _=>∃ (r dx a:Addr),vs=[.ref r,.ref a]/\H r=some (.ins CR dx [])/\∀ H':Hp,dW CR H' r a 0->Only r H H'->Q .non H'
theorem Mc:cU ["self","form"] ["self","form"] (bj HI):=⟨rfl,rfl,rfl,by decide +kernel,rfl,by decide +kernel,by decide +kernel⟩
theorem Dv{f:Addr}{fd:FuncData}(F:Fun K "__init__" "Reader.__init__" HI f fd)(T:TR K mg CF CR fF):am P w K mg base CX0 1 f fd ["self","form"] (yE CR):=by
 refine F.ok Mc (fun vs H Q E h=>?_) (fun bp A outer s H vs Q E hr h=>?_)
 ·obtain⟨r,dx,a,rfl,_⟩:=h;rfl
 ·obtain⟨r,dx,a,rfl,hp,k⟩:=h;refine⟨_,aN (gr (pv 0) (pv 1) rfl) (bg (gr (pv 0) bx rfl)),?_⟩;refine⟨_,rfl,_,rfl,r,CR,dx,[],rfl,hp,T.cl,T.nf,(by show 0<1000;decide),?_⟩
  refine⟨_,rfl,r,CR,dx,_,rfl,Z2j,T.cl,T.np,(by show 1<1000;decide),?_⟩
  refine k _ ⟨dx,?_⟩ ?_
  ·rw [Z2j,DH];rfl
  ·exact(Only.upd _).trans (Only.upd _)
def Jr(K:aq)(CF CR:Addr):Sp:=fun vs H Q E=>∃ (r a m:Addr)(p:Nat)(bs ms:List Int),vs=[.ref r,.ref m]/\dW CR H r a p/\SqL K H a (bs.map V.int)/\SqT K H m (ms.map V.int)/\p<=bs.length /\
 match bX bs p ms with
 |.ok q=>∀ H':Hp,dW CR H' r a q->Only r H H'->Q .non H'
 |.error e=>Flt CF E H r e.1 e.2
theorem pQ:cU ["self","mark","byte"] ["self","mark"] (bj Hr):=⟨rfl,rfl,rfl,by decide +kernel,rfl,by decide +kernel,by decide +kernel⟩
theorem oP{f:Addr}{fd:FuncData}(F:Fun K "expect_mark" "Reader.expect_mark" Hr f fd)(T:TR K mg CF CR fF):am P w K mg base (gO P w) 2 f fd ["self","mark"] (Jr K CF CR):=by
 refine kY F pQ (fun vs H Q E h=>?_) (fun bp A outer s H vs Q E hr h=>?_)
 ·obtain⟨r,a,m,p,bs,ms,rfl,_⟩:=h;rfl
 ·obtain⟨r,a,m,p,bs,ms,rfl,hR,hS,hM,hp,k⟩:=h;have gN:=(show A.depth+1+1<recursionLimit from by have:=hr.dp;simp only [Around.deeper]at this;omega)
  refine⟨_,bg (lH Bi rfl (pr (pv 1)) (eT (i:=2) pQ.nd rfl (Or.inl rfl))
   (aN (bZ (gq iQ (bq (pv 0) rfl) (l5 rh (by rfl) T.len PySem.boot_len (ao (bq (pv 0) rfl) aD)) (eS _))
     (bg (uM T.xi rfl rfl gN rfl T.mgF rB (ao (ay rfl T.c5) (ao (bq (pv 0) rfl) aD)))) il)
   (aN (bZ (gq dZ (dk qy (bq (pv 0) rfl) (bq (pv 0) rfl) (fun _ _=>rfl)) (pv 2) (eS _))
     (bg (uM T.xi rfl rfl gN rfl T.mgF rB (ao (ay rfl T.c1) (ao (bq (pv 0) rfl) aD)))) il)
   (bg (Zbg (pv 0) bx xz))))),?_⟩
  have hx:∀ {i:Nat}{y:V},(ms.map V.int)[i]?=some y->∃ z,ms[i]?=some z/\y=V.int z:=fun{i y} hi=>by
   rw [dP]at hi;cases e:ms[i]? with
   |none=>rw [e]at hi;cases hi
   |some z=>rw [e]at hi;exact⟨z,rfl,(Option.some.inj hi).symm⟩
  refine⟨_,rfl,m,rfl,⟨_,hM⟩,PL (K:=K) (a:=m) (xs:=ms.map V.int) (fun i σ H'=>∃ v:Option V,σ=[some (.ref r),some (.ref m),v]/\Only r H H'/\dW CR H' r a (p+i)/\p+i<=bs.length/\bX bs p ms=bX bs (p+i) (ms.drop i))
   ⟨none,rfl,Only.refl _ _,hR,hp,rfl⟩ (fun i σ H' _ ⟨_,_,o,_,_⟩=>let ⟨_,xj⟩:=hR;o.sqT xj hM) ?_ ?_⟩
  ·rintro i y σ H' hi ⟨v,rfl,o,⟨dx,h1⟩,i8,qJ⟩;obtain⟨z,hz,rfl⟩:=hx hi;obtain⟨_,xj⟩:=id hR;have qF:=o.sq xj hS;have hdr:ms.drop i=z::ms.drop (i+1):=by
    have cc:=(ee.mp hz).1;rw [Hc cc,(ee.mp hz).2]
   rw [hdr]at qJ;refine⟨_,rfl,r,CR,dx,_,_,rfl,h1,T.cl,T.np,lZ _ _,_,rfl,r,CR,dx,_,_,rfl,h1,T.cl,T.nf,zr _ _,a,_,rfl,.inl qF,rfl,_,rfl,bt (fun hc=>?_) (fun hc=>?_)⟩
   ·have fQ:p+i=bs.length:=by
     have:=ap hc;simp only [V.int.injEq,aT]at this;omega
    rw [qJ]at k;unfold bX at k;rw [ae fQ]at k;refine⟨_,rfl,r,CR,dx,_,_,rfl,h1,T.cl,T.np,lZ _ _,_,_,_,.inr ⟨rfl,rfl⟩,fun eN hn=>?_⟩;exact k _ eN (o.new hn) Z2j
   ·have fQ:p+i≠bs.length:=fun e=>hc (ai (by simp only [aT];rw [e]))
    have cc:p+i<bs.length:=by omega
    refine⟨_,rfl,r,CR,dx,_,_,rfl,h1,T.cl,T.nf,zr _ _,_,rfl,r,CR,dx,_,_,rfl,h1,T.cl,T.np,lZ _ _,a,_,_,_,rfl,rfl,qF,qz (by rw [dP,du cc];rfl),_,rfl,rfl,_,rfl,bt (fun gM=>?_) (fun gM=>?_)⟩
    ·have bQ:bs[p+i]?≠some z:=fun e=>by
      rw [du cc]at e;rw [Option.some.inj e]at gM;simp at gM
     rw [qJ]at k;unfold bX at k;rw [ac fQ,ae bQ]at k;refine⟨_,rfl,r,CR,dx,_,_,rfl,h1,T.cl,T.np,lZ _ _,_,_,_,.inr ⟨rfl,rfl⟩,fun eN hn=>?_⟩;exact k _ eN (o.new hn) Z2j
    ·have heq:bs[p+i]?=some z:=by
      rw [du cc];simp at gM;rw [gM]
     refine⟨_,rfl,r,CR,dx,_,_,rfl,h1,T.cl,T.np,lZ _ _,_,_,rfl,rfl,dx,_,h1,(by show 2<1000;decide),?_⟩
     refine⟨_,rfl,o.trans (Only.upd _),⟨dx,?_⟩,by omega,?_⟩
     ·rw [Z2j,pH];rfl
     ·rw [qJ]
      conv=>lhs;unfold bX
      rw [ac fQ,ac (by simpa using heq)]
      rfl
  ·rintro σ H' ⟨v,rfl,o,hR',i8,qJ⟩;rw [aT]at hR' qJ i8;rw [List.drop_length]at qJ;rw [qJ]at k;exact k H' hR' o
end
section
variable{P:Program}{w:World}{K:aq}{mg:Str->Option Value}{base:Heap}{CF CR fF:Addr}
def iV(K:aq)(CF CR:Addr):Sp:=fun vs H Q E=>∃ (r a:Addr)(p size:Nat)(bs:List Int)(lo hi:Int),vs=[.ref r,.int size,.int lo,.int hi]/\dW CR H r a p/\SqL K H a (bs.map V.int)/\p<=bs.length/\(∀ x∈bs,0<=x/\x<=255) /\
 match aW bs p size lo hi with
 |.ok v=>∀ H':Hp,dW CR H' r a (p+size)->Only r H H'->Q (.int v) H'
 |.error e=>Flt CF E H r e.1 e.2
def Js(K:aq)(CF CR:Addr):Sp:=fun vs H Q E=>∃ (r a:Addr)(p size:Nat)(bs:List Int),vs=[.ref r,.int size]/\dW CR H r a p/\SqL K H a (bs.map V.int)/\p<=bs.length /\
 (p+size<=bs.length->∀ (H':Hp)(l:Addr),dW CR H' r a (p+size)->Only r H H'->H l=none->H' l=some (.lst (((bs.drop p).take size).map V.int))->Q (.ref l) H')/\(bs.length<p+size->Flt CF E H r 5 bs.length)
theorem ki:cU ["self","size","end","taken"] ["self","size"] (bj HM):=⟨rfl,rfl,rfl,by decide +kernel,rfl,by decide +kernel,by decide +kernel⟩
theorem oR{f:Addr}{fd:FuncData}(F:Fun K "take" "Reader.take" HM f fd)(T:TR K mg CF CR fF):am P w K mg base (gO P w) 2 f fd ["self","size"] (Js K CF CR):=by
 refine kY F ki (fun vs H Q E h=>?_) (fun bp A outer s H vs Q E hr h=>?_)
 ·obtain⟨r,a,p,size,bs,rfl,_⟩:=h;rfl
 ·obtain⟨r,a,p,size,bs,rfl,hR,hS,hp,k1,k2⟩:=h;have gN:=(show A.depth+1+1<recursionLimit from by have:=hr.dp;simp only [Around.deeper]at this;omega)
  refine⟨_,aN (di (i:=2) ki.nd rfl (Or.inl rfl) (aZ kI (bq (pv 0) rfl) (pv 1)))
   (aN (bZ (gq kZ (pv 2) (l5 rh (by rfl) T.len PySem.boot_len (ao (bq (pv 0) rfl) aD)) (eS _))
     (bg (uM T.xi rfl rfl gN rfl T.mgF rB (ao (ay rfl T.c5) (ao (l5 rh (by rfl) T.len PySem.boot_len (ao (bq (pv 0) rfl) aD)) aD)))) il)
   (aN (di (i:=3) ki.nd rfl (Or.inl rfl) (pb tZ (bq (pv 0) rfl) (Qb (bq (pv 0) rfl)) (Qb (pv 2))))
   (aN (gr (pv 0) (pv 2) rfl)
   (bg (dJ (pv 3)))))),?_⟩
  obtain⟨dx,h1⟩:=hR;refine⟨_,rfl,r,CR,dx,_,_,rfl,h1,T.cl,T.np,lZ _ _,_,rfl,_,_,rfl,rfl,?_⟩;refine⟨_,rfl,_,rfl,r,CR,dx,_,_,rfl,h1,T.cl,T.nf,zr _ _,a,_,rfl,.inl hS,_,_,rfl,rfl,_,rfl,bt (fun hc=>?_) (fun hc=>?_)⟩
  ·have fQ:bs.length<p+size:=by
    have:=ap hc;simp only [aT]at this;omega
   refine⟨_,rfl,r,CR,dx,_,_,rfl,h1,T.cl,T.nf,zr _ _,a,_,rfl,.inl hS,_,_,_,.inr ⟨rfl,rfl⟩,fun eN hn=>?_⟩;refine k2 fQ _ eN ((Only.refl _ _).new hn) ?_;rw [Z2j,aT];rfl
  ·have fQ:¬ bs.length<p+size:=fun e=>hc (ai (by simp only [aT];omega))
   have i8:p+size<=bs.length:=by omega
   refine⟨_,rfl,r,CR,dx,_,_,rfl,h1,T.cl,T.nf,zr _ _,_,rfl,r,CR,dx,_,_,rfl,h1,T.cl,T.np,lZ _ _,_,rfl,_,rfl,_,rfl,a,_,rfl,hS,fun l hl=>?_⟩;have Kd:j4 (bs.map V.int) (some (p:Int)) (some ((p:Int)+(size:Int)))=((bs.drop p).take size).map V.int:=by
    have e:=rV (bs.map V.int) p (p+size) (by rw [aT];exact i8) (zf _ _)
    rw [Nat.add_sub_cancel_left,<-List.map_drop,<-List.map_take]at e;exact e
   rw [Kd];have h2:upd H l (.lst (((bs.drop p).take size).map V.int)) r=some (.ins CR dx (rf a p)):=by rw [aj (a9 h1 hl)];exact h1
   refine⟨_,rfl,_,rfl,r,CR,dx,_,rfl,h2,T.cl,T.np,(by show 2<1000;decide),_,rfl,?_⟩
   refine k1 i8 _ l ⟨dx,?_⟩ (((Only.refl _ _).new hl).trans (Only.upd _)) hl ?_
   ·rw [Z2j,pH];rfl
   ·rw [aj (a9 h1 hl).symm,Z2j]
theorem jD:cU ["self","size","least","most","start","value","byte"] ["self","size","least","most"] (bj HE):=⟨rfl,rfl,rfl,by decide +kernel,rfl,by decide +kernel,by decide +kernel⟩
theorem Du{f fT:Addr}{fd BF:FuncData}(F:Fun K "number" "Reader.number" HE f fd)(T:TR K mg CF CR fF)(GT:am P w K mg base (gO P w) 2 fT BF ["self","size"] (Js K CF CR))(mT:aQ K CR "take" fT)(bT:Binds K BF ["self","size"] []) :
  am P w K mg base (gO P w) 3 f fd ["self","size","least","most"] (iV K CF CR):=by
 refine kY F jD (fun vs H Q E h=>?_) (fun bp A outer s H vs Q E hr h=>?_)
 ·obtain⟨r,a,p,size,bs,lo,hi,rfl,_⟩:=h;rfl
 ·obtain⟨r,a,p,size,bs,lo,hi,rfl,hR,hS,hp,hb,k⟩:=h;have gN:=(show A.depth+1+1<recursionLimit from by have:=hr.dp;simp only [Around.deeper]at this;omega)
  refine⟨_,aN (di (i:=4) jD.nd rfl (Or.inl rfl) (bq (pv 0) rfl))
   (aN (di (i:=5) jD.nd rfl (Or.inl rfl) bx)
   (aN (lH Bi rfl (Z9M rfl T.rev (ao (ej (pv 0) T.cl mT GT hr bT .nil gu (ao (pv 1) aD)) aD)) (eT (i:=6) jD.nd rfl (Or.inl rfl))
     (bg (di (i:=5) jD.nd rfl (Or.inl rfl) (aZ kI (aZ zC (pv 5) bx) (pv 6)))))
   (aN (bZ (PW.pt (jz (gq vo (pv 5) (pv 2) (eS _)) (FG (gq kZ (pv 5) (pv 3) (eS _)))))
     (bg (uM T.xi rfl rfl gN rfl T.mgF rB (ao (ay rfl T.c2) (ao (pv 4) aD)))) il)
   (bg (dJ (pv 5)))))),?_⟩
  obtain⟨dx,h1⟩:=id hR;refine⟨_,rfl,r,CR,dx,_,_,rfl,h1,T.cl,T.np,lZ _ _,?_⟩;refine⟨_,rfl,r,dx,_,rfl,h1,cw _ _ (by decide) (by decide),_,rfl,r,a,p,size,bs,rfl,hR,hS,hp,fun i8 H1 l jQ o1 nl hl=>?_,fun cc=>?_⟩
  ·unfold aW at k;rw [ac (by omega)]at k
   have bO:((bs.drop p).take size).length=size:=by rw [lW,AQ];omega
   generalize hbl:(bs.drop p).take size=bl at *
   refine⟨l,bl.map V.int,rfl,SqL.of hl,so (K:=K) (a:=l) (xs:=bl.map V.int)
    (fun i σ H'=>∃ v:Option V,σ=[some (.ref r),some (.int size),some (.int lo),some (.int hi),some (.int p),some (.int (fq (bl.drop (bl.length-i)))),v]/\H'=H1)
    ⟨none,?_,rfl⟩ (fun i σ H' _ ⟨_,_,e⟩=>by rw [e];exact SqL.of hl) ?_ ?_⟩
   ·rw [zi,List.drop_length];rfl
   ·rintro i x σ H' hi hx ⟨v,rfl,rfl⟩;rw [aT]at hi hx;obtain⟨z,hz,rfl⟩:∃ z,bl[bl.length-1-i]?=some z/\x=V.int z:=by
     rw [dP]at hx;cases e:bl[bl.length-1-i]? with
     |none=>rw [e]at hx;cases hx
     |some z=>rw [e]at hx;exact⟨z,rfl,(Option.some.inj hx).symm⟩
    refine⟨_,rfl,_,_,rfl,rfl,.inr ⟨by decide,by decide⟩,_,rfl,_,_,rfl,rfl,?_⟩
    refine⟨some (.int z),?_,rfl⟩;rw [Zbn hi hz];rfl
   ·rintro σ H' ⟨v,rfl,rfl⟩;rw [aT,uK,List.drop_zero];refine⟨_,rfl,_,rfl,_,_,rfl,rfl,_,rfl,?_⟩;refine bt (fun gM=>?_) (fun gM=>?_)
    ·rw [ae (.inl (ap gM))]at k;refine⟨_,rfl,_,_,_,.inr ⟨rfl,rfl⟩,fun eN hn=>?_⟩;exact k _ eN (o1.new hn) Z2j
    ·refine⟨_,rfl,_,rfl,_,_,rfl,rfl,_,rfl,bt (fun kO=>?_) (fun kO=>?_)⟩
     ·rw [ae (.inr (ap kO))]at k;refine⟨_,rfl,_,_,_,.inr ⟨rfl,rfl⟩,fun eN hn=>?_⟩;exact k _ eN (o1.new hn) Z2j
     ·rw [ac (by rintro(z |z);exact gM (ai z);exact kO (ai z))]at k
      exact⟨_,rfl,k H' jQ o1⟩
  ·unfold aW at k;rw [ae cc]at k;exact k
def pZ(K:aq)(CF CR:Addr):Sp:=fun vs H Q E=>∃ (r a:Addr)(p:Nat)(bs:List Int),vs=[.ref r]/\dW CR H r a p/\SqL K H a (bs.map V.int)/\p<=bs.length /\
 (p=bs.length->∀ H':Hp,Same H H'->Q .non H')/\(p<bs.length->Flt CF E H r 7 p)
theorem DS:cU ["self"] ["self"] (bj HC):=⟨rfl,rfl,rfl,by decide +kernel,rfl,by decide +kernel,by decide +kernel⟩
theorem vm{f:Addr}{fd:FuncData}(F:Fun K "finish" "Reader.finish" HC f fd)(T:TR K mg CF CR fF):am P w K mg base (gO P w) 2 f fd ["self"] (pZ K CF CR):=by
 refine kY F DS (fun vs H Q E h=>?_) (fun bp A outer s H vs Q E hr h=>?_)
 ·obtain⟨r,a,p,bs,rfl,_⟩:=h;rfl
 ·obtain⟨r,a,p,bs,rfl,hR,hS,hp,k1,k2⟩:=h;have gN:=(show A.depth+1+1<recursionLimit from by have:=hr.dp;simp only [Around.deeper]at this;omega)
  refine⟨_,bg (bZ (gq vo (bq (pv 0) rfl) (l5 rh (by rfl) T.len PySem.boot_len (ao (bq (pv 0) rfl) aD)) (eS _))
    (bg (uM T.xi rfl rfl gN rfl T.mgF rB (ao (ay rfl T.c7) (ao (bq (pv 0) rfl) aD)))) il),?_⟩
  obtain⟨dx,h1⟩:=hR;refine⟨_,rfl,r,CR,dx,_,_,rfl,h1,T.cl,T.np,lZ _ _,_,rfl,r,CR,dx,_,_,rfl,h1,T.cl,T.nf,zr _ _,a,_,rfl,.inl hS,_,_,rfl,rfl,_,rfl,bt (fun hc=>?_) (fun hc=>?_)⟩
  ·have fQ:=ap hc;simp only [aT]at fQ;refine⟨_,rfl,r,CR,dx,_,_,rfl,h1,T.cl,T.np,lZ _ _,_,_,_,.inr ⟨rfl,rfl⟩,fun eN hn=>?_⟩;exact k2 (by omega) _ eN ((Only.refl _ _).new hn) Z2j
  ·refine k1 ?_ H (Same.refl H);have:¬ (p:Int)<(bs.length:Int):=fun e=>hc (ai (by simp only [aT];exact e))
   omega
end
end BK
end
section
namespace BK
open PySem PySem.Spec PyProof.Rows L2 EX RD LM
def lJ(x:Fk.Atom):List (Str×V):=[("element",.int (x.element:Int)),("isotope",.int (x.isotope:Int)),("charge",.int x.charge),("hydrogens",.int (x.hydrogens:Int)),("hand",.int (x.hand:Int))]
def z6(a b:Addr):List (Str×V):=[("atoms",.ref a),("bonds",.ref b)]
theorem Z9J(x:Fk.Atom):(lJ x).lookup ("element" : Str)=some (.int (x.element:Int)):=by
 unfold lJ;rw [bh,show(("element" : Str)=="element")=true by decide]
theorem Z9K(x:Fk.Atom):(lJ x).lookup ("isotope" : Str)=some (.int (x.isotope:Int)):=by
 unfold lJ;rw [bh,show(("isotope" : Str)=="element")=false by decide,bh,show(("isotope" : Str)=="isotope")=true by decide]
theorem ZaP(x:Fk.Atom):(lJ x).lookup ("charge" : Str)=some (.int x.charge):=by
 unfold lJ;rw [bh,show(("charge" : Str)=="element")=false by decide,bh,show(("charge" : Str)=="isotope")=false by decide,bh,show(("charge" : Str)=="charge")=true by decide]
theorem Fc(x:Fk.Atom):(lJ x).lookup ("hydrogens" : Str)=some (.int (x.hydrogens:Int)):=by
 unfold lJ;rw [bh,show(("hydrogens" : Str)=="element")=false by decide,bh,show(("hydrogens" : Str)=="isotope")=false by decide,bh,show(("hydrogens" : Str)=="charge")=false by decide,bh,show(("hydrogens" : Str)=="hydrogens")=true by decide]
theorem ng(x:Fk.Atom):(lJ x).lookup ("hand" : Str)=some (.int (x.hand:Int)):=by
 unfold lJ;rw [bh,show(("hand" : Str)=="element")=false by decide,bh,show(("hand" : Str)=="isotope")=false by decide,bh,show(("hand" : Str)=="charge")=false by decide,bh,show(("hand" : Str)=="hydrogens")=false by decide,bh,show(("hand" : Str)=="hand")=true by decide]
theorem vX(a b:Addr):(z6 a b).lookup ("atoms" : Str)=some (.ref a):=by
 unfold z6;rw [bh,show(("atoms" : Str)=="atoms")=true by decide]
theorem A0(a b:Addr):(z6 a b).lookup ("bonds" : Str)=some (.ref b):=by
 unfold z6;rw [bh,show(("bonds" : Str)=="atoms")=false by decide,bh,show(("bonds" : Str)=="bonds")=true by decide]
def AtomAt(CA:Addr)(H:Hp)(r:Addr)(x:Fk.Atom):Prop:=∃ dx,H r=some (.ins CA dx (lJ x))
def BndAt(CB:Addr)(H:Hp)(r:Addr)(x:Fk.Bond):Prop:=mw CB H r x.a x.b (x.order:Int) (x.side:Int)
structure uC(K:aq)(CA:Addr):Prop where
 cl:Cls K CA
 ne:NoAttr K CA "element"
 ni:NoAttr K CA "isotope"
 nc:NoAttr K CA "charge"
 nh:NoAttr K CA "hydrogens"
 nd:NoAttr K CA "hand"
structure uF(K:aq)(CM:Addr):Prop where
 cl:Cls K CM
 na:NoAttr K CM "atoms"
 nb:NoAttr K CM "bonds"
structure TM(K:aq)(mg:Str->Option Value):Prop where
 range:mg "range" = none
 enum:mg "enumerate" = none
 mark:∃ a,mg "MARK_molecules" = some (.ref a)/\∀ H,SqT K H a (([70,75,77,49]:List Int).map V.int)
 before:∃ a,mg "BEFORE_ALL" = some (.ref a)/\∀ H,SqT K H a (([0,0]:List Int).map V.int)
 cE:∃ u,mg "MOST_ELEMENT" = some u/\RelV (.int 118) u
 cI:∃ u,mg "MOST_ISOTOPE" = some u/\RelV (.int 500) u
 cA:∃ u,mg "MOST_ATOMS" = some u/\RelV (.int 128) u
 cB:∃ u,mg "MOST_BONDS" = some u/\RelV (.int 192) u
 cC:∃ u,mg "MOST_CHARGE" = some u/\RelV (.int 4) u
 cH:∃ u,mg "MOST_HYDROGENS" = some u/\RelV (.int 7) u
 cD:∃ u,mg "MOST_HAND" = some u/\RelV (.int 2) u
 cO:∃ u,mg "MOST_ORDER" = some u/\RelV (.int 3) u
 cS:∃ u,mg "MOST_SIDE" = some u/\RelV (.int 2) u
 c3:∃ u,mg "NOT_BEHIND" = some u/\RelV (.int 3) u
 c4:∃ u,mg "WRONG_HAND" = some u/\RelV (.int 4) u
 c6:∃ u,mg "WRONG_SIDE" = some u/\RelV (.int 6) u
 z1:∃ u,mg "HEAD_SIZE" = some u/\RelV (.int 6) u
 z2:∃ u,mg "ATOM_SIZE" = some u/\RelV (.int 6) u
 z3:∃ u,mg "BOND_SIZE" = some u/\RelV (.int 4) u
section
variable{P:Program}{w:World}{K:aq}{mg:Str->Option Value}{base:Heap}{CF CR fF CA CB CM:Addr}
def D0(CA:Addr):Sp:=fun vs H Q _=>∃ (r dx:Addr)(x:Fk.Atom),vs=[.ref r,.int (x.element:Int),.int (x.isotope:Int),.int x.charge,.int (x.hydrogens:Int),.int (x.hand:Int)]/\H r=some (.ins CA dx [])/\∀ H':Hp,AtomAt CA H' r x->Only r H H'->Q .non H'
theorem L7:cU ["self","element","isotope","charge","hydrogens","hand"] ["self","element","isotope","charge","hydrogens","hand"] (bj Ih):=⟨rfl,rfl,rfl,by decide +kernel,rfl,by decide +kernel,by decide +kernel⟩
theorem Lz{f:Addr}{fd:FuncData}(F:Fun K "__init__" "Atom.__init__" Ih f fd)(T:uC K CA):am P w K mg base CX0 1 f fd ["self","element","isotope","charge","hydrogens","hand"] (D0 CA):=by
 refine F.ok L7 (fun vs H Q E h=>?_) (fun bp A outer s H vs Q E hr h=>?_)
 ·obtain⟨r,dx,x,rfl,_⟩:=h;rfl
 ·obtain⟨r,dx,x,rfl,hp,k⟩:=h;refine⟨_,aN (gr (pv 0) (pv 1) rfl) (aN (gr (pv 0) (pv 2) rfl) (aN (gr (pv 0) (pv 3) rfl) (aN (gr (pv 0) (pv 4) rfl) (bg (gr (pv 0) (pv 5) rfl))))),?_⟩;refine⟨_,rfl,_,rfl,r,CA,dx,[],rfl,hp,T.cl,T.ne,(by show 0<1000;decide),?_⟩
  refine⟨_,rfl,_,rfl,r,CA,dx,_,rfl,Z2j,T.cl,T.ni,(by show 1<1000;decide),?_⟩
  refine⟨_,rfl,_,rfl,r,CA,dx,_,rfl,Z2j,T.cl,T.nc,(by show 2<1000;decide),?_⟩
  refine⟨_,rfl,_,rfl,r,CA,dx,_,rfl,Z2j,T.cl,T.nh,(by show 3<1000;decide),?_⟩
  refine⟨_,rfl,_,rfl,r,CA,dx,_,rfl,Z2j,T.cl,T.nd,(by show 4<1000;decide),?_⟩
  rw [j0,j0,j0,j0];exact k _ ⟨dx,by rw [Z2j];rfl⟩ (Only.upd _)
def D4(CB:Addr):Sp:=fun vs H Q _=>∃ (r dx:Addr)(x:Fk.Bond),vs=[.ref r,.int (x.a:Int),.int (x.b:Int),.int (x.order:Int),.int (x.side:Int)]/\H r=some (.ins CB dx [])/\∀ H':Hp,BndAt CB H' r x->Only r H H'->Q .non H'
theorem L8:cU ["self","a","b","order","side"] ["self","a","b","order","side"] (bj Ig):=⟨rfl,rfl,rfl,by decide +kernel,rfl,by decide +kernel,by decide +kernel⟩
theorem LB{f:Addr}{fd:FuncData}(F:Fun K "__init__" "Bond.__init__" Ig f fd)(T:uD K CB):am P w K mg base CX0 1 f fd ["self","a","b","order","side"] (D4 CB):=by
 refine F.ok L8 (fun vs H Q E h=>?_) (fun bp A outer s H vs Q E hr h=>?_)
 ·obtain⟨r,dx,x,rfl,_⟩:=h;rfl
 ·obtain⟨r,dx,x,rfl,hp,k⟩:=h;refine⟨_,aN (gr (pv 0) (pv 1) rfl) (aN (gr (pv 0) (pv 2) rfl) (aN (gr (pv 0) (pv 3) rfl) (bg (gr (pv 0) (pv 4) rfl)))),?_⟩;refine⟨_,rfl,_,rfl,r,CB,dx,[],rfl,hp,T.cl,T.na,(by show 0<1000;decide),?_⟩
  refine⟨_,rfl,_,rfl,r,CB,dx,_,rfl,Z2j,T.cl,T.nb,(by show 1<1000;decide),?_⟩
  refine⟨_,rfl,_,rfl,r,CB,dx,_,rfl,Z2j,T.cl,T.no,(by show 2<1000;decide),?_⟩
  refine⟨_,rfl,_,rfl,r,CB,dx,_,rfl,Z2j,T.cl,T.ns,(by show 3<1000;decide),?_⟩
  rw [j0,j0,j0];exact k _ ⟨dx,by rw [Z2j];rfl⟩ (Only.upd _)
def D8(CM:Addr):Sp:=fun vs H Q _=>∃ (r dx a b:Addr),vs=[.ref r,.ref a,.ref b]/\H r=some (.ins CM dx [])/\∀ H':Hp,H' r=some (.ins CM dx (z6 a b))->Only r H H'->Q .non H'
theorem Ma:cU ["self","atoms","bonds"] ["self","atoms","bonds"] (bj Hk):=⟨rfl,rfl,rfl,by decide +kernel,rfl,by decide +kernel,by decide +kernel⟩
theorem LF{f:Addr}{fd:FuncData}(F:Fun K "__init__" "Molecule.__init__" Hk f fd)(T:uF K CM):am P w K mg base CX0 1 f fd ["self","atoms","bonds"] (D8 CM):=by
 refine F.ok Ma (fun vs H Q E h=>?_) (fun bp A outer s H vs Q E hr h=>?_)
 ·obtain⟨r,dx,a,b,rfl,_⟩:=h;rfl
 ·obtain⟨r,dx,a,b,rfl,hp,k⟩:=h;refine⟨_,aN (gr (pv 0) (pv 1) rfl) (bg (gr (pv 0) (pv 2) rfl)),?_⟩;refine⟨_,rfl,_,rfl,r,CM,dx,[],rfl,hp,T.cl,T.na,(by show 0<1000;decide),?_⟩
  refine⟨_,rfl,_,rfl,r,CM,dx,_,rfl,Z2j,T.cl,T.nb,(by show 1<1000;decide),?_⟩
  rw [j0];exact k _ (by rw [Z2j];rfl) (Only.upd _)
theorem Pc{r t:Addr}{H H1:Hp}{C dx:Addr}{fs:List (Str×V)}(o:Only r H H1)(g:H1 r=some (.ins C dx fs))(h:H1 t=none):H t=none:=by
 cases q:H t with
 |none=>rfl
 |some u =>
  by_cases e:t=r
  ·subst e;rw [g]at h;cases h
  ·rw [o _ _ q e]at h;cases h
def pW(K:aq)(CF CR CA:Addr):Sp:=fun vs H Q E=>∃ (r a:Addr)(p:Nat)(bs:List Int),vs=[.ref r]/\dW CR H r a p/\SqL K H a (bs.map V.int)/\p<=bs.length/\(∀ x∈bs,0<=x/\x<=255) /\
 match eQ bs p with
 |.ok x=>∀ (H':Hp)(t:Addr),dW CR H' r a (p+6)->Only r H H'->H t=none->AtomAt CA H' t x->Q (.ref t) H'
 |.error e=>Flt CF E H r e.1 e.2
theorem gi:cU ["reader","element","isotope","charge","hydrogens","hand"] ["reader"] (bj HB):=⟨rfl,rfl,rfl,by decide +kernel,rfl,by decide +kernel,by decide +kernel⟩
theorem xR{f fN fI:Addr}{fd kK js:FuncData}(F:Fun K "read_atom" "read_atom" HB f fd)(T:TR K mg CF CR fF)(B:TM K mg)(GN:am P w K mg base (gO P w) 3 fN kK ["self","size","least","most"] (iV K CF CR))(mN:aQ K CR "number" fN)
  (bN:Binds K kK ["self","size","least","most"] [])(M:Mk K CA fI)(hC:mg "Atom" = some (.ref CA))(GI:am P w K mg base CX0 1 fI js ["self","element","isotope","charge","hydrogens","hand"] (D0 CA))(bI:Binds K js ["self","element","isotope","charge","hydrogens","hand"] []) :
  am P w K mg base (gO P w) 4 f fd ["reader"] (pW K CF CR CA):=by
 refine kY F gi (fun vs H Q E h=>?_) (fun bp A outer s H vs Q E hr h=>?_)
 ·obtain⟨r,a,p,bs,rfl,_⟩:=h;rfl
 ·obtain⟨r,a,p,bs,rfl,hR,hS,hp,hb,k⟩:=h;have eg:Room 2 _:=hr.mono (by decide)
  refine⟨_,aN (di (i:=1) gi.nd rfl (Or.inl rfl) (ej (pv 0) T.cl mN GN hr bN .nil gu (ao bx (ao bx (ao (ay rfl B.cE) aD)))))
   (aN (di (i:=2) gi.nd rfl (Or.inl rfl) (ej (pv 0) T.cl mN GN hr bN .nil gu (ao bx (ao bx (ao (ay rfl B.cI) aD)))))
   (aN (di (i:=3) gi.nd rfl (Or.inl rfl) (aZ uN (ej (pv 0) T.cl mN GN hr bN .nil gu (ao bx (ao bx (ao (aZ zC bx (ay rfl B.cC)) aD)))) (ay rfl B.cC)))
   (aN (di (i:=4) gi.nd rfl (Or.inl rfl) (ej (pv 0) T.cl mN GN hr bN .nil gu (ao bx (ao bx (ao (ay rfl B.cH) aD)))))
   (aN (di (i:=5) gi.nd rfl (Or.inl rfl) (ej (pv 0) T.cl mN GN hr bN .nil gu (ao bx (ao bx (ao (ay rfl B.cD) aD)))))
   (bg (dJ (rq M GI eg rfl hC bI .nil aC (ao (pv 1) (ao (pv 2) (ao (pv 3) (ao (pv 4) (ao (pv 5) aD)))))))))))),?_⟩
  obtain⟨dx,h1⟩:=id hR;refine⟨_,rfl,r,dx,_,rfl,h1,cw _ _ (by decide) (by decide),r,a,p,1,bs,_,_,rfl,hR,hS,hp,hb,?_⟩
  unfold eQ at k;cases e1:aW bs p 1 1 118 with
  |error e=>rw [e1]at k;exact k
  |ok x =>
   rw [e1]at k;dsimp only at k;intro H1 jQ o1;obtain⟨qC,g1⟩:=id jQ;have S1:=o1.sq h1 hS;refine⟨_,rfl,r,qC,_,rfl,g1,cw _ _ (by decide) (by decide),r,a,p+1,2,bs,_,_,rfl,jQ,S1,by have:=(dA e1).1;omega,hb,?_⟩
   cases e2:aW bs (p+1) 2 0 500 with
   |error e=>rw [e2]at k;exact k.only o1
   |ok y =>
    rw [e2]at k;dsimp only at k;intro H2 mi o2;obtain⟨eZ,g2⟩:=id mi;have S2:=o2.sq g1 S1;refine⟨_,rfl,r,eZ,_,rfl,g2,cw _ _ (by decide) (by decide),_,_,rfl,rfl,.inl (by constructor<;>decide),r,a,p+3,1,bs,0,8,rfl,mi,S2,by have:=(dA e2).1;omega,hb,?_⟩
    cases e3:aW bs (p+3) 1 0 8 with
    |error e=>rw [e3]at k;exact k.only (o1.trans o2)
    |ok c =>
     rw [e3]at k;dsimp only at k;intro H3 oa o3;obtain⟨rY,g3⟩:=id oa;have S3:=o3.sq g2 S2;refine⟨_,_,rfl,rfl,?_⟩;refine⟨_,rfl,r,rY,_,rfl,g3,cw _ _ (by decide) (by decide),r,a,p+4,1,bs,_,_,rfl,oa,S3,by have:=(dA e3).1;omega,hb,?_⟩
     cases e4:aW bs (p+4) 1 0 7 with
     |error e=>rw [e4]at k;exact k.only ((o1.trans o2).trans o3)
     |ok h =>
      rw [e4]at k;dsimp only at k;intro H4 sB o4;obtain⟨rZ,g4⟩:=id sB;have S4:=o4.sq g3 S3;refine⟨_,rfl,r,rZ,_,rfl,g4,cw _ _ (by decide) (by decide),r,a,p+5,1,bs,_,_,rfl,sB,S4,by have:=(dA e4).1;omega,hb,?_⟩
      cases e5:aW bs (p+5) 1 0 2 with
      |error e=>rw [e5]at k;exact k.only (((o1.trans o2).trans o3).trans o4)
      |ok t =>
       rw [e5]at k;dsimp only at k;intro H5 kN o5;obtain⟨se,g5⟩:=id kN;have a1:=dA e1;have a2:=dA e2;have a3:=dA e3;have a4:=dA e4;have a5:=dA e5;have oo:=(((o1.trans o2).trans o3).trans o4).trans o5;refine⟨_,rfl,_,rfl,_,rfl,_,rfl,_,rfl,fun u ud nu nd Re=>⟨u,ud,⟨x.toNat,y.toNat,c-4,h.toNat,t.toNat⟩,?_,Z2j,fun H6 hA o6=>⟨rfl,?_⟩⟩⟩
       ·rw [lB (by omega:0<=x),lB (by omega:0<=y),lB (by omega:0<=h),lB (by omega:0<=t)];rfl
       ·have ru:r≠u:=a9 g5 nu;have rd:r≠ud:=a9 g5 nd;refine k H6 u ⟨se,o6 _ _ (by rw [aj ru,aj rd];exact g5) ru⟩ (fun b o e hb=>o6 _ _ (by rw [aj (a9 (oo _ _ e hb) nu),aj (a9 (oo _ _ e hb) nd)];exact oo _ _ e hb) (a9 (oo _ _ e hb) nu)) (Pc oo g5 nu) hA
end
def Objs{α:Type}(R:Hp->Addr->α->Prop)(H:Hp)(ts:List Addr)(l:List α):Prop:=ts.length=l.length/\∀ (j:Nat)(t:Addr)(x:α),ts[j]?=some t->l[j]?=some x->R H t x
theorem Objs.keep{α:Type}{R:Hp->Addr->α->Prop}{H H':Hp}{ts:List Addr}{l:List α}(h:Objs R H ts l)(k:∀ t x,t∈ts->R H t x->R H' t x):Objs R H' ts l:=⟨h.1,fun j t x a b=>k t x (gK a) (h.2 j t x a b)⟩
theorem Objs.nil{α:Type}{R:Hp->Addr->α->Prop}{H:Hp}:Objs R H [] []:=⟨rfl,fun j t m a b=>by simp at a⟩
theorem Objs.snoc{α:Type}{R:Hp->Addr->α->Prop}{H:Hp}{ts:List Addr}{l:List α}{t:Addr}{e:α}(h:Objs R H ts l)(ht:R H t e):Objs R H (ts++[t]) (l++[e]):=by
 refine⟨by simp [h.1],fun j t' e' a b=>?_⟩
 rw [List.getElem?_append]at a b;rw [h.1]at a;split at a
 ·rename_i hj;rw [ae hj]at b;exact h.2 j t' e' a b
 ·rename_i hj;rw [ac hj]at b;cases z:j-l.length with
  |zero =>
   rw [z]at a b;cases a;cases b;exact ht
  |succ n=>rw [z]at a;simp at a
theorem Objs.at{α:Type}{R:Hp->Addr->α->Prop}{H:Hp}{ts:List Addr}{l:List α}{i:Nat}{y:V}(h:Objs R H ts l)(hi:(ts.map V.ref)[i]?=some y):∃ t x,y=.ref t/\ts[i]?=some t/\l[i]?=some x/\R H t x:=by
 rw [dP]at hi;cases e:ts[i]? with
 |none=>rw [e]at hi;cases hi
 |some t =>
  rw [e]at hi;have lt:i<l.length:=by rw [<-h.1];exact(ee.mp e).1
  have e2:l[i]?=some l[i]:=du lt;exact⟨t,l[i],(Option.some.inj hi).symm,rfl,e2,h.2 i t _ e e2⟩
theorem AtomAt.ref{CA:Addr}{H H':Hp}{t:Addr}{x:Fk.Atom}(h:AtomAt CA H t x)(k:∀ o,H t=some o->H' t=some o):AtomAt CA H' t x:=by obtain⟨dx,e⟩:=h;exact⟨dx,k _ e⟩
theorem BndAt.ref{CB:Addr}{H H':Hp}{t:Addr}{x:Fk.Bond}(h:BndAt CB H t x)(k:∀ o,H t=some o->H' t=some o):BndAt CB H' t x:=by obtain⟨dx,e⟩:=h;exact⟨dx,k _ e⟩
structure MolAt(CM CA CB:Addr)(H:Hp)(mr al bl:Addr)(as bs:List Addr)(M:Fk.Mol):Prop where
 top:∃ dx,H mr=some (.ins CM dx (z6 al bl))
 atl:H al=some (.lst (as.map V.ref))
 ats:Objs (AtomAt CA) H as M.atoms
 bdl:H bl=some (.lst (bs.map V.ref))
 bds:Objs (BndAt CB) H bs M.bonds
theorem MolAt.same{CM CA CB:Addr}{H H':Hp}{mr al bl:Addr}{as bs:List Addr}{M:Fk.Mol}(h:MolAt CM CA CB H mr al bl as bs M)(s:L2.Same H H'):MolAt CM CA CB H' mr al bl as bs M :=
 ⟨let ⟨dx,e⟩:=h.top;⟨dx,s _ _ e⟩,s _ _ h.atl,h.ats.keep fun t x _ a=>a.ref fun o e=>s _ _ e,s _ _ h.bdl,h.bds.keep fun t x _ a=>a.ref fun o e=>s _ _ e⟩
def FltS(CF:Addr)(E:XK)(H:Hp)(rule dG:Int):Prop:=∀ H' dx,Same H H'->H' dx=some (.xd (xf rule dG 0))->E (.ref CF) (some dx) H'
theorem FltS.flt{CF:Addr}{E:XK}{H H1:Hp}{rule dG:Int}{r:Addr}(f:FltS CF E H rule dG)(s:Same H H1)(n:H r=none):Flt CF E H1 r rule dG:=fun H' dx o h =>
 f H' dx (fun b ob e=>o b ob (s b ob e) (a9 e n)) h
theorem Same.only{r:Addr}{H H1 H2:Hp}(s:L2.Same H H1)(o:Only r H1 H2)(n:H r=none):L2.Same H H2:=fun b ob e=>o b ob (s b ob e) (a9 e n)
section
variable{P:Program}{w:World}{K:aq}{mg:Str->Option Value}{base:Heap}{CF CR fF CA CB CM:Addr}
def vB(K:aq)(CF CR CB:Addr):Sp:=fun vs H Q E=>∃ (r a b:Addr)(p:Nat)(n:Int)(bs:List Int)(be:Int×Int),vs=[.ref r,.int n,.ref b]/\dW CR H r a p/\SqL K H a (bs.map V.int)/\p<=bs.length/\(∀ x∈bs,0<=x/\x<=255) /\
 SqT K H b (([be.1,be.2]:List Int).map V.int) /\
 match eR bs n p be with
 |.ok x=>∀ (H':Hp)(t:Addr),dW CR H' r a (p+4)->Only r H H'->H t=none->BndAt CB H' t x->Q (.ref t) H'
 |.error e=>Flt CF E H r e.1 e.2
theorem iT:cU ["reader","atom_count","before","start","a","b","order","side"] ["reader","atom_count","before"] (bj Hy):=⟨rfl,rfl,rfl,by decide +kernel,rfl,by decide +kernel,by decide +kernel⟩
theorem Dn{f fN fI:Addr}{fd kK js:FuncData}(F:Fun K "read_bond" "read_bond" Hy f fd)(T:TR K mg CF CR fF)(B:TM K mg)(GN:am P w K mg base (gO P w) 3 fN kK ["self","size","least","most"] (iV K CF CR))(mN:aQ K CR "number" fN)
  (bN:Binds K kK ["self","size","least","most"] [])(M:Mk K CB fI)(hC:mg "Bond" = some (.ref CB))(GI:am P w K mg base CX0 1 fI js ["self","a","b","order","side"] (D4 CB))(bI:Binds K js ["self","a","b","order","side"] []) :
  am P w K mg base (gO P w) 4 f fd ["reader","atom_count","before"] (vB K CF CR CB):=by
 refine kY F iT (fun vs H Q E h=>?_) (fun bp A outer s H vs Q E hr h=>?_)
 ·obtain⟨r,a,b,p,n,bs,be,rfl,_⟩:=h;rfl
 ·obtain⟨r,a,b,p,n,bs,be,rfl,hR,hS,hp,hb,hB,k⟩:=h;have eg:Room 2 _:=hr.mono (by decide)
  have gN:=(show A.depth+1+1<recursionLimit from by have:=hr.dp;simp only [Around.deeper]at this;omega)
  refine⟨_,aN (di (i:=3) iT.nd rfl (Or.inl rfl) (bq (pv 0) rfl))
   (aN (di (i:=4) iT.nd rfl (Or.inl rfl) (ej (pv 0) T.cl mN GN hr bN .nil gu (ao bx (ao bx (ao (aZ uN (pv 1) bx) aD)))))
   (aN (di (i:=5) iT.nd rfl (Or.inl rfl) (ej (pv 0) T.cl mN GN hr bN .nil gu (ao bx (ao (aZ kI (pv 4) bx) (ao (aZ uN (pv 1) bx) aD)))))
   (aN (bZ (gq (yg hr.units0) (qA (ao (pv 4) (ao (pv 5) aD))) (pv 2) (eS _))
     (bg (uM T.xi rfl rfl gN rfl T.mgF rB (ao (ay rfl B.c3) (ao (pv 3) aD)))) il)
   (aN (di (i:=6) iT.nd rfl (Or.inl rfl) (ej (pv 0) T.cl mN GN hr bN .nil gu (ao bx (ao bx (ao (ay rfl B.cO) aD)))))
   (aN (di (i:=7) iT.nd rfl (Or.inl rfl) (ej (pv 0) T.cl mN GN hr bN .nil gu (ao bx (ao bx (ao (ay rfl B.cS) aD)))))
   (bg (dJ (rq M GI eg rfl hC bI .nil aC (ao (pv 4) (ao (pv 5) (ao (pv 6) (ao (pv 7) aD)))))))))))),?_⟩
  obtain⟨dx,h1⟩:=id hR;refine⟨_,rfl,r,CR,dx,_,_,rfl,h1,T.cl,T.np,lZ _ _,?_⟩;refine⟨_,rfl,r,dx,_,rfl,h1,cw _ _ (by decide) (by decide),_,rfl,_,_,rfl,rfl,r,a,p,1,bs,_,_,rfl,hR,hS,hp,hb,?_⟩
  unfold eR at k;cases e1:aW bs p 1 0 (n-1)with
  |error e=>rw [e1]at k;exact k
  |ok x =>
   rw [e1]at k;dsimp only at k;intro H1 jQ o1;obtain⟨qC,g1⟩:=id jQ;have S1:=o1.sq h1 hS;refine⟨_,rfl,r,qC,_,rfl,g1,cw _ _ (by decide) (by decide),_,rfl,_,_,rfl,rfl,_,rfl,_,_,rfl,rfl,r,a,p+1,1,bs,_,_,rfl,jQ,S1,by have:=(dA e1).1;omega,hb,?_⟩
   cases e2:aW bs (p+1) 1 (x+1) (n-1)with
   |error e=>rw [e2]at k;exact k.only o1
   |ok y =>
    rw [e2]at k;dsimp only at k;intro H2 mi o2;obtain⟨eZ,g2⟩:=id mi;have S2:=o2.sq g1 S1;have B2:=(o1.trans o2).sqT h1 hB;refine⟨_,rfl,_,rfl,(by show 2<=sizeLine;decide),fun t ht=>⟨_,rfl,t,b,[x,y],[be.1,be.2],rfl,rfl,SqT.of Z2j,RD.Same.sqT (RD.Same.new ht) B2,_,rfl,bt (fun hc=>?_) (fun hc=>?_)⟩⟩
    ·rw [ae hc]at k;refine⟨_,rfl,_,_,_,.inr ⟨rfl,rfl⟩,fun eN hn=>?_⟩;exact k _ eN (((o1.trans o2).new ht).new hn) Z2j
    ·rw [ac hc]at k;have bQ:r≠t:=a9 g2 ht;have oa:dW CR (upd H2 t (.tup [.int x,.int y])) r a (p+1+1):=⟨eZ,by rw [aj bQ];exact g2⟩
     have o3:Only r H (upd H2 t (.tup [.int x,.int y])):=(o1.trans o2).new ht;have S3:SqL K (upd H2 t (.tup [.int x,.int y])) a (bs.map V.int):=o3.sq h1 hS;obtain⟨rY,g3⟩:=id oa;refine⟨_,rfl,r,rY,_,rfl,g3,cw _ _ (by decide) (by decide),r,a,p+2,1,bs,_,_,rfl,oa,S3,by have:=(dA e2).1;omega,hb,?_⟩
     cases e3:aW bs (p+2) 1 1 3 with
     |error e=>rw [e3]at k;exact k.only o3
     |ok o =>
      rw [e3]at k;dsimp only at k;intro H4 sB o4;obtain⟨rZ,g4⟩:=id sB;have S4:=o4.sq g3 S3;refine⟨_,rfl,r,rZ,_,rfl,g4,cw _ _ (by decide) (by decide),r,a,p+3,1,bs,_,_,rfl,sB,S4,by have:=(dA e3).1;omega,hb,?_⟩
      cases e4:aW bs (p+3) 1 0 2 with
      |error e=>rw [e4]at k;exact k.only (o3.trans o4)
      |ok z =>
       rw [e4]at k;dsimp only at k;intro H5 kN o5;obtain⟨se,g5⟩:=id kN;have a1:=dA e1;have a2:=dA e2;have a3:=dA e3;have a4:=dA e4;have oo:=(o3.trans o4).trans o5;refine⟨_,rfl,_,rfl,_,rfl,_,rfl,fun u ud nu nd Re=>⟨u,ud,⟨x.toNat,y.toNat,o.toNat,z.toNat⟩,?_,Z2j,fun H6 hA o6=>⟨rfl,?_⟩⟩⟩
       ·rw [lB (by omega:0<=x),lB (by omega:0<=y),lB (by omega:0<=o),lB (by omega:0<=z)];rfl
       ·have ru:r≠u:=a9 g5 nu;have rd:r≠ud:=a9 g5 nd;refine k H6 u ⟨se,o6 _ _ (by rw [aj ru,aj rd];exact g5) ru⟩ (fun b o e hb=>o6 _ _ (by rw [aj (a9 (oo _ _ e hb) nu),aj (a9 (oo _ _ e hb) nd)];exact oo _ _ e hb) (a9 (oo _ _ e hb) nu)) (Pc oo g5 nu) hA
end
theorem Ij(bs:List Int)(k p:Nat):jn bs (k+1) p=match eQ bs p with
  |.error e=>.error e
  |.ok x=>match jn bs k (p+6)with
   |.error e=>.error e
   |.ok y=>.ok (x::y):=rfl
theorem Z9S(bs:List Int)(p:Nat):jn bs 0 p=.ok []:=rfl
theorem Z9R(bs:List Int)(n:Int)(p:Nat)(b:Int×Int):jo bs n 0 p b=.ok []:=rfl
theorem Io(bs:List Int)(n:Int)(k p:Nat)(b:Int×Int):jo bs n (k+1) p b=match eR bs n p b with
  |.error e=>.error e
  |.ok x=>match jo bs n k (p+4) (x.a,x.b)with
   |.error e=>.error e
   |.ok y=>.ok (x::y):=rfl
section
variable{P:Program}{w:World}{K:aq}{mg:Str->Option Value}{base:Heap}{CF CR fF CA CB CM:Addr}
def P5(K:aq)(CF CA CB CM:Addr):Sp:=fun vs H Q E=>∃ (a:Addr)(bs:List Int),vs=[.ref a]/\SqL K H a (bs.map V.int)/\(∀ x∈bs,0<=x/\x<=255) /\
 match rG bs with
 |.ok M=>∀ (H':Hp)(mr al bl:Addr)(as ds:List Addr),Same H H'->H al=none->H bl=none->MolAt CM CA CB H' mr al bl as ds M->Q (.ref mr) H'
 |.error e=>FltS CF E H e.1 e.2
theorem cN:cU ["form","reader","atom_count","bond_count","atoms","bonds","before","k","bond"] ["form"] (bj AT):=⟨rfl,rfl,rfl,by decide +kernel,rfl,by decide +kernel,by decide +kernel⟩
theorem nz:cX ["form","reader","atom_count","bond_count","atoms","bonds","before","k","bond"] (bj AT) (I0 (eP AT)) [("k",7)]:=⟨rfl,by decide +kernel,by decide +kernel,by decide +kernel,by decide +kernel⟩
theorem tE{f fI fM fN fA fB fW fJ:Addr}{fd js uY kK gw iG BH BC:FuncData}(F:Fun K "read_parts" "read_parts" AT f fd)(T:TR K mg CF CR fF)(B:TM K mg)(TB:uD K CB)
  (M:Mk K CR fI)(GI:am P w K mg base CX0 1 fI js ["self","form"] (yE CR))(bI:Binds K js ["self","form"] [])
  (GM:am P w K mg base (gO P w) 2 fM uY ["self","mark"] (Jr K CF CR))(mM:aQ K CR "expect_mark" fM)(bM:Binds K uY ["self","mark"] [])
  (GN:am P w K mg base (gO P w) 3 fN kK ["self","size","least","most"] (iV K CF CR))(mN:aQ K CR "number" fN)(bN:Binds K kK ["self","size","least","most"] [])
  (GW:am P w K mg base (gO P w) 2 fW BH ["self"] (pZ K CF CR))(mW:aQ K CR "finish" fW)(bW:Binds K BH ["self"] [])
  (GA:am P w K mg base (gO P w) 4 fA gw ["reader"] (pW K CF CR CA))(mA:mg "read_atom" = some (.ref fA))(kA:PySem.W.keepIn K (.ref fA)=true)(bA:Binds K gw ["reader"] [])
  (GB:am P w K mg base (gO P w) 4 fB iG ["reader","atom_count","before"] (vB K CF CR CB))(mB:mg "read_bond" = some (.ref fB))(kB:PySem.W.keepIn K (.ref fB)=true)(bB:Binds K iG ["reader","atom_count","before"] [])
  (J:Mk K CM fJ)(hJ:mg "Molecule" = some (.ref CM))(GJ:am P w K mg base CX0 1 fJ BC ["self","atoms","bonds"] (D8 CM))(bJ:Binds K BC ["self","atoms","bonds"] []) :
  am P w K mg base (gO P w) 5 f fd ["form"] (P5 K CF CA CB CM):=by
 refine kY F cN (fun vs H Q E h=>?_) (fun bp A outer s H vs Q E hr h=>?_)
 ·obtain⟨a,bs,rfl,_⟩:=h;rfl
 ·obtain⟨a,bs,rfl,hS,hb,k⟩:=h;obtain⟨aM,eM,hM⟩:=B.mark;obtain⟨aB,eB,hB⟩:=B.before;have eg:Room 2 _:=hr.mono (by decide)
  have j9:Room 3 _:=hr.mono (by decide)
  refine⟨_,aN (di (i:=1) cN.nd rfl (Or.inr rfl) (rq M GI eg rfl T.mgR bI .nil aC (ao (pv 0) aD)))
   (aN (gR (ej (pv 1) T.cl mM GM eg bM .nil gu (ao (Bg (v:=.ref aM) rfl eM rfl) aD)))
   (aN (di (i:=2) cN.nd rfl (Or.inl rfl) (ej (pv 1) T.cl mN GN j9 bN .nil gu (ao bx (ao bx (ao (ay rfl B.cA) aD)))))
   (aN (di (i:=3) cN.nd rfl (Or.inl rfl) (ej (pv 1) T.cl mN GN j9 bN .nil gu (ao bx (ao bx (ao (ay rfl B.cB) aD)))))
   (aN (II (E:=E) (i:=4) rfl rfl rfl (fun _ _ h=>h) rfl cN.nd rfl rfl (Bb rfl rfl rfl rfl) (AY rfl B.range (ao (pv 2) aD)) nz (fun s H C cl fp xe=>eT (i:=7) cN.nd rfl (Or.inl rfl)) (fun s H C cl fp xe=>mQ)
      (fun s H C cl fp xe hx=>fO GA hr rfl mA kA bA .nil hx (ao (pv 1) aD)))
   (aN (di (i:=5) cN.nd rfl (Or.inl rfl) (mL aD))
   (aN (di (i:=6) cN.nd rfl (Or.inl rfl) (Bg (v:=.ref aB) rfl eB rfl))
   (aN (lH Bi rfl (AY rfl B.range (ao (pv 3) aD)) (eT (i:=7) cN.nd rfl (Or.inl rfl))
     (aN (di (i:=8) cN.nd rfl (Or.inl rfl) (fO GB hr rfl mB kB bB .nil gu (ao (pv 1) (ao (pv 2) (ao (pv 6) aD)))))
     (aN (gR (lf AG E9 Fa Ft (pv 5) (ao (pv 8) aD)))
     (bg (di (i:=6) cN.nd rfl (Or.inl rfl) (qA (ao (bq (pv 8) rfl) (ao (bq (pv 8) rfl) aD))))))))
   (aN (gR (Jc (pv 1) T.cl mW GW eg bW .nil gu))
   (bg (dJ (rq J GJ eg rfl hJ bJ .nil aC (ao (pv 4) (ao (pv 5) aD))))))))))))),?_⟩
  unfold rG at k;refine⟨_,rfl,fun r dx nr nd ndr=>⟨r,dx,a,rfl,Z2j,fun H1 jQ o1=>⟨rfl,?_⟩⟩⟩;have s1:L2.Same H H1:=fun b o e=>o1 b o (by rw [aj (a9 e nr),aj (a9 e nd)];exact e) (a9 e nr)
  have S1:=s1.seq hS;obtain⟨qC,g1⟩:=id jQ;refine⟨_,rfl,r,qC,_,rfl,g1,cw _ _ (by decide) (by decide),r,a,aM,0,bs,_,rfl,jQ,S1,hM _,fj _,?_⟩
  cases e1:bX bs 0 [70,75,77,49]with
  |error e=>rw [e1]at k;exact FltS.flt k s1 nr
  |ok p =>
   rw [e1]at k;dsimp only at k;have hp:=A2 (fj _) e1;intro H2 mi o2;have s2:=Same.only s1 o2 nr;have S2:=s2.seq hS;obtain⟨eZ,g2⟩:=id mi;refine⟨_,rfl,r,eZ,_,rfl,g2,cw _ _ (by decide) (by decide),r,a,p,1,bs,_,_,rfl,mi,S2,hp,hb,?_⟩
   cases e2:aW bs p 1 0 128 with
   |error e=>rw [e2]at k;exact FltS.flt k s2 nr
   |ok n =>
    rw [e2]at k;dsimp only at k;obtain⟨q1,q2,q3,_⟩:=dA e2;intro H3 oa o3;have s3:=Same.only s2 o3 nr;have S3:=s3.seq hS;obtain⟨rY,g3⟩:=id oa;refine⟨_,rfl,r,rY,_,rfl,g3,cw _ _ (by decide) (by decide),r,a,p+1,1,bs,_,_,rfl,oa,S3,by omega,hb,?_⟩
    cases e3:aW bs (p+1) 1 0 192 with
    |error e=>rw [e3]at k;exact FltS.flt k s3 nr
    |ok m =>
     rw [e3]at k;dsimp only at k;obtain⟨m1,m2,m3,_⟩:=dA e3;intro H4 sB o4;have s4:=Same.only s3 o4 nr;obtain⟨rZ,g4⟩:=id sB;refine⟨_,rfl,n,rfl,by omega,by omega,fun al sD=>Fg (lo:=0) (n:=n.toNat) (fun i H'=>∃ (as:List Addr)(l1:List Fk.Atom),L2.Same H H'/\dW CR H' r a (p+2+6*i)/\p+2+6*i<=bs.length/\H' al=some (.lst (as.map V.ref))/\l1.length=i/\Objs (AtomAt CA) H' as l1/\r∉as/\al∉as /\
       jn bs n.toNat (p+2)=(match jn bs (n.toNat-i) (p+2+6*i)with |.error e=>.error e |.ok y=>.ok (l1++y)))
      ⟨[],[],s4.trans (RD.Same.new sD),⟨rZ,by rw [aj (a9 g4 sD)];exact g4⟩,by omega,Z2j,rfl,Objs.nil,by simp,by simp,?_⟩ ?_ ?_⟩
     ·rw [zi];show jn bs n.toNat (p+2)=_;cases jn bs n.toNat (p+2)<;>rfl
     ·rintro i H' hi ⟨as,l1,s5,kN,hq,hal5,hl1,hO,nra,naa,hk⟩;obtain⟨se,g5⟩:=id kN;have Ab:H al=none:=s4.free sD;have S5:=s5.seq hS;have hn:n.toNat-i=(n.toNat-(i+1))+1:=by omega
      rw [hn,Ij]at hk;refine⟨rfl,_,rfl,r,a,p+2+6*i,bs,rfl,kN,S5,hq,hb,?_⟩;cases e4:eQ bs (p+2+6*i)with
      |error e =>
       rw [e4]at hk;dsimp only at hk;rw [hk]at k;exact FltS.flt k s5 nr
      |ok x =>
       rw [e4]at hk;dsimp only at hk;intro H6 t sC o6 nt QZ;have s6:=Same.only s5 o6 nr;obtain⟨qD,g6⟩:=id sC;obtain⟨dt,gt⟩:=id QZ;have tP:r≠al:=az g5 hal5 (by intro z;cases z)
       have gW:H6 al=some (.lst (as.map V.ref)):=o6 _ _ hal5 tP.symm;have Cw:t≠al:=az gt gW (by intro z;cases z)
       have KS:t≠r:=fun z=>by rw [z,g5]at nt;cases nt
       refine⟨_,gW,by rw [aT,hO.1,hl1,ak];omega,as++[t],l1++[x],fun b o e=>?_,⟨qD,?_⟩,?_,?_,by simp [hl1],?_,?_,?_,?_⟩
       ·rw [aj (a9 e Ab)];exact s6 _ _ e
       ·rw [aj tP,show p+2+6*(i+1)=p+2+6*i+6 by omega];exact g6
       ·have:=(Pg e4).1;omega
       ·rw [Z2j,fL];rfl
       ·refine Objs.snoc (hO.keep fun t' x' hm ha=>ha.ref fun o e=>?_) (QZ.ref fun o e=>?_)
        ·rw [aj (fun z=>naa (by rw [<-z];exact hm))]
         exact o6 _ _ e (fun z=>nra (by rw [<-z];exact hm))
        ·rw [aj Cw];exact e
       ·rw [dy,b8];exact⟨nra,by simpa using KS.symm⟩
       ·rw [dy,b8];exact⟨naa,by simpa using Cw.symm⟩
       ·rw [hk,show p+2+6*(i+1)=p+2+6*i+6 by omega]
        cases jn bs (n.toNat-(i+1)) (p+2+6*i+6)with
        |error e=>rfl
        |ok y=>simp
     ·rintro H5 ⟨as,l1,s5,kN,hq,hal5,hl1,hO,nra,naa,hk⟩;rw [uK,Z9S]at hk;dsimp only at hk;rw [hk]at k;simp only [jY]at k;obtain⟨se,g5⟩:=id kN;have Ab:H al=none:=s4.free sD;refine⟨fj _,fun le i8=>?_⟩;have Rh:H le=none:=s5.free i8;have s6:L2.Same H (upd H5 le (.lst [])):=s5.trans (RD.Same.new i8);have LV:r≠le:=a9 g5 i8;have Qe:al≠le:=a9 hal5 i8;generalize hP:p+2+6*n.toNat=P0 at hq k kN g5;refine⟨_,rfl,m,rfl,by omega,by omega,Zbp (lo:=0) (n:=m.toNat) (fun i σ H'=>∃ (v7 v8:Option V)(b:Addr)(be:Int×Int)(l2:List Fk.Bond)(ts:List Addr),
       σ=[some (.ref a),some (.ref r),some (.int n),some (.int m),some (.ref al),some (.ref le),some (.ref b),v7,v8]/\L2.Same H H'/\dW CR H' r a (P0+4*i)/\P0+4*i<=bs.length/\H' al=some (.lst (as.map V.ref))/\Objs (AtomAt CA) H' as l1/\H' le=some (.lst (ts.map V.ref))/\Objs (BndAt CB) H' ts l2/\r∉ts/\l2.length=i /\
       SqT K H' b (([be.1,be.2]:List Int).map V.int)/\jo bs n m.toNat P0 (0,0)=(match jo bs n (m.toNat-i) (P0+4*i) be with |.error e=>.error e |.ok y=>.ok (l2++y)))
       ⟨none,none,aB,(0,0),[],[],rfl,s6,⟨se,by rw [aj LV];exact g5⟩,hq,by rw [aj Qe];exact hal5,hO.keep fun t x _ ha=>ha.ref fun o e=>by rw [aj (a9 e i8)];exact e,Z2j,Objs.nil,by simp,rfl,hB _,?_⟩ ?_ ?_⟩
      ·rw [zi];show jo bs n m.toNat P0 (0,0)=_;cases jo bs n m.toNat P0 (0,0)<;>rfl
      ·rintro i σ H' hi ⟨v7,v8,b,be,l2,ts,rfl,s7,wM,hq7,hal7,hA7,hle7,hE7,nrt,ji,hB7,hk7⟩;obtain⟨FP,g7⟩:=id wM;have S7:=s7.seq hS;have hn:m.toNat-i=(m.toNat-(i+1))+1:=by omega
       rw [hn,Io]at hk7;refine⟨_,rfl,_,rfl,_,rfl,r,a,b,P0+4*i,n,bs,be,rfl,wM,S7,hq7,hb,hB7,?_⟩;cases e4:eR bs n (P0+4*i) be with
       |error e =>
        rw [e4]at hk7;dsimp only at hk7;rw [hk7]at k;exact FltS.flt k s7 nr
       |ok x =>
        rw [e4]at hk7;dsimp only at hk7;intro H8 t hR8 o8 nt ht8;have s8:=Same.only s7 o8 nr;obtain⟨Qj,g8⟩:=id hR8;obtain⟨dt,gt⟩:=id ht8;have wV:H8 le=some (.lst (ts.map V.ref)):=o8 _ _ hle7 LV.symm;have tP:r≠al:=az g7 hal7 (by intro z;cases z)
        have J7:H8 al=some (.lst (as.map V.ref)):=o8 _ _ hal7 tP.symm;have KS:t≠r:=fun z=>by rw [z,g7]at nt;cases nt
        have zX:t≠le:=az gt wV (by intro y;cases y)
        refine⟨_,rfl,.inl ⟨rfl,_,SqL.of wV⟩,_,rfl,le,_,_,rfl,rfl,wV,(by rw [aT,hE7.1,ji];rw [ak];omega),?_⟩
        have Q0:upd H8 le (.lst (ts.map V.ref++[.ref t])) t=some (.ins CB dt (bf x.a x.b (x.order:Int) (x.side:Int))):=by rw [aj zX];exact gt
        refine⟨_,rfl,t,CB,dt,_,_,rfl,Q0,TB.cl,TB.na,lK _ _ _ _,_,rfl,t,CB,dt,_,_,rfl,Q0,TB.cl,TB.nb,lL _ _ _ _,(by show 2<=sizeLine;decide),fun u hu=>?_⟩
        have s9:L2.Same H (upd H8 le (.lst (ts.map V.ref++[.ref t]))):=fun b' o e=>by rw [aj (a9 e Rh)];exact s8 _ _ e
        have r9:upd H8 le (.lst (ts.map V.ref++[.ref t])) r=some (.ins CR Qj (rf a ((P0+4*i+4:Nat):Int))):=by rw [aj LV];exact g8
        have k9:∀ {b':Addr}{o:HO},H8 b'=some o->b'≠le->upd (upd H8 le (.lst (ts.map V.ref++[.ref t]))) u (.tup [.int (x.a:Int),.int (x.b:Int)]) b'=some o:=fun{b' o} e z=>by
         have e9:upd H8 le (.lst (ts.map V.ref++[.ref t])) b'=some o:=by rw [aj z];exact e
         rw [aj (a9 e9 hu)];exact e9
        refine⟨_,_,u,((x.a:Int),(x.b:Int)),l2++[x],ts++[t],rfl,s9.trans (RD.Same.new hu),⟨Qj,?_⟩,?_,k9 J7 Qe,?_,?_,?_,?_,by simp [ji],SqT.of Z2j,?_⟩
        ·rw [aj (a9 r9 hu),show P0+4*(i+1)=P0+4*i+4 by omega];exact r9
        ·have:=(Pj e4).1;omega
        ·exact hA7.keep fun t' x' hm ha=>by
          obtain⟨d',e'⟩:=ha;exact⟨d',k9 (o8 _ _ e' (fun z=>nra (by rw [<-z];exact hm))) (az e' hle7 (by intro y;cases y))⟩
        ·rw [aj (a9 Z2j hu),Z2j,fL];rfl
        ·refine Objs.snoc (hE7.keep fun t' x' hm ha=>?_) ⟨dt,k9 gt zX⟩;obtain⟨d',e'⟩:=ha;exact⟨d',k9 (o8 _ _ e' (fun z=>nrt (by rw [<-z];exact hm))) (az e' hle7 (by intro y;cases y))⟩
        ·rw [dy,b8];exact⟨nrt,by simpa using KS.symm⟩
        ·rw [hk7,show P0+4*(i+1)=P0+4*i+4 by omega]
         cases jo bs n (m.toNat-(i+1)) (P0+4*i+4) ((x.a:Int),(x.b:Int))with
         |error e=>rfl
         |ok y=>simp
      ·rintro σ H' ⟨v7,v8,b,be,l2,ts,rfl,s7,wM,hq7,hal7,hA7,hle7,hE7,nrt,ji,hB7,hk7⟩;rw [uK,Z9R]at hk7;dsimp only at hk7;rw [hk7]at k;simp only [jY]at k;obtain⟨FP,g7⟩:=id wM;refine⟨_,rfl,r,FP,_,rfl,g7,cw _ _ (by decide) (by decide),r,a,P0+4*m.toNat,bs,rfl,wM,s7.seq hS,hq7,fun hqe H8 s8=>?_,fun cc=>?_⟩
       ·rw [ac (by omega)]at k
        refine⟨_,rfl,_,rfl,fun u ud nu nd Re=>⟨u,ud,al,le,rfl,Z2j,fun H9 hM9 o9=>⟨rfl,?_⟩⟩⟩;have s9:L2.Same H8 H9:=fun b' o e=>o9 _ _ (by rw [aj (a9 e nu),aj (a9 e nd)];exact e) (a9 e nu)
        have DM:L2.Same H' H9:=s8.trans s9;exact k H9 u al le as ts (s7.trans DM) Ab Rh ⟨⟨ud,hM9⟩,DM _ _ hal7,hA7.keep fun t x _ ha=>ha.ref fun o e=>DM _ _ e,DM _ _ hle7,hE7.keep fun t x _ ha=>ha.ref fun o e=>DM _ _ e⟩
       ·rw [ae cc]at k;exact FltS.flt k s7 nr
end
end BK
end
section
namespace BK
open Fk
def jO:List Bond->List Nat->Nat->Nat
 |x::L,o::l,v=>(if x.at_ v=true then o else 0)+jO L l v
 |_,_,_=>0
theorem A8(l:List Nat)(v:Nat):jO [] l v=0:=by cases l<;>rfl
theorem zv(x:Bond)(L:List Bond)(o:Nat)(l:List Nat)(v:Nat):jO (x::L) (o::l) v=(if x.at_ v=true then o else 0)+jO L l v:=rfl
theorem OF:∀ (L:List Bond)(l:List Nat)(v:Nat),l.length=L.length->(∀ o∈l,1<=o/\o<=3)->(L.filter fun x=>x.at_ v).length<=jO L l v/\jO L l v<=3*(L.filter fun x=>x.at_ v).length
 |[],l,v,_,_=>by rw [A8];simp
 |x::L,[],v,h,_=>by simp at h
 |x::L,o::l,v,h,hb=>by
  have ih:=OF L l v (by simpa using h) fun o' ho=>hb o' (dj _ ho)
  have ho:=hb o (cY ..);rw [zv];by_cases q:x.at_ v=true
  ·rw [zg (p:=fun x:Bond=>x.at_ v) q,ae q,gB];omega
  ·rw [zh (p:=fun x:Bond=>x.at_ v) q,ac q];omega
theorem HZ(l:List Nat)(v n i:Nat):(addTo l v n).getD i 0=if i<l.length then(if i=v then l.getD i 0+n else l.getD i 0)else 0:=by
 unfold addTo;rw [jM,dP,List.getElem?_zipIdx];by_cases h:i<l.length
 ·rw [ae h,du h];simp only [ze,Fb,Nat.zero_add];rw [jM,du h];rfl
 ·rw [ac h,zj.mpr (by omega)]
  rfl
theorem Hz(l:List Nat)(v n:Nat):(addTo l v n).length=l.length:=by
 unfold addTo;rw [aT,List.length_zipIdx]
theorem ZbN{l:List Nat}{x:Bond}{o:Nat}(ha:x.a<l.length)(hb:x.b<l.length)(hn:x.a≠x.b)(v:Nat):(addTo (addTo l x.a o) x.b o).getD v 0=l.getD v 0+if x.at_ v=true then o else 0:=by
 rw [HZ,Hz];have FU:x.at_ v=true↔v=x.a\/v=x.b:=by
  unfold Bond.at_;rw [Bool.or_eq_true,aG,aG];exact⟨fun h=>h.imp Eq.symm Eq.symm,fun h=>h.imp Eq.symm Eq.symm⟩
 by_cases hv:v<l.length
 ·rw [ae hv];by_cases q2:v=x.b
  ·rw [ae q2,HZ,ae hv,ac (by omega),ae (FU.mpr (.inr q2))]
  ·rw [ac q2,HZ,ae hv];by_cases q1:v=x.a
   ·rw [ae q1,ae (FU.mpr (.inl q1))]
   ·rw [ac q1,ac (fun h=>(FU.mp h).elim q1 q2)];rfl
 ·rw [ac hv,ac (fun h=>(FU.mp h).elim (by omega) (by omega)),jM,zj.mpr (by omega)]
  rfl
theorem Zbb{l m:List Nat}(h:l.length=m.length)(k:∀ v,l.getD v 0=m.getD v 0):l=m:=by
 apply List.ext_getElem h;intro i h1 h2;have:=k i;rw [jM,jM,du h1,du h2]at this;exact this
theorem Ia(gm:List Nat):∀ (L:List Bond)(ba l:List Nat),ba.length=gm.length->(∀ x∈L,x.a<gm.length/\x.b<gm.length/\x.a≠x.b) ->
  (l∈ordersFor gm L ba↔l.length=L.length/\(∀ o∈l,1<=o/\o<=3)/\∀ v,ba.getD v 0+jO L l v=gm.getD v 0)
 |[],ba,l,hl,_=>by
  unfold ordersFor;constructor
  ·intro h;split at h
   ·rename_i q;have q:=aG.mp q;have h:=dq.mp h;subst h q;exact⟨rfl,fun o ho=>by simp at ho,fun v=>by rw [A8];rfl⟩
   ·simp at h
  ·rintro⟨h1,_,h3⟩;have:l=[]:=E7 h1;subst this;have:ba=gm:=Zbb hl fun v=>by have:=h3 v;rw [A8]at this;exact this
   rw [ae (aG.mpr this)];exact dq.mpr rfl
 |x::L,ba,l,hl,hw=>by
  have hx:=hw x (cY ..);have hL:∀ y∈L,y.a<gm.length/\y.b<gm.length/\y.a≠y.b:=fun y hy=>hw y (dj _ hy);have q2:∀ o,(addTo (addTo ba x.a o) x.b o).length=gm.length:=fun o=>by rw [Hz,Hz,hl]
  have gd:∀ o v,(addTo (addTo ba x.a o) x.b o).getD v 0=ba.getD v 0+if x.at_ v=true then o else 0:=fun o v=>ZbN (by rw [hl];exact hx.1) (by rw [hl];exact hx.2.1) hx.2.2 v
  unfold ordersFor;rw [List.mem_flatMap];constructor
  ·rintro⟨o,ho,h⟩;dsimp only at h;split at h
   ·obtain⟨r,hr,rfl⟩:=i3.mp h;obtain⟨h1,h2,h3⟩:=(Ia gm L _ r (q2 o) hL).mp hr;refine⟨by rw [gB,gB,h1],fun o' kR=>?_,fun v=>?_⟩
    ·rcases bv.mp kR with rfl |kR
     ·simp at ho;omega
     ·exact h2 o' kR
    ·rw [zv,<-h3 v,gd o v];omega
   ·simp at h
  ·rintro⟨h1,h2,h3⟩;cases l with
   |nil=>simp at h1
   |cons o r =>
    have ho:=h2 o (cY ..);have eg:∀ o'∈r,1<=o'/\o'<=3:=fun o' h=>h2 o' (dj _ h);have iJ:r.length=L.length:=by simpa using h1
    have QA:∀ v,(addTo (addTo ba x.a o) x.b o).getD v 0+jO L r v=gm.getD v 0:=fun v=>by
     rw [gd o v,<-h3 v,zv];omega
    have Qh:∀ v,canStill (addTo (addTo ba x.a o) x.b o) gm L v=true:=fun v=>by
     unfold canStill;have:=OF L r v iJ eg;have:=QA v;rw [iZ,ag,ag];omega
    refine⟨o,by simp;omega,?_⟩
    dsimp only;rw [ae (by rw [Qh,Qh];rfl)]
    exact i3.mpr ⟨r,(Ia gm L _ r (q2 o) hL).mpr ⟨iJ,eg,QA⟩,rfl⟩
theorem ZbC(l:List Nat)(a:Nat):l.foldl (· + ·) a=a+l.foldl (· + ·) 0:=by
 induction l generalizing a with
 |nil=>rfl
 |cons x l ih=>rw [AJ,AJ,ih (a+x),ih (0+x)];omega
theorem ue(L:List Bond)(v:Nat):((L.filter fun x=>x.at_ v).map Bond.order).foldl (· + ·) 0=jO L (L.map Bond.order) v:=by
 induction L with
 |nil=>rfl
 |cons x L ih =>
  rw [ei,zv];by_cases q:x.at_ v=true
  ·rw [zg (p:=fun x:Bond=>x.at_ v) q,ei,AJ,ZbC,ih,ae q];omega
  ·rw [zh (p:=fun x:Bond=>x.at_ v) q,ih,ac q];omega
def i4:Bond:=⟨0,1,1,0⟩
def GM(M:Mol):MX.Gr:=⟨M.atoms.length,M.bonds.length,fun e=>⟨(M.bonds.getD e i4).a,(M.bonds.getD e i4).b,((M.bonds.getD e i4).order:Int)⟩⟩
theorem iA{M:Mol}{e:Nat}{x:Bond}(h:M.bonds[e]?=some x):(GM M).bd e=⟨x.a,x.b,(x.order:Int)⟩:=by
 show(⟨(M.bonds.getD e i4).a,(M.bonds.getD e i4).b,((M.bonds.getD e i4).order:Int)⟩:MX.Bd)=_;rw [jM,h];rfl
theorem uy{M:Mol}(w:Wf M):(GM M).Ok:=by
 have key:∀ e,e<M.bonds.length->∃ x,M.bonds[e]?=some x/\AA M.atoms.length x:=fun e he=>⟨M.bonds[e],du he,w.bd _ (AH he)⟩;refine⟨fun e he=>?_,fun e he=>?_,fun e he=>?_,fun e he=>?_⟩<;>obtain⟨x,hx,wx⟩:=key e he<;>rw [iA hx]
 ·exact eF wx.ab
 ·exact qu wx.ab wx.bn
 ·exact wx.bn
 ·have:=wx.od;dsimp only;omega
theorem pV(m:Nat)(f:Nat->Int):MX.sm (m+1) f=f 0+MX.sm m fun i=>f (i+1):=by
 induction m with
 |zero=>show 0+f 0=f 0+0;omega
 |succ m ih =>
  show MX.sm (m+1) f+f (m+1)=f 0+(MX.sm m (fun i=>f (i+1))+f (m+1));rw [ih];omega
theorem xA{x:Bond}{v:Nat}{o:Int}(h:x.a≠x.b):MX.inc ⟨x.a,x.b,o⟩ v=if x.at_ v=true then 1 else 0:=by
 unfold MX.inc Bond.at_;dsimp only;by_cases q1:v=x.a
 ·rw [ae q1,ac (by omega),ae (by simp [q1])];rfl
 ·by_cases q2:v=x.b
  ·rw [ac q1,ae q2,ae (by simp [q2])];rfl
  ·rw [ac q1,ac q2,ac (by simp;omega)];rfl
theorem Jj:∀ (L:List Bond)(l:List Nat)(v:Nat),l.length=L.length->(∀ x∈L,x.a≠x.b) ->
  MX.sm L.length (fun e=>MX.inc ⟨(L.getD e i4).a,(L.getD e i4).b,((L.getD e i4).order:Int)⟩ v*(((l.getD e 0:Nat):Int)))=(jO L l v:Int)
 |[],l,v,_,_=>by rw [A8];rfl
 |x::L,[],v,h,_=>by simp at h
 |x::L,o::l,v,h,hn=>by
  rw [gB,pV,zv];have ih:=Jj L l v (by simpa using h) fun y hy=>hn y (dj _ hy)
  have e0:MX.inc ⟨((x::L).getD 0 i4).a,((x::L).getD 0 i4).b,(((x::L).getD 0 i4).order:Int)⟩ v=if x.at_ v=true then 1 else 0:=xA (hn x (cY ..));have e1:(fun i=>MX.inc ⟨((x::L).getD (i+1) i4).a,((x::L).getD (i+1) i4).b,(((x::L).getD (i+1) i4).order:Int)⟩ v*((((o::l).getD (i+1) 0:Nat):Int)))=fun e=>MX.inc ⟨(L.getD e i4).a,(L.getD e i4).b,((L.getD e i4).order:Int)⟩ v*(((l.getD e 0:Nat):Int)):=rfl;rw [e1,ih,e0];show(if x.at_ v=true then(1:Int)else 0)*(o:Int)+_=_;split<;>push_cast<;>omega
theorem pU(n:Nat)(f g:Nat->Int):MX.sm n (fun i=>f i-g i)=MX.sm n f-MX.sm n g:=by
 induction n with
 |zero=>rfl
 |succ n ih =>
  show MX.sm n (fun i=>f i-g i)+(f n-g n)=(MX.sm n f+f n)-(MX.sm n g+g n);rw [ih];omega
theorem rQ{L:List Bond}{v n:Nat}(h:∀ x∈L,x.a<n/\x.b<n)(hv:n<=v):∀ l,jO L l v=0:=by
 induction L with
 |nil=>exact fun l=>A8 l v
 |cons x L ih =>
  intro l;cases l with
  |nil=>rfl
  |cons o l =>
   have hx:=h x (cY ..);rw [zv,ih (fun y hy=>h y (dj _ hy)) l,ac];unfold Bond.at_;simp;omega
theorem Be{M:Mol}(w:Wf M)(l:List Nat):l∈ordersFor M.sums M.bonds (M.sums.map fun _=>0)↔l.length=M.bonds.length/\(∀ o∈l,1<=o/\o<=3)/\∀ v,v<M.atoms.length->jO M.bonds l v=jO M.bonds M.orders v:=by
 have sl:M.sums.length=M.atoms.length:=by unfold Mol.sums Mol.n;rw [aT,rg]
 have hb:∀ x∈M.bonds,x.a<M.atoms.length/\x.b<M.atoms.length:=fun x hx=>let h:=w.bd x hx;⟨qu h.ab h.bn,h.bn⟩;have zl:∀ v,(M.sums.map fun _=>0).getD v 0=0:=fun v=>by
  rw [jM,dP];cases M.sums[v]?<;>rfl
 have sg:∀ v,M.sums.getD v 0=if v<M.atoms.length then jO M.bonds M.orders v else 0:=fun v=>by
  unfold Mol.sums Mol.n;rw [jM,dP];by_cases q:v<M.atoms.length
  ·rw [ae q,du (by rw [rg];exact q),AI]
   show M.sum v=_;unfold Mol.sum Mol.orders;exact ue M.bonds v
  ·rw [ac q,zj.mpr (by rw [rg];omega)];rfl
 rw [Ia M.sums M.bonds _ l (by rw [aT]) fun x hx=>⟨by rw [sl];exact(hb x hx).1,by rw [sl];exact(hb x hx).2,eF (w.bd x hx).ab⟩]
 refine rJ fun _=>rJ fun _=>⟨fun h v hv=>?_,fun h v=>?_⟩
 ·have:=h v;rw [zl,sg,ae hv]at this;omega
 ·rw [zl,sg];by_cases q:v<M.atoms.length
  ·rw [ae q,h v q];omega
  ·rw [ac q,rQ hb (by omega)]
theorem AW{M:Mol}{e:Nat}{x:Bond}(h:M.bonds[e]?=some x):M.orders.getD e 0=x.order:=by
 unfold Mol.orders;rw [jM,dP,h];rfl
theorem O5{M:Mol}(w:Wf M){l:List Nat}(hl:l.length=M.bonds.length)(v:Nat):(GM M).bdr (fun e=>((l.getD e 0:Nat):Int)-((M.orders.getD e 0:Nat):Int)) v=(jO M.bonds l v:Int)-(jO M.bonds M.orders v:Int):=by
 have hn:∀ x∈M.bonds,x.a≠x.b:=fun x hx=>eF (w.bd x hx).ab;rw [<-Jj M.bonds l v hl hn,<-Jj M.bonds M.orders v (by unfold Mol.orders;rw [aT]) hn,<-pU]
 show MX.sm M.bonds.length _=_;refine MX.Z4V fun i hi=>?_;show MX.inc _ v*_=MX.inc _ v*_-MX.inc _ v*_;rw [Int.mul_sub];rfl
theorem tQ{M:Mol}(w:Wf M){l:List Nat}(h:l∈ordersFor M.sums M.bonds (M.sums.map fun _=>0)):(GM M).Chg fun e=>((l.getD e 0:Nat):Int)-((M.orders.getD e 0:Nat):Int):=by
 obtain⟨h1,h2,h3⟩:=(Be w l).mp h;have key:∀ e,e<M.bonds.length->∃ x,M.bonds[e]?=some x/\1<=l.getD e 0/\l.getD e 0<=3:=fun e he=>by
  refine⟨M.bonds[e],du he,?_⟩;have le:e<l.length:=by omega
  rw [jM,du le];exact h2 _ (AH le)
 refine⟨fun e he=>?_,fun e he=>?_,fun v hv=>?_⟩
 ·obtain⟨x,hx,a,b⟩:=key e he;rw [iA hx,AW hx];dsimp only;omega
 ·obtain⟨x,hx,a,b⟩:=key e he;rw [iA hx,AW hx];dsimp only;omega
 ·rw [O5 w h1,h3 v hv];omega
theorem rR{M:Mol}(w:Wf M){δ:Nat->Int}(h:(GM M).Chg δ):∃ l,l∈ordersFor M.sums M.bonds (M.sums.map fun _=>0)/\∀ e,e<M.bonds.length->((l.getD e 0:Nat):Int)=((M.orders.getD e 0:Nat):Int)+δ e:=by
 have key:∀ e,e<M.bonds.length->1<=((M.orders.getD e 0:Nat):Int)+δ e/\((M.orders.getD e 0:Nat):Int)+δ e<=3:=fun e he=>by
  have hx:M.bonds[e]?=some M.bonds[e]:=du he;have a:=h.up e he;have b:=h.dn e he;rw [iA hx]at a b;rw [AW hx];dsimp only at a b;omega
 have gl:∀ e,e<M.bonds.length->(((((List.range M.bonds.length).map fun e=>(((M.orders.getD e 0:Nat):Int)+δ e).toNat)).getD e 0:Nat):Int)=((M.orders.getD e 0:Nat):Int)+δ e:=fun e he=>by
  rw [jM,dP,du (by rw [rg];exact he),AI]
  show(((((M.orders.getD e 0:Nat):Int)+δ e).toNat:Nat):Int)=_;have:=key e he;omega
 have ll:((List.range M.bonds.length).map fun e=>(((M.orders.getD e 0:Nat):Int)+δ e).toNat).length=M.bonds.length:=by rw [aT,rg]
 refine⟨_,(Be w _).mpr ⟨ll,fun o ho=>?_,fun v hv=>?_⟩,gl⟩
 ·obtain⟨e,he,rfl⟩:=i3.mp ho;have:=key e (AL.mp he);omega
 ·have e1:=O5 w ll v;have e2:=h.sum v hv;have e3:(GM M).bdr (fun e=>(((((List.range M.bonds.length).map fun e=>(((M.orders.getD e 0:Nat):Int)+δ e).toNat)).getD e 0:Nat):Int)-((M.orders.getD e 0:Nat):Int)) v=(GM M).bdr δ v:=MX.Z4V fun i hi=>by
   have:=gl i hi;dsimp only;rw [show(((((List.range M.bonds.length).map fun e=>(((M.orders.getD e 0:Nat):Int)+δ e).toNat)).getD i 0:Nat):Int)-((M.orders.getD i 0:Nat):Int)=δ i by omega]
  rw [e3,e2]at e1;omega
theorem NE{M:Mol}{l:List Nat}(h:l.length=M.bonds.length):(M.ordered l).orders=l:=by
 unfold Mol.ordered Mol.orders;dsimp only;rw [jL];have:(Bond.order ∘ fun x:Bond×Nat=>({ x.1 with order:=x.2 }:Bond))=Prod.snd:=rfl
 rw [this,List.map_snd_zip (by omega)]
theorem Zbl{M:Mol}(w:Wf M){k:Nat}{x:Bond}(hk:M.bonds[k]?=some x):(M.fixedAt k==2)=true↔x.order=2/\∀ δ,(GM M).Chg δ->δ k=0:=by
 have km:=(ee.mp hk).1;have e1:M.fixedAt k=if ((M.redrawings.map Mol.orders).all fun(r:List Nat)=>r[k]?==some x.order)=true then x.order else 0:=by
  unfold Mol.fixedAt Mol.fixed;dsimp only;rw [jM,dP,List.getElem?_zipIdx,hk];simp only [ze,Fb,Nat.zero_add]
 have e2:((M.redrawings.map Mol.orders).all fun(r:List Nat)=>r[k]?==some x.order)=true↔∀ l∈ordersFor M.sums M.bonds (M.sums.map fun _=>0),l[k]?=some x.order:=by
  rw [uJ];unfold Mol.redrawings;constructor
  ·intro h l hl;have:=h l (i3.mpr ⟨M.ordered l,i3.mpr ⟨l,hl,rfl⟩,NE ((Be w l).mp hl).1⟩);exact aG.mp this
  ·intro h r hr;obtain⟨m,hm,rfl⟩:=i3.mp hr;obtain⟨l,hl,rfl⟩:=i3.mp hm;rw [NE ((Be w l).mp hl).1];exact aG.mpr (h l hl)
 have e3:(∀ l∈ordersFor M.sums M.bonds (M.sums.map fun _=>0),l[k]?=some x.order)↔∀ δ,(GM M).Chg δ->δ k=0:=by
  constructor
  ·intro h δ hδ;obtain⟨l,hl,hg⟩:=rR w hδ;have a:=h l hl;have b:=hg k km;rw [jM,a,AW hk]at b;simp only [Fb]at b;omega
  ·intro h l hl;have a:=h _ (tQ w hl);rw [AW hk]at a;have le:k<l.length:=by rw [((Be w l).mp hl).1];exact km
   rw [jM,du le]at a;simp only [Fb]at a;rw [du le];congr 1;omega
 have ox:=(w.bd x (gK hk)).od;rw [aG,e1,<-e3,<-e2];constructor
 ·intro h;split at h
  ·rename_i q;exact⟨h,q⟩
  ·omega
 ·rintro⟨h,q⟩;rw [ae q];exact h
def jP(M:Mol)(v:Nat):Nat:=(M.bonds.filter fun x=>x.at_ v).length
theorem IU(n:Nat)(p:Nat->Bool):((List.range n).filter p).length=MX.cnt n fun w=>p w=true:=by
 induction n with
 |zero=>rfl
 |succ n ih =>
  have e:MX.cnt (n+1) (fun w=>p w=true)=MX.cnt n (fun w=>p w=true)+(if p n=true then 1 else 0):=by
   rw [MX.cnt];split<;>rfl
  rw [List.range_succ,List.filter_append,gC,ih,e];by_cases q:p n=true
  ·rw [zg q,ae q];rfl
  ·rw [zh q,ac q];rfl
theorem rH{x:Bond}{v w:Nat}:x.joins v w=true↔(x.a=v/\x.b=w)\/(x.a=w/\x.b=v):=by
 unfold Bond.joins;simp
theorem FN{x:Bond}{v:Nat}:x.at_ v=true↔x.a=v\/x.b=v:=by
 unfold Bond.at_;simp
theorem wj{L:List Bond}{v w:Nat}:(L.find? fun x=>x.joins v w).isSome=true↔∃ x∈L,x.joins v w=true:=by
 rw [List.find?_isSome]
theorem wD(n:Nat):MX.cnt n (fun _=>False)=0:=by
 induction n with
 |zero=>rfl
 |succ n ih=>unfold MX.cnt;rw [ih,ac (fun h=>h)]
theorem PZ{n v:Nat}:∀ {L:List Bond},(∀ x∈L,AA n x)->L.Pairwise Am->MX.cnt n (fun w=>(L.find? fun x=>x.joins v w).isSome=true)=(L.filter fun x=>x.at_ v).length
 |[],_,_=>by
  rw [MX.Z4H (q:=fun _=>False) fun x _=>by simp]
  exact wD n
 |x::L,h,hp=>by
  have hL:=fun y hy=>h y (dj _ hy);have ih:=PZ (v:=v) hL (AF.mp hp).2;have wx:=h x (cY ..);by_cases q:x.at_ v=true
  ·rw [zg (p:=fun x:Bond=>x.at_ v) q,gB,<-ih];have hv:=FN.mp q;have ab:=wx.ab;have bn:=wx.bn;obtain⟨w0,hw0,hj,uniq⟩:∃ w0,w0<n/\x.joins v w0=true/\∀ w,x.joins v w=true->w=w0:=by
    rcases hv with hv |hv
    ·exact⟨x.b,bn,rH.mpr (.inl ⟨hv,rfl⟩),fun w hw=>by rcases rH.mp hw with⟨_,z⟩ |⟨_,z⟩<;>omega⟩
    ·exact⟨x.a,by omega,rH.mpr (.inr ⟨rfl,hv⟩),fun w hw=>by rcases rH.mp hw with⟨_,z⟩ |⟨z,_⟩<;>omega⟩
   refine MX.Z8J hw0 (wj.mpr ⟨x,cY ..,hj⟩) fun w=>?_;rw [wj,wj];constructor
   ·rintro⟨y,hy,hyj⟩;refine⟨⟨y,dj _ hy,hyj⟩,fun z=>?_⟩;subst z;have wy:=hL y hy;have yb:=wy.ab;have bel:=(AF.mp hp).1 y hy;unfold Am at bel;rcases rH.mp hyj with⟨a,b⟩ |⟨a,b⟩<;>rcases rH.mp hj with⟨c,d⟩ |⟨c,d⟩<;>omega
   ·rintro⟨⟨y,hy,hyj⟩,bQ⟩;rcases bv.mp hy with rfl |hy
    ·exact absurd (uniq w hyj) bQ
    ·exact⟨y,hy,hyj⟩
  ·rw [zh (p:=fun x:Bond=>x.at_ v) q,<-ih];refine MX.Z4H fun w _=>?_;rw [wj,wj];constructor
   ·rintro⟨y,hy,hyj⟩;rcases bv.mp hy with rfl |hy
    ·refine absurd (FN.mpr ?_) q;rcases rH.mp hyj with⟨a,b⟩ |⟨a,b⟩
     ·exact .inl a
     ·exact .inr b
    ·exact⟨y,hy,hyj⟩
   ·rintro⟨y,hy,hyj⟩;exact⟨y,dj _ hy,hyj⟩
theorem Od{M:Mol}(w:Wf M)(v:Nat):(M.beside v).length=jP M v:=by
 unfold Mol.beside Mol.n;rw [IU];exact PZ w.bd w.rs
theorem Z9O{M:Mol}(w:Wf M){v u:Nat}(hu:u<M.atoms.length)(hj:M.joined v u=true):(M.besides v u).length+1=jP M v:=by
 rw [<-Od w v];unfold Mol.besides Mol.beside Mol.n;rw [List.filter_filter,IU,IU];refine(MX.Z8J hu hj fun x=>?_).symm;rw [iZ,gT,and_comm]
def dE(M:Mol)(v:Nat):Prop:=(1:Int)<=(jP M v:Int)-1/\(jP M v:Int)-1+((M.atom v).hydrogens:Int)<=2
theorem NY{M:Mol}(w:Wf M){v u:Nat}(hu:u<M.atoms.length)(hj:M.joined v u=true):M.endMay v u=true↔dE M v:=by
 have:=Z9O w hu hj;unfold Mol.endMay dE;rw [iZ,ag,ag];omega
theorem Zbw{M:Mol}(w:Wf M){k:Nat}{x:Bond}(hk:M.bonds[k]?=some x):M.sided k=true↔x.order=2/\dE M x.a/\dE M x.b/\∀ δ,(GM M).Chg δ->δ k=0:=by
 have wx:=w.bd x (gK hk);have hx:=gK hk;have j1:M.joined x.a x.b=true:=wj.mpr ⟨x,hx,rH.mpr (.inl ⟨rfl,rfl⟩)⟩;have j2:M.joined x.b x.a=true:=wj.mpr ⟨x,hx,rH.mpr (.inr ⟨rfl,rfl⟩)⟩;unfold Mol.sided;rw [hk];dsimp only;rw [iZ,iZ,Zbl w hk,NY w wx.bn j1,NY w (qu wx.ab wx.bn) j2];constructor
 ·rintro⟨⟨a,b⟩,c,d⟩;exact⟨a,c,d,b⟩
 ·rintro⟨a,c,d,b⟩;exact⟨⟨a,b⟩,c,d⟩
theorem ZbI{M:Mol}(w:Wf M)(v:Nat):M.handed v=(decide (3<=jP M v)&&(decide ((M.atom v).hydrogens<=1)&&decide (jP M v+(M.atom v).hydrogens<=4))):=by
 unfold Mol.handed;rw [Od w v]
end BK
end
section
namespace BK
open PySem PySem.Spec PyProof.Rows L2 EX RD LM
def cV(n:Nat)(c:Nat->Int):List V:=(List.range n).map fun v=>.int (c v)
theorem vZ(n:Nat)(c:Nat->Int):(cV n c).length=n:=by unfold cV;rw [aT,rg]
theorem zE{n v:Nat}(c:Nat->Int)(h:v<n):(cV n c)[v]?=some (.int (c v)):=by
 unfold cV;rw [dP,du (by rw [rg];exact h),AI];rfl
theorem nE(n a:Nat)(c:Nat->Int)(y:Int):(cV n c).set a (.int y)=cV n fun v=>if v=a then y else c v:=by
 apply List.ext_getElem?;intro i;rw [List.getElem?_set];by_cases hi:i<n
 ·rw [zE _ hi,zE _ hi,vZ];by_cases q:a=i
  ·subst q;rw [ae rfl,ae hi,ae rfl]
  ·rw [ac q,ac (Ne.symm q)]
 ·have e1:(cV n c)[i]?=none:=zj.mpr (by rw [vZ];omega)
  have e2:(cV n fun v=>if v=a then y else c v)[i]?=none:=zj.mpr (by rw [vZ];omega)
  rw [e1,e2,vZ];split
  ·split
   ·omega
   ·rfl
  ·rfl
theorem Ox{n:Nat}{c d:Nat->Int}(h:∀ v,v<n->c v=d v):cV n c=cV n d:=by
 unfold cV;exact qY fun v hv=>by rw [h v (AL.mp hv)]
def dg(M:Fk.Mol)(i v:Nat):Int:=(((M.bonds.take i).filter fun x=>x.at_ v).length:Int)
theorem rX{M:Fk.Mol}{i:Nat}{x:Fk.Bond}(h:M.bonds[i]?=some x)(hn:x.a≠x.b)(v:Nat):dg M (i+1) v=(if v=x.b then(if v=x.a then dg M i v+1 else dg M i v)+1 else(if v=x.a then dg M i v+1 else dg M i v)):=by
 unfold dg;rw [mJ,h,List.filter_append,gC];show(((_:Nat)+((([x]:List Fk.Bond).filter fun x=>x.at_ v).length):Nat):Int)=_;by_cases q:x.at_ v=true
 ·rw [zg (p:=fun x:Fk.Bond=>x.at_ v) q];rcases FN.mp q with z |z
  ·rw [ac (by omega),ae z.symm];simp
  ·rw [ae z.symm,ac (by omega)];simp
 ·rw [zh (p:=fun x:Fk.Bond=>x.at_ v) q];have:=fun z=>q (FN.mpr z);rw [ac (fun z=>this (.inr z.symm)),ac (fun z=>this (.inl z.symm))];simp
theorem P3{M:Fk.Mol}{i:Nat}{x:Fk.Atom}(h:M.atoms[i]?=some x):M.atom i=x:=by
 unfold Fk.Mol.atom;rw [jM,h];rfl
section
variable{P:Program}{w:World}{K:aq}{mg:Str->Option Value}{base:Heap}{CF CR fF CA CB CM:Addr}
def D9(CA CB CM:Addr):Sp:=fun vs H Q _=>∃ (mr al bl:Addr)(as ds:List Addr)(M:Fk.Mol),vs=[.ref mr]/\MolAt CM CA CB H mr al bl as ds M/\Wf M/\∀ H' cl,Same H H'->H' cl=some (.lst (cV M.atoms.length fun v=>(jP M v:Int)))->Q (.ref cl) H'
theorem tU:cU ["molecule","counts","bond","atom"] ["molecule"] (bj AS):=⟨rfl,rfl,rfl,by decide +kernel,rfl,by decide +kernel,by decide +kernel⟩
theorem Bq:cX ["molecule","counts","bond","atom"] (bj AS) (I0 (eP AS)) [("atom",3)]:=⟨rfl,by decide +kernel,by decide +kernel,by decide +kernel,by decide +kernel⟩
theorem LG{f:Addr}{fd:FuncData}(F:Fun K "neighbour_counts" "neighbour_counts" AS f fd)(TM:uF K CM)(TB:uD K CB):am P w K mg base CX0 1 f fd ["molecule"] (D9 CA CB CM):=by
 refine F.ok tU (fun vs H Q E h=>?_) (fun bp A outer s H vs Q E hr h=>?_)
 ·obtain⟨mr,al,bl,as,ds,M,rfl,_⟩:=h;rfl
 ·obtain⟨mr,al,bl,as,ds,M,rfl,mo,wf,k⟩:=h;refine⟨_,aN (Pa (i:=1) rfl tU.nd rfl rfl (Bb rfl rfl rfl rfl) (qx (bq (pv 0) rfl)) Bq (fun s H C cl fp=>eT (i:=3) tU.nd rfl (Or.inl rfl)) (fun s H C cl fp=>mQ) (fun s H C cl fp=>bx))
   (aN (lH PassesOwn.never rfl (qx (bq (pv 0) rfl)) (eT (i:=2) tU.nd rfl (Or.inl rfl))
     (aN (PB (pv 1) (bq (pv 2) rfl) O4 bx ou Jg) (bg (PB (pv 1) (bq (pv 2) rfl) O4 bx ou Jg))))
   (bg (dJ (pv 1)))),?_⟩
  obtain⟨dm,hm⟩:=mo.top;have la:as.length=M.atoms.length:=mo.ats.1;have wn:=wf.n;refine⟨_,rfl,mr,CM,dm,_,_,rfl,hm,TM.cl,TM.na,vX _ _,al,rfl,⟨_,SqL.of mo.atl⟩,fun cl oh=>zt (K:=K) (a:=al) (xs:=as.map V.ref) (fun i H2=>L2.Same H H2/\H2 cl=some (.lst (cV i fun _=>0))) ⟨RD.Same.new oh,Z2j⟩ (fun i H2 _ h=>SqL.of (h.1 _ _ mo.atl)) ?_ ?_⟩
  ·rintro i y H2 hi ⟨s2,h2⟩;have li:i<(as.map V.ref).length:=(ee.mp hi).1;rw [aT]at li;refine⟨rfl,_,h2,by rw [vZ,ak];omega,fun b o e=>?_,?_⟩
   ·rw [aj (fun z=>by rw [z,oh]at e;cases e)];exact s2 _ _ e
   ·rw [Z2j];unfold cV;rw [List.range_succ,fL];rfl
  ·rintro H2 ⟨s2,h2⟩;rw [aT,la]at h2;have lR:=mo.same s2;refine⟨_,rfl,mr,CM,dm,_,_,rfl,s2 _ _ hm,TM.cl,TM.nb,A0 _ _,bl,rfl,⟨_,SqL.of lR.bdl⟩,FB (K:=K) (a:=bl) (xs:=ds.map V.ref) (fun i σ H'=>∃ v2 v3:Option V,σ=[some (.ref mr),some (.ref cl),v2,v3]/\L2.Same H H'/\H' cl=some (.lst (cV M.atoms.length fun v=>dg M i v)))
    ⟨none,none,rfl,s2,h2⟩ (fun i σ H' _ ⟨_,_,_,s',_⟩=>SqL.of (s' _ _ mo.bdl)) ?_ ?_⟩
   ·rintro i y σ H3 hi ⟨v2,v3,rfl,s3,h3⟩;have mo3:=mo.same s3;obtain⟨t,x,rfl,ht,hx,hH⟩:=mo3.bds.at hi;obtain⟨dt,gt⟩:=hH;have wx:=wf.bd x (gK hx);have an:x.a<M.atoms.length:=qu wx.ab wx.bn;refine⟨_,rfl,_,rfl,t,CB,dt,_,_,rfl,gt,TB.cl,TB.na,lK _ _ _ _,cl,_,x.a,_,rfl,rfl,SqL.of h3,zE _ an,_,_,rfl,rfl,cl,_,_,x.a,rfl,rfl,h3,IY (by rw [vZ];exact an),?_⟩
    rw [nE];have ncl:H cl=none:=by
     cases q:H cl with
     |none=>rfl
     |some o=>rw [oh]at q;cases q
    have gt4:upd H3 cl (.lst (cV M.atoms.length fun v=>if v=x.a then dg M i x.a+1 else dg M i v)) t=some (.ins CB dt (bf x.a x.b (x.order:Int) (x.side:Int))):=by rw [aj (az gt h3 (by intro z;cases z))];exact gt
    refine⟨_,rfl,_,rfl,t,CB,dt,_,_,rfl,gt4,TB.cl,TB.nb,lL _ _ _ _,cl,_,x.b,_,rfl,rfl,SqL.of Z2j,zE _ wx.bn,_,_,rfl,rfl,cl,_,_,x.b,rfl,rfl,Z2j,IY (by rw [vZ];exact wx.bn),?_⟩
    rw [nE,j0];refine⟨_,_,rfl,fun b o e=>?_,?_⟩
    ·rw [aj (fun z=>by rw [z,ncl]at e;cases e)];exact s3 _ _ e
    ·rw [Z2j];congr 2;refine Ox fun v hv=>?_;rw [rX hx (eF wx.ab)];by_cases q2:v=x.b
     ·subst q2;rw [ae rfl,ae rfl];split
      ·rename_i z;rw [z]
      ·rfl
     ·rw [ac q2,ac q2];by_cases q1:v=x.a
      ·subst q1;rfl
      ·rw [ac q1,ac q1]
   ·rintro σ H3 ⟨v2,v3,rfl,s3,h3⟩;refine⟨_,rfl,k H3 cl s3 ?_⟩;rw [h3,aT,mo.bds.1];congr 2;refine Ox fun v _=>?_;unfold dg jP;rw [qw]
def qb(CA:Addr):Sp:=fun vs H Q _=>∃ (t:Addr)(x:Fk.Atom)(d:Nat),vs=[.ref t,.int (d:Int)]/\AtomAt CA H t x/\Q (.bl (decide (3<=d)&&(decide (x.hydrogens<=1)&&decide (d+x.hydrogens<=4)))) H
theorem yA:cU ["atom","neighbours"] ["atom","neighbours"] (bj HF):=⟨rfl,rfl,rfl,by decide +kernel,rfl,by decide +kernel,by decide +kernel⟩
theorem xX{f:Addr}{fd:FuncData}(F:Fun K "may_have_hand" "may_have_hand" HF f fd)(TA:uC K CA):am P w K mg base CX0 1 f fd ["atom","neighbours"] (qb CA):=by
 refine F.ok yA (fun vs H Q E h=>?_) (fun bp A outer s H vs Q E hr h=>?_)
 ·obtain⟨t,x,d,rfl,_⟩:=h;rfl
 ·obtain⟨t,x,d,rfl,⟨dt,gt⟩,k⟩:=h;refine⟨_,bg (dJ (Bl (wa vn (pv 1) bx (eS _)) (Bl (wa oU (bq (pv 0) rfl) bx (eS _)) (FE (wa oU (aZ kI (pv 1) (bq (pv 0) rfl)) bx (eS _)))))),?_⟩;refine⟨_,rfl,_,_,rfl,rfl,_,rfl,bt (fun h1=>?_) (fun h1=>?_)⟩
  ·have g1:=ap h1;rw [show decide (3<=d)=true from ai (by omega),Bool.true_and]at k
   refine⟨_,rfl,t,CA,dt,_,_,rfl,gt,TA.cl,TA.nh,Fc _,_,_,rfl,rfl,_,rfl,bt (fun h2=>?_) (fun h2=>?_)⟩
   ·have g2:=ap h2;rw [show decide (x.hydrogens<=1)=true from ai (by omega),Bool.true_and]at k
    refine⟨_,rfl,_,rfl,t,CA,dt,_,_,rfl,gt,TA.cl,TA.nh,Fc _,_,_,rfl,rfl,_,_,rfl,rfl,?_⟩;rw [show decide (d+x.hydrogens<=4)=decide ((d:Int)+(x.hydrogens:Int)<=4) by
     by_cases z:d+x.hydrogens<=4
     ·rw [ai z,ai (by omega)]
     ·rw [aw z,aw (by omega)]]at k
    exact k
   ·have g2:¬ ((x.hydrogens:Int)<=1):=fun z=>h2 (ai z);rw [show decide (x.hydrogens<=1)=false from aw (by omega)]at k
    exact k
  ·have g1:¬ ((3:Int)<=(d:Int)):=fun z=>h1 (ai z);rw [show decide (3<=d)=false from aw (by omega)]at k
   exact k
def P8(CF CA CB CM:Addr):Sp:=fun vs H Q E=>∃ (mr al bl cl:Addr)(as ds:List Addr)(M:Fk.Mol),vs=[.ref mr,.ref cl]/\MolAt CM CA CB H mr al bl as ds M/\Wf M/\H cl=some (.lst (cV M.atoms.length fun v=>(jP M v:Int))) /\
 match (List.range M.n).find? fun v=>(M.atom v).hand != 0&&!M.handed v with
 |none=>∀ H',Same H H'->Q .non H'
 |some v=>FltS CF E H 4 ((6+6*v+5:Nat):Int)
theorem jc:cU ["molecule","neighbours","k","atom"] ["molecule","neighbours"] (bj Hq):=⟨rfl,rfl,rfl,by decide +kernel,rfl,by decide +kernel,by decide +kernel⟩
theorem tD{f fG:Addr}{fd kJ:FuncData}(F:Fun K "refuse_wrong_hands" "refuse_wrong_hands" Hq f fd)(T:TR K mg CF CR fF)(B:TM K mg)(gJ:uF K CM)(TA:uC K CA)
  (GG:am P w K mg base CX0 1 fG kJ ["atom","neighbours"] (qb CA))(mG:mg "may_have_hand" = some (.ref fG))(kG:PySem.W.keepIn K (.ref fG)=true)(bG:Binds K kJ ["atom","neighbours"] []) :
  am P w K mg base (gO P w) 3 f fd ["molecule","neighbours"] (P8 CF CA CB CM):=by
 refine kY F jc (fun vs H Q E h=>?_) (fun bp A outer s H vs Q E hr h=>?_)
 ·obtain⟨mr,al,bl,cl,as,ds,M,rfl,_⟩:=h;rfl
 ·obtain⟨mr,al,bl,cl,as,ds,M,rfl,mo,wf,hc,k⟩:=h;have gN:=(show A.depth+1+1<recursionLimit from by have:=hr.dp;simp only [Around.deeper]at this;omega)
  have iJ:Room 1 _:=hr.mono (by decide)
  refine⟨_,bg (lH Bi rfl (Fy rfl B.enum (ao (bq (pv 0) rfl) aD)) (zA rfl (kr (eT (i:=2) jc.nd rfl (Or.inl rfl)) (kr (eT (i:=3) jc.nd rfl (Or.inl rfl)) wc)))
   (bg (bZ (PW.pt (Bk (gq dZ (bq (pv 3) rfl) bx (eS _)) (Fu (Jv (zD (fO GG iJ rfl mG kG bG .nil aC (ao (pv 3) (ao (dk qy (pv 1) (pv 2) (fun _ _=>rfl)) aD))))))))
     (bg (uM T.xi rfl rfl gN rfl T.mgF rB (ao (ay rfl B.c4) (ao (aZ uN (aZ kI (aZ kI (ay rfl B.z1) (aZ zC (ay rfl B.z2) (pv 2))) (ay rfl B.z2)) bx) aD)))) il))),?_⟩
  obtain⟨dm,hm⟩:=mo.top;have wn:=wf.n;refine⟨_,rfl,mr,CM,dm,_,_,rfl,hm,gJ.cl,gJ.na,vX _ _,al,_,rfl,SqL.of mo.atl,Fn (K:=K) (a:=al) (xs:=as.map V.ref) (fun i σ H'=>∃ v2 v3:Option V,σ=[some (.ref mr),some (.ref cl),v2,v3]/\L2.Same H H'/\∀ j,j<i->((M.atom j).hand != 0&&!M.handed j)=false)
   ⟨none,none,rfl,L2.Same.refl _,fun j hj=>absurd hj (Nat.not_lt_zero _)⟩ (fun i σ H' _ ⟨_,_,_,s',_⟩=>SqL.of (s' _ _ mo.atl)) ?_ ?_⟩
  ·rintro i y σ H1 U hi ⟨v2,v3,rfl,s1,hj⟩ hU;have vh:=mo.same s1;obtain⟨t,x,rfl,ht,hx,hH⟩:=vh.ats.at hi;have s2:L2.Same H (upd H1 U (.tup [.int (i:Int),.ref t])):=s1.trans (RD.Same.new hU);obtain⟨dt,gt⟩:=hH;have zK:upd H1 U (.tup [.int (i:Int),.ref t]) t=some (.ins CA dt (lJ x)):=RD.Same.new hU _ _ gt;have li:i<M.atoms.length:=(ee.mp hx).1;have ex:=P3 hx;have hp:((M.atom i).hand != 0&&!M.handed i)=(x.hand != 0&&!(decide (3<=jP M i)&&(decide (x.hydrogens<=1)&&decide (jP M i+x.hydrogens<=4)))):=by rw [ZbI wf,ex]
   have go:((M.atom i).hand != 0&&!M.handed i)=false->∀ j,j<i+1->((M.atom j).hand != 0&&!M.handed j)=false:=fun h j qI=>by
    by_cases z:j=i
    ·rw [z];exact h
    ·exact hj j (by omega)
   refine⟨U,_,rfl,SqT.of Z2j,rfl,_,_,rfl,_,_,rfl,rfl,?_⟩;refine⟨_,rfl,t,CA,dt,_,_,rfl,zK,TA.cl,TA.nd,ng _,rfl,_,rfl,bt (fun h1=>?_) (fun h1=>?_)⟩
   ·have bQ:(x.hand != 0)=true:=by
     rw [gT];intro z;rw [z]at h1;simp at h1
    refine⟨_,rfl,_,rfl,_,rfl,cl,_,_,_,rfl,rfl,SqL.of (s2 _ _ hc),qz (zE _ li),t,x,jP M i,rfl,⟨dt,zK⟩,_,rfl,bt (fun h2=>?_) (fun h2=>?_)⟩
    ·have hf:(List.range M.n).find? (fun v=>(M.atom v).hand != 0&&!M.handed v)=some i:=by
      rw [List.find?_range_eq_some];refine⟨by rw [hp,bQ,h2];rfl,AL.mpr li,fun j qI=>by rw [hj j qI];rfl⟩
     rw [hf]at k;refine⟨_,rfl,_,_,rfl,rfl,.inl (by constructor<;>omega),_,_,rfl,rfl,_,_,rfl,rfl,_,_,rfl,rfl,_,_,_,.inr ⟨rfl,rfl⟩,fun eN hn=>?_⟩
     refine k _ eN (s2.trans (RD.Same.new hn)) ?_;rw [Z2j];show some (HO.xd (xf 4 (6+6*(i:Int)+6-1) 0))=_;rw [show 6+6*(i:Int)+6-1=((6+6*i+5:Nat):Int) by omega]
    ·refine⟨_,_,rfl,s2,go ?_⟩;rw [hp,bQ];simpa using h2
   ·refine⟨_,_,rfl,s2,go ?_⟩;have bQ:(x.hand != 0)=false:=by
     rw [bne_eq_false_iff_eq];simp at h1;omega
    rw [hp,bQ];rfl
  ·rintro σ H1 ⟨v2,v3,rfl,s1,hj⟩;rw [aT,mo.ats.1]at hj;have hf:(List.range M.n).find? (fun v=>(M.atom v).hand != 0&&!M.handed v)=none:=by
    rw [List.find?_range_eq_none];intro j qI;rw [hj j qI];rfl
   rw [hf]at k;exact k H1 s1
end
theorem MolAt.bds'{CM CA CB:Addr}{H:Hp}{mr al bl:Addr}{as ds:List Addr}{M:Fk.Mol}(h:MolAt CM CA CB H mr al bl as ds M):Bds CB (GM M) H bl ds fun e=>((M.bonds.getD e i4).side:Int):=by
 refine⟨h.bdl,h.bds.1,fun e r hr=>?_⟩;have le:e<M.bonds.length:=by rw [<-h.bds.1];exact(ee.mp hr).1
 have hx:M.bonds[e]?=some M.bonds[e]:=du le;have hb:=h.bds.2 e r _ hr hx;rw [iA hx];unfold BndAt at hb;dsimp only;rw [jM,hx];exact hb
section
variable{P:Program}{w:World}{K:aq}{mg:Str->Option Value}{base:Heap}{CF CR fF CA CB CM CW CS:Addr}
def vD(CA:Addr):Sp:=fun vs H Q _=>∃ (t:Addr)(x:Fk.Atom)(o:Int),vs=[.ref t,.int o]/\AtomAt CA H t x/\Q (.bl (decide (1<=o)&&decide (o+(x.hydrogens:Int)<=2))) H
theorem DR:cU ["atom","others"] ["atom","others"] (bj Hh):=⟨rfl,rfl,rfl,by decide +kernel,rfl,by decide +kernel,by decide +kernel⟩
theorem Dp{f:Addr}{fd:FuncData}(F:Fun K "may_end_a_side" "may_end_a_side" Hh f fd)(TA:uC K CA):am P w K mg base CX0 1 f fd ["atom","others"] (vD CA):=by
 refine F.ok DR (fun vs H Q E h=>?_) (fun bp A outer s H vs Q E hr h=>?_)
 ·obtain⟨t,x,d,rfl,_⟩:=h;rfl
 ·obtain⟨t,x,d,rfl,⟨dt,gt⟩,k⟩:=h;refine⟨_,bg (dJ (Bl (wa vn (pv 1) bx (eS _)) (FE (wa oU (aZ kI (pv 1) (bq (pv 0) rfl)) bx (eS _))))),?_⟩;refine⟨_,rfl,_,_,rfl,rfl,_,rfl,bt (fun h1=>?_) (fun h1=>?_)⟩
  ·have g1:=ap h1;rw [show decide (1<=d)=true from ai (by omega),Bool.true_and]at k
   exact⟨_,rfl,_,rfl,t,CA,dt,_,_,rfl,gt,TA.cl,TA.nh,Fc _,_,_,rfl,rfl,_,_,rfl,rfl,k⟩
  ·have g1:¬ ((1:Int)<=d):=fun z=>h1 (ai z);rw [show decide (1<=d)=false from aw (by omega)]at k
   exact k
def qg(CA CB CM CW:Addr):Sp:=fun vs H Q _=>∃ (mr al bl cl wl:Addr)(as ds:List Addr)(M:Fk.Mol)(k:Nat)(x:Fk.Bond)(ls:List Addr)(ws:Nat->List Addr)(E:Nat->List (Nat×Nat)),vs=[.ref mr,.int (k:Int),.ref cl,.ref wl]/\MolAt CM CA CB H mr al bl as ds M/\Wf M /\
 H cl=some (.lst (cV M.atoms.length fun v=>(jP M v:Int)))/\Wys0 CW (GM M) H wl ls ws E/\M.bonds[k]?=some x/\∀ (b:Bool) H',Same H H'->(b=true↔M.sided k=true)->Q (.bl b) H'
theorem kh:cU ["molecule","k","neighbours","ways","bond","end"] ["molecule","k","neighbours","ways"] (bj Ho):=⟨rfl,rfl,rfl,by decide +kernel,rfl,by decide +kernel,by decide +kernel⟩
theorem x9{f fG fH:Addr}{fd kJ BB:FuncData}(F:Fun K "may_have_side" "may_have_side" Ho f fd)(gJ:uF K CM)(TA:uC K CA)(TB:uD K CB)
  (GG:am P w K mg base CX0 1 fG kJ ["atom","others"] (vD CA))(mG:mg "may_end_a_side" = some (.ref fG))(kG:PySem.W.keepIn K (.ref fG)=true)(bG:Binds K kJ ["atom","others"] [])
  (GH:am P w K mg base CX0 8 fH BB ["ways","bonds","number"] (vE CW CB))(mH:mg "is_fixed_double" = some (.ref fH))(kH:PySem.W.keepIn K (.ref fH)=true)(bH:Binds K BB ["ways","bonds","number"] []) :
  am P w K mg base CX0 9 f fd ["molecule","k","neighbours","ways"] (qg CA CB CM CW):=by
 refine F.ok kh (fun vs H Q E h=>?_) (fun bp A outer s H vs Q E' hr h=>?_)
 ·obtain⟨mr,al,bl,cl,wl,as,ds,M,k,x,ls,ws,E,rfl,_⟩:=h;rfl
 ·obtain⟨mr,al,bl,cl,wl,as,ds,M,k,x,ls,ws,E,rfl,mo,wf,hc,hW,hx,kk⟩:=h;have iJ:Room 1 _:=hr.mono (by decide)
  refine⟨_,aN (di (i:=4) kh.nd rfl (Or.inl rfl) (dk qy (bq (pv 0) rfl) (pv 1) (fun _ _=>rfl)))
   (aN (bZ (gq dZ (bq (pv 4) rfl) bx (eS _)) (bg (dJ dF)) il)
   (aN (lH PassesOwn.never rfl (pr (qA (ao (bq (pv 4) rfl) (ao (bq (pv 4) rfl) aD)))) (eT (i:=5) kh.nd rfl (Or.inl rfl))
     (bg (bZ (Jv (zD (fO GG iJ rfl mG kG bG .nil aC (ao (dk qy (bq (pv 0) rfl) (pv 5) (fun _ _=>rfl)) (ao (aZ uN (dk qy (pv 2) (pv 5) (fun _ _=>rfl)) bx) aD))))) (bg (dJ dF)) il)))
   (bg (dJ (fO GH hr rfl mH kH bH .nil aC (ao (pv 3) (ao (bq (pv 0) rfl) (ao (pv 1) aD)))))))),?_⟩
  obtain⟨dm,hm⟩:=mo.top;have km:k<M.bonds.length:=(ee.mp hx).1;have lk:k<ds.length:=by rw [mo.bds.1];exact km
  have hd:ds[k]?=some ds[k]:=du lk;obtain⟨dt,gt⟩:=mo.bds.2 k _ x hd hx;have wx:=wf.bd x (gK hx);have an:x.a<M.atoms.length:=qu wx.ab wx.bn;have key:=Zbw wf hx;refine⟨_,rfl,mr,CM,dm,_,_,rfl,hm,gJ.cl,gJ.nb,A0 _ _,_,rfl,bl,_,_,.ref ds[k],rfl,rfl,SqL.of mo.bdl,qz (by rw [dP,hd];rfl),?_⟩
  refine⟨_,rfl,ds[k],CB,dt,_,_,rfl,gt,TB.cl,TB.no,Iy _ _ _ _,rfl,_,rfl,bt (fun h1=>?_) (fun h1=>?_)⟩
  ·have ho:x.order≠2:=fun z=>by rw [z]at h1;simp at h1
   exact kk false H (L2.Same.refl _) ⟨fun z=>(by cases z),fun z=>absurd (key.mp z).1 ho⟩
  ·have ho:x.order=2:=by simp at h1;omega
   refine⟨_,rfl,ds[k],CB,dt,_,_,rfl,gt,TB.cl,TB.na,lK _ _ _ _,_,rfl,ds[k],CB,dt,_,_,rfl,gt,TB.cl,TB.nb,lL _ _ _ _,(by show 2<=sizeLine;decide),fun U hU=>?_⟩
   have sU:L2.Same H (upd H U (.tup [.int (x.a:Int),.int (x.b:Int)])):=RD.Same.new hU;refine⟨U,rfl,⟨_,SqT.of Z2j⟩,PL (K:=K) (a:=U) (xs:=[.int (x.a:Int),.int (x.b:Int)]) (fun i σ H'=>∃ v5:Option V,σ=[some (.ref mr),some (.int (k:Int)),some (.ref cl),some (.ref wl),some (.ref ds[k]),v5]/\H'=upd H U (.tup [.int (x.a:Int),.int (x.b:Int)])/\(1<=i->dE M x.a)/\(2<=i->dE M x.b))
    ⟨none,rfl,rfl,fun z=>absurd z (by decide),fun z=>absurd z (by decide)⟩ (fun i σ H' _ ⟨_,_,e,_⟩=>by rw [e];exact SqT.of Z2j) ?_ ?_⟩
   ·rintro i y σ H' hi ⟨v5,rfl,rfl,p1,p2⟩;obtain⟨v,rfl,hv,st⟩:∃ v:Nat,y=.int (v:Int)/\v<M.atoms.length/\(dE M v->(1<=i+1->dE M x.a)/\(2<=i+1->dE M x.b))/\(M.sided k=true->dE M v):=by
     match i,hi with
     |0,hi =>
      cases hi;exact⟨x.a,rfl,an,fun z=>⟨fun _=>z,fun q=>absurd q (by decide)⟩,fun z=>(key.mp z).2.1⟩
     |1,hi =>
      cases hi;exact⟨x.b,rfl,wx.bn,fun z=>⟨fun _=>p1 (by decide),fun _=>z⟩,fun z=>(key.mp z).2.2.1⟩
     |n+2,hi=>cases hi
    obtain⟨st,ub⟩:=st;have lR:=mo.same sU;have la:v<as.length:=by rw [mo.ats.1];exact hv
    have ha:as[v]?=some as[v]:=du la;have Q7:M.atoms[v]?=some M.atoms[v]:=du hv;have hA:=lR.ats.2 v _ _ ha Q7;have ex:=P3 Q7;refine⟨_,rfl,mr,CM,dm,_,_,rfl,sU _ _ hm,gJ.cl,gJ.na,vX _ _,_,rfl,al,_,_,.ref as[v],rfl,rfl,SqL.of lR.atl,qz (by rw [dP,ha];rfl),_,rfl,_,rfl,cl,_,_,_,rfl,rfl,SqL.of (sU _ _ hc),qz (zE _ hv),_,_,rfl,rfl,
     as[v],_,_,rfl,hA,_,rfl,bt (fun h2=>?_) (fun h2=>?_)⟩
    ·have no:¬ dE M v:=fun z=>by
      unfold dE at z;rw [ex]at z;rw [ai z.1,ai z.2]at h2;cases h2
     exact kk false _ sU ⟨fun z=>(by cases z),fun z=>absurd (ub z) no⟩
    ·have EN:dE M v:=by
      unfold dE;rw [ex];have h3:(decide (1<=(jP M v:Int)-1)&&decide ((jP M v:Int)-1+(M.atoms[v].hydrogens:Int)<=2))=true:=by simpa using h2
      rw [iZ]at h3;exact⟨ap h3.1,ap h3.2⟩
     exact⟨_,rfl,rfl,(st EN).1,(st EN).2⟩
   ·rintro σ H' ⟨v5,rfl,rfl,p1,p2⟩;have e1:=p1 (by show 1<=2;decide)
    have e2:=p2 (by show 2<=2;decide)
    have lR:=mo.same sU;refine⟨_,rfl,_,rfl,mr,CM,dm,_,_,rfl,sU _ _ hm,gJ.cl,gJ.nb,A0 _ _,_,rfl,wl,bl,k,GM M,ls,ws,E,ds,_,rfl,hW.same sU,lR.bds',uy wf,wf.n,km,?_,fun b H2 s2 hb=>?_⟩
    ·rw [iA hx,ho];rfl
    ·refine kk b H2 (sU.trans s2) ?_;rw [hb,key];exact⟨fun z=>⟨ho,e1,e2,z⟩,fun z=>z.2.2.2⟩
def P2(CF CA CB CM:Addr):Sp:=fun vs H Q E=>∃ (mr al bl cl:Addr)(as ds:List Addr)(M:Fk.Mol),vs=[.ref mr,.ref cl]/\MolAt CM CA CB H mr al bl as ds M/\Wf M/\H cl=some (.lst (cV M.atoms.length fun v=>(jP M v:Int))) /\
 match (List.range M.bonds.length).find? fun j=>(M.bonds[j]?.map Fk.Bond.side).getD 0 != 0&&!M.sided j with
 |none=>∀ H',Same H H'->Q .non H'
 |some j=>FltS CF E H 6 ((6+6*M.n+4*j+3:Nat):Int)
theorem fD:cU ["molecule","neighbours","first_bond","ways","k","bond"] ["molecule","neighbours"] (bj Hs):=⟨rfl,rfl,rfl,by decide +kernel,rfl,by decide +kernel,by decide +kernel⟩
theorem tG{f fG fH:Addr}{fd kJ BB:FuncData}(F:Fun K "refuse_wrong_sides" "refuse_wrong_sides" Hs f fd)(T:TR K mg CF CR fF)(B:TM K mg)(gJ:uF K CM)(TB:uD K CB)
  (GG:am P w K mg base CX0 9 fG kJ ["molecule","k","neighbours","ways"] (qg CA CB CM CW))(mG:mg "may_have_side" = some (.ref fG))(kG:PySem.W.keepIn K (.ref fG)=true)(bG:Binds K kJ ["molecule","k","neighbours","ways"] [])
  (GH:am P w K mg base CX0 3 fH BB ["count","bonds"] (qh CW CB))(mH:mg "ways_at" = some (.ref fH))(kH:PySem.W.keepIn K (.ref fH)=true)(bH:Binds K BB ["count","bonds"] []) :
  am P w K mg base (gO P w) 10 f fd ["molecule","neighbours"] (P2 CF CA CB CM):=by
 refine kY F fD (fun vs H Q E h=>?_) (fun bp A outer s H vs Q E' hr h=>?_)
 ·obtain⟨mr,al,bl,cl,as,ds,M,rfl,_⟩:=h;rfl
 ·obtain⟨mr,al,bl,cl,as,ds,M,rfl,mo,wf,hc,k⟩:=h;have gN:=(show A.depth+1+1<recursionLimit from by have:=hr.dp;simp only [Around.deeper]at this;omega)
  have j9:Room 3 _:=hr.mono (by decide)
  refine⟨_,aN (di (i:=2) fD.nd rfl (Or.inl rfl) (aZ kI (ay rfl B.z1) (aZ zC (ay rfl B.z2) (l5 rh (by rfl) T.len PySem.boot_len (ao (bq (pv 0) rfl) aD)))))
   (aN (di (i:=3) fD.nd rfl (Or.inl rfl) (fO GH j9 rfl mH kH bH .nil aC (ao (l5 rh (by rfl) T.len PySem.boot_len (ao (bq (pv 0) rfl) aD)) (ao (bq (pv 0) rfl) aD))))
   (bg (lH Bi rfl (Fy rfl B.enum (ao (bq (pv 0) rfl) aD)) (zA rfl (kr (eT (i:=4) fD.nd rfl (Or.inl rfl)) (kr (eT (i:=5) fD.nd rfl (Or.inl rfl)) wc)))
     (bg (bZ (PW.pt (Bk (gq dZ (bq (pv 5) rfl) bx (eS _)) (Fu (Jv (zD (fO GG hr rfl mG kG bG .nil aC (ao (pv 0) (ao (pv 4) (ao (pv 1) (ao (pv 3) aD))))))))))
       (bg (uM T.xi rfl rfl gN rfl T.mgF rB (ao (ay rfl B.c6) (ao (aZ uN (aZ kI (aZ kI (pv 2) (aZ zC (ay rfl B.z3) (pv 4))) (ay rfl B.z3)) bx) aD)))) il))))),?_⟩
  obtain⟨dm,hm⟩:=mo.top;have wn:=wf.n;have wm:=wf.m;have la:(as.map V.ref).length=M.atoms.length:=by rw [aT,mo.ats.1]
  refine⟨_,rfl,mr,CM,dm,_,_,rfl,hm,gJ.cl,gJ.na,vX _ _,al,_,rfl,.inl (SqL.of mo.atl),_,_,rfl,rfl,.inl (by constructor<;>omega),_,_,rfl,rfl,?_⟩
  refine⟨_,rfl,mr,CM,dm,_,_,rfl,hm,gJ.cl,gJ.na,vX _ _,al,_,rfl,.inl (SqL.of mo.atl),_,rfl,mr,CM,dm,_,_,rfl,hm,gJ.cl,gJ.nb,A0 _ _,bl,GM M,ds,_,by rw [la];rfl,mo.bds',uy wf,wf.n,wf.m,fun H1 wl ls ws E s1 hW=>?_⟩
  have vh:=mo.same s1;refine⟨_,rfl,mr,CM,dm,_,_,rfl,s1 _ _ hm,gJ.cl,gJ.nb,A0 _ _,bl,_,rfl,SqL.of vh.bdl,Fn (K:=K) (a:=bl) (xs:=ds.map V.ref) (fun i σ H'=>∃ v4 v5:Option V,σ=[some (.ref mr),some (.ref cl),some (.int (6+6*(M.atoms.length:Int))),some (.ref wl),v4,v5]/\L2.Same H1 H' /\
    ∀ j,j<i->((M.bonds[j]?.map Fk.Bond.side).getD 0 != 0&&!M.sided j)=false)
   ⟨none,none,by rw [la];rfl,L2.Same.refl _,fun j hj=>absurd hj (Nat.not_lt_zero _)⟩ (fun i σ H' _ ⟨_,_,_,s',_⟩=>SqL.of (s' _ _ vh.bdl)) ?_ ?_⟩
  ·rintro i y σ H2 U hi ⟨v4,v5,rfl,s2,hj⟩ hU;have lR:=vh.same s2;obtain⟨t,x,rfl,ht,hx,hH⟩:=lR.bds.at hi;have s3:L2.Same H1 (upd H2 U (.tup [.int (i:Int),.ref t])):=s2.trans (RD.Same.new hU);obtain⟨dt,gt⟩:=hH;have zK:upd H2 U (.tup [.int (i:Int),.ref t]) t=some (.ins CB dt (bf x.a x.b (x.order:Int) (x.side:Int))):=RD.Same.new hU _ _ gt;have li:i<M.bonds.length:=(ee.mp hx).1;have hp:((M.bonds[i]?.map Fk.Bond.side).getD 0 != 0&&!M.sided i)=(x.side != 0&&!M.sided i):=by rw [hx];rfl
   have go:((M.bonds[i]?.map Fk.Bond.side).getD 0 != 0&&!M.sided i)=false->∀ j,j<i+1->((M.bonds[j]?.map Fk.Bond.side).getD 0 != 0&&!M.sided j)=false:=fun h j qI=>by
    by_cases z:j=i
    ·rw [z];exact h
    ·exact hj j (by omega)
   refine⟨U,_,rfl,SqT.of Z2j,rfl,_,_,rfl,_,_,rfl,rfl,?_⟩;refine⟨_,rfl,t,CB,dt,_,_,rfl,zK,TB.cl,TB.ns,rL _ _ _ _,rfl,_,rfl,bt (fun h1=>?_) (fun h1=>?_)⟩
   ·have bQ:(x.side != 0)=true:=by
     rw [gT];intro z;rw [z]at h1;simp at h1
    refine⟨_,rfl,_,rfl,_,rfl,_,rfl,mr,al,bl,cl,wl,as,ds,M,i,x,ls,ws,E,rfl,vh.same s3,wf,s3 _ _ (s1 _ _ hc),hW.same s3,hx,fun b H4 s4 hb=>⟨_,rfl,bt (fun h2=>?_) (fun h2=>?_)⟩⟩
    ·have sM:M.sided i=false:=by
      cases q:M.sided i with
      |false=>rfl
      |true=>rw [hb.mpr q]at h2;cases h2
     have hf:(List.range M.bonds.length).find? (fun j=>(M.bonds[j]?.map Fk.Bond.side).getD 0 != 0&&!M.sided j)=some i:=by
      rw [List.find?_range_eq_some];refine⟨by rw [hp,bQ,sM];rfl,AL.mpr li,fun j qI=>by rw [hj j qI];rfl⟩
     rw [hf]at k;refine⟨_,rfl,_,rfl,_,_,rfl,rfl,.inl (by constructor<;>omega),_,_,rfl,rfl,_,_,rfl,rfl,_,_,rfl,rfl,_,_,_,.inr ⟨rfl,rfl⟩,fun eN hn=>?_⟩
     refine k _ eN (s1.trans (s3.trans (s4.trans (RD.Same.new hn)))) ?_;rw [Z2j];show some (HO.xd (xf 6 (6+6*(M.atoms.length:Int)+4*(i:Int)+4-1) 0))=_;rw [show 6+6*(M.atoms.length:Int)+4*(i:Int)+4-1=((6+6*M.n+4*i+3:Nat):Int) by unfold Fk.Mol.n;omega]
    ·refine⟨_,_,rfl,s3.trans s4,go ?_⟩;have hs:M.sided i=true:=hb.mp (by simpa using h2)
     rw [hp,hs];simp
   ·refine⟨_,_,rfl,s3,go ?_⟩;have bQ:(x.side != 0)=false:=by
     rw [bne_eq_false_iff_eq];simp at h1;omega
    rw [hp,bQ];rfl
  ·rintro σ H2 ⟨v4,v5,rfl,s2,hj⟩;rw [aT,mo.bds.1]at hj;have hf:(List.range M.bonds.length).find? (fun j=>(M.bonds[j]?.map Fk.Bond.side).getD 0 != 0&&!M.sided j)=none:=by
    rw [List.find?_range_eq_none];intro j qI;rw [hj j qI];rfl
   rw [hf]at k;exact k H2 (s1.trans s2)
def vG(K:aq)(CF CA CB CM:Addr):Sp:=fun vs H Q E=>∃ (a:Addr)(bs:List Int),vs=[.ref a]/\SqL K H a (bs.map V.int)/\(∀ x∈bs,0<=x/\x<=255) /\
 match ja bs with
 |.ok M=>∀ (H':Hp)(mr al bl:Addr)(as ds:List Addr),Same H H'->H al=none->H bl=none->MolAt CM CA CB H' mr al bl as ds M->Wf M->Q (.ref mr) H'
 |.error e=>FltS CF E H e.1 e.2
theorem FltS.same{CF:Addr}{E:XK}{H H1:Hp}{rule dG:Int}(f:FltS CF E H rule dG)(s:Same H H1):FltS CF E H1 rule dG:=fun H' dx s' h=>f H' dx (s.trans s') h
theorem pR:cU ["form","molecule","neighbours"] ["form"] (bj Hn):=⟨rfl,rfl,rfl,by decide +kernel,rfl,by decide +kernel,by decide +kernel⟩
theorem Dt{f f1 f2 f3 f4:Addr}{fd uX By Bz Qv:FuncData}(F:Fun K "read_molecule" "read_molecule" Hn f fd)
  (G1:am P w K mg base (gO P w) 5 f1 uX ["form"] (P5 K CF CA CB CM))(m1:mg "read_parts" = some (.ref f1))(k1:PySem.W.keepIn K (.ref f1)=true)(b1:Binds K uX ["form"] [])
  (G2:am P w K mg base CX0 1 f2 By ["molecule"] (D9 CA CB CM))(m2:mg "neighbour_counts" = some (.ref f2))(k2:PySem.W.keepIn K (.ref f2)=true)(b2:Binds K By ["molecule"] [])
  (G3:am P w K mg base (gO P w) 3 f3 Bz ["molecule","neighbours"] (P8 CF CA CB CM))(m3:mg "refuse_wrong_hands" = some (.ref f3))(k3:PySem.W.keepIn K (.ref f3)=true)(b3:Binds K Bz ["molecule","neighbours"] [])
  (G4:am P w K mg base (gO P w) 10 f4 Qv ["molecule","neighbours"] (P2 CF CA CB CM))(m4:mg "refuse_wrong_sides" = some (.ref f4))(k4:PySem.W.keepIn K (.ref f4)=true)(b4:Binds K Qv ["molecule","neighbours"] []) :
  am P w K mg base (gO P w) 11 f fd ["form"] (vG K CF CA CB CM):=by
 refine kY F pR (fun vs H Q E h=>?_) (fun bp A outer s H vs Q E' hr h=>?_)
 ·obtain⟨a,bs,rfl,_⟩:=h;rfl
 ·obtain⟨a,bs,rfl,hS,hb,k⟩:=h;have hr5:Room 5 _:=hr.mono (by decide)
  have iJ:Room 1 _:=hr.mono (by decide)
  have j9:Room 3 _:=hr.mono (by decide)
  refine⟨_,aN (di (i:=1) pR.nd rfl (Or.inl rfl) (fO G1 hr5 rfl m1 k1 b1 .nil gu (ao (pv 0) aD)))
   (aN (di (i:=2) pR.nd rfl (Or.inl rfl) (fO G2 iJ rfl m2 k2 b2 .nil aC (ao (pv 1) aD)))
   (aN (gR (fO G3 j9 rfl m3 k3 b3 .nil gu (ao (pv 1) (ao (pv 2) aD))))
   (aN (gR (fO G4 hr rfl m4 k4 b4 .nil gu (ao (pv 1) (ao (pv 2) aD))))
   (bg (dJ (pv 1)))))),?_⟩
  unfold ja at k;refine⟨_,rfl,a,bs,rfl,hS,hb,?_⟩;cases e1:rG bs with
  |error e=>rw [e1]at k;exact k
  |ok M =>
   rw [e1]at k;dsimp only at k;have wf:=ZbD e1;intro H1 mr al bl as ds s1 na1 nb1 mo;refine⟨_,rfl,mr,al,bl,as,ds,M,rfl,mo,wf,fun H2 cl s2 hc=>?_⟩;refine⟨_,rfl,_,rfl,mr,al,bl,cl,as,ds,M,rfl,mo.same s2,wf,hc,?_⟩;cases e2:(List.range M.n).find? (fun v=>(M.atom v).hand != 0&&!M.handed v)with
   |some v =>
    rw [e2]at k;exact FltS.same k (s1.trans s2)
   |none =>
    rw [e2]at k;dsimp only at k;intro H3 s3;refine⟨_,rfl,_,rfl,mr,al,bl,cl,as,ds,M,rfl,mo.same (s2.trans s3),wf,s3 _ _ hc,?_⟩;cases e3:(List.range M.bonds.length).find? (fun j=>(M.bonds[j]?.map Fk.Bond.side).getD 0 != 0&&!M.sided j)with
    |some j =>
     rw [e3]at k;exact FltS.same k ((s1.trans s2).trans s3)
    |none =>
     rw [e3]at k;intro H4 s4;exact⟨_,rfl,k H4 mr al bl as ds (((s1.trans s2).trans s3).trans s4) na1 nb1 (mo.same ((s2.trans s3).trans s4)) wf⟩
end
def eV(bs:List Int)(p:Nat):Except (Int×Int) (Fk.Mol×Nat) :=
 match aW bs p 2 0 65535 with
 |.error e=>.error e
 |.ok n=>if bs.length<p+2+n.toNat then .error (5,bs.length)else match ja ((bs.drop (p+2)).take n.toNat)with
  |.error e=>.error (16+e.1,((p+2:Nat):Int)+e.2)
  |.ok M=>.ok (M,p+2+n.toNat)
section
variable{P:Program}{w:World}{K:aq}{mg:Str->Option Value}{base:Heap}{CF CR fF CA CB CM:Addr}
theorem fresh{r b:Addr}{H H1 H2:Hp}{o o':HO}(h:H r=some o)(o1:Only r H H1)(o2:Only r H1 H2)(g2:H2 r=some o')(n:H2 b=none):H b=none:=by
 cases e:H b with
 |none=>rfl
 |some x =>
  by_cases z:b=r
  ·rw [z,g2]at n;cases n
  ·rw [o2 _ _ (o1 _ _ e z) z]at n;cases n
def vF(K:aq)(CF CR CA CB CM:Addr):Sp:=fun vs H Q E=>∃ (r a:Addr)(p:Nat)(bs:List Int),vs=[.ref r]/\dW CR H r a p/\SqL K H a (bs.map V.int)/\p<=bs.length/\(∀ x∈bs,0<=x/\x<=255) /\
 match eV bs p with
 |.ok x=>∀ (H':Hp)(mr al bl:Addr)(as ds:List Addr),dW CR H' r a x.2->Only r H H'->H al=none->H bl=none->MolAt CM CA CB H' mr al bl as ds x.1->Wf x.1->Q (.ref mr) H'
 |.error e=>Flt CF E H r e.1 e.2
theorem jC:cU ["reader","size","start","form","fault"] ["reader"] (bj HP):=⟨rfl,rfl,rfl,by decide +kernel,rfl,by decide +kernel,by decide +kernel⟩
theorem Ds{f fN fT f1:Addr}{fd kK BF uX:FuncData}(F:Fun K "read_member" "read_member" HP f fd)(T:TR K mg CF CR fF)(xg:XG K CF)(nr:NoAttr K CF "rule")(np:NoAttr K CF "place")
  (cS:∃ u,mg "MOST_SIZE" = some u/\RelV (.int 65535) u)(cW:∃ u,mg "WITHIN_MOLECULE" = some u/\RelV (.int 16) u)
  (GN:am P w K mg base (CXQ false P w) 3 fN kK ["self","size","least","most"] (iV K CF CR))(mN:aQ K CR "number" fN)(bN:Binds K kK ["self","size","least","most"] [])
  (GT:am P w K mg base (CXQ false P w) 2 fT BF ["self","size"] (Js K CF CR))(mT:aQ K CR "take" fT)(bT:Binds K BF ["self","size"] [])
  (G1:am P w K mg base (gO P w) 11 f1 uX ["form"] (vG K CF CA CB CM))(m1:mg "read_molecule" = some (.ref f1))(k1:PySem.W.keepIn K (.ref f1)=true)(b1:Binds K uX ["form"] []) :
  am P w K mg base (CXQ false P w) 12 f fd ["reader"] (vF K CF CR CA CB CM):=by
 refine kY F jC (fun vs H Q E h=>?_) (fun bp A outer s H vs Q E hr h=>?_)
 ·obtain⟨r,a,p,bs,rfl,_⟩:=h;rfl
 ·obtain⟨r,a,p,bs,rfl,hR,hS,hp,hb,k⟩:=h;have gN:=(show A.depth+1+1<recursionLimit from by have:=hr.dp;simp only [Around.deeper]at this;omega)
  have j9:Room 3 _:=hr.mono (by decide)
  have eg:Room 2 _:=hr.mono (by decide)
  refine⟨_,aN (di (i:=1) jC.nd rfl (Or.inl rfl) (ej (pv 0) T.cl mN GN j9 bN .nil gu (ao bx (ao bx (ao (ay rfl cS) aD)))))
   (aN (di (i:=2) jC.nd rfl (Or.inl rfl) (bq (pv 0) rfl))
   (aN (di (i:=3) jC.nd rfl (Or.inl rfl) (ej (pv 0) T.cl mT GT eg bT .nil gu (ao (pv 1) aD)))
   (bg (tM (z:=true) (W:=fun D σ cls d H'=>cls=.ref CF/\∃ dx ru pl st,d=some dx/\σ[2]?=some (some (.int st))/\H' dx=some (.xd (xf ru pl 0))/\∀ H2 eZ,Same H' H2->H2 eZ=some (.xd (xf (16+ru) (st+pl) 0))->E (.ref CF) (some eZ) H2)
     G1 hr rfl m1 k1 b1 rfl rfl rfl (fun pins E1=>ao (pv 3) aD) (fun pins D σ H' s ea T1 C d a hW=>?_))))),?_⟩
  ·obtain⟨e,dx,ru,pl,st,rfl,hσ,hd,hE⟩:=hW;cases e;have hl:σ.length=5:=a.inv.len;refine' wO (i:=4) (E:=E) a T.xi rfl rfl rfl gN rfl T.mgF jC.nd rfl rfl ZaW ?hs0 ?hE0
   case hs0=>exact fun ea=>ao (aZ kI (ay rfl cW) (Bn K rfl (pv 4) rfl)) (ao (aZ kI (pv 2) (Bn K rfl (pv 4) rfl)) aD)
   intro ea F6 Lv;have h1:upd H' ea (XE true ea CF dx) dx=some (.xd (xf ru pl 0)):=by rw [aj Lv.symm];exact hd
   have h4:(σ.set 4 (some (V.ref ea)))[4]?=some (some (V.ref ea)):=by rw [AN (by omega)]
   have h2:(σ.set 4 (some (V.ref ea)))[2]?=some (some (V.int st)):=by rw [EW (by decide)];exact hσ
   refine⟨_,h4,true,ea,CF,dx,_,_,rfl,Z2j,h1,xg,nr,PF _ _ _,_,_,rfl,rfl,_,h2,_,h4,true,ea,CF,dx,_,_,rfl,Z2j,h1,xg,np,O2 _ _ _,_,_,rfl,rfl,Z2j,_,_,_,.inr ⟨rfl,rfl⟩,fun eZ JU=>?_⟩;exact hE _ eZ ((RD.Same.new F6).trans (RD.Same.new JU)) Z2j
  ·obtain⟨dx,g0⟩:=id hR;unfold eV at k;refine⟨_,rfl,r,dx,_,rfl,g0,cw _ _ (by decide) (by decide),r,a,p,2,bs,_,_,rfl,hR,hS,hp,hb,?_⟩
   cases e1:aW bs p 2 0 65535 with
   |error e=>rw [e1]at k;exact k
   |ok n =>
    rw [e1]at k;dsimp only at k;obtain⟨q1,q2,q3,_⟩:=dA e1;intro H1 jQ o1;obtain⟨qC,g1⟩:=id jQ;have S1:=o1.sq g0 hS;have hn:((n.toNat:Nat):Int)=n:=lB q2;refine⟨_,rfl,r,CR,qC,_,_,rfl,g1,T.cl,T.np,lZ _ _,?_⟩;refine⟨_,rfl,r,qC,_,rfl,g1,cw _ _ (by decide) (by decide),_,rfl,r,a,p+2,n.toNat,bs,(by rw [hn];rfl),jQ,S1,q1,fun i8 H2 l mi o2 nl ji=>?_,fun cc=>?_⟩
    ·rw [ac (by omega)]at k
     have jR:∀ x∈(bs.drop (p+2)).take n.toNat,0<=x/\x<=255:=fun x hx=>hb x (List.mem_of_mem_drop (List.mem_of_mem_take hx));refine⟨_,rfl,l,_,rfl,SqL.of ji,jR,?_⟩;cases e2:ja ((bs.drop (p+2)).take n.toNat)with
     |ok M =>
      rw [e2]at k;dsimp only at k;intro H3 mr al bl as ds s3 na nb mo wf;obtain⟨eZ,g2⟩:=id mi;exact k H3 mr al bl as ds ⟨eZ,s3 _ _ g2⟩ (fun b o e ne=>s3 _ _ (o2 _ _ (o1 _ _ e ne) ne)) (fresh g0 o1 o2 g2 na) (fresh g0 o1 o2 g2 nb) mo wf
     |error e =>
      rw [e2]at k;dsimp only at k;intro H3 rY s3 Kf;refine⟨rfl,rY,e.1,e.2,_,rfl,rfl,Kf,fun H4 rZ s4 hd4=>?_⟩;exact k H4 rZ (fun b o e ne=>s4 _ _ (s3 _ _ (o2 _ _ (o1 _ _ e ne) ne))) hd4
    ·rw [ae (by omega)]at k
     exact k.only o1
end
def bY(bs:List Int):Nat->Nat->Except (Int×Int) (List Fk.Mol×Nat)
 |0,p=>.ok ([],p)
 |k+1,p=>match eV bs p with
  |.error e=>.error e
  |.ok x=>match bY bs k x.2 with
   |.error e=>.error e
   |.ok y=>.ok (x.1::y.1,y.2)
theorem Oh(bs:List Int)(p:Nat):bY bs 0 p=.ok ([],p):=rfl
theorem A7(bs:List Int)(k p:Nat):bY bs (k+1) p=match eV bs p with
  |.error e=>.error e
  |.ok x=>match bY bs k x.2 with
   |.error e=>.error e
   |.ok y=>.ok (x.1::y.1,y.2):=rfl
def sj(bs:List Int):Except (Int×Int) Fk.Equation :=
 match bX bs 0 [70,75,81,49]with
 |.error e=>.error e
 |.ok p=>match aW bs p 1 1 8 with
  |.error e=>.error e
  |.ok l=>match aW bs (p+1) 1 1 8 with
   |.error e=>.error e
   |.ok r=>match bY bs l.toNat (p+2)with
    |.error e=>.error e
    |.ok x=>match bY bs r.toNat x.2 with
     |.error e=>.error e
     |.ok y=>if y.2<bs.length then .error (7,y.2)else .ok ⟨x.1,y.1⟩
theorem Fx{bs:List Int}{p:Nat}{x:Fk.Mol×Nat}(h:eV bs p=.ok x):x.2<=bs.length:=by
 unfold eV at h;split at h
 ·cases h
 ·split at h
  ·cases h
  ·split at h
   ·cases h
   ·cases h;show p+2+_<=_;omega
theorem OA{bs:List Int}:∀ {k p:Nat}{y:List Fk.Mol×Nat},p<=bs.length->bY bs k p=.ok y->y.1.length=k/\y.2<=bs.length
 |0,p,y,hp,h=>by cases h;exact⟨rfl,hp⟩
 |k+1,p,y,hp,h=>by
  rw [A7]at h;cases e:eV bs p with
  |error e'=>rw [e]at h;cases h
  |ok x =>
   rw [e]at h;dsimp only at h;cases e2:bY bs k x.2 with
   |error e'=>rw [e2]at h;cases h
   |ok z =>
    rw [e2]at h;cases h;obtain⟨a,b⟩:=OA (Fx e) e2;exact⟨by rw [gB,a],b⟩
def zJ(a b:Addr):List (Str×V):=[("left",.ref a),("right",.ref b)]
theorem Ow(a b:Addr):(zJ a b).lookup ("left" : Str)=some (.ref a):=by
 unfold zJ;rw [bh,show(("left" : Str)=="left")=true by decide]
theorem OI(a b:Addr):(zJ a b).lookup ("right" : Str)=some (.ref b):=by
 unfold zJ;rw [bh,show(("right" : Str)=="left")=false by decide,bh,show(("right" : Str)=="right")=true by decide]
def MolD(CM CA CB D:Addr)(H:Hp)(t:Addr)(M:Fk.Mol):Prop:=∃ (al bl:Addr)(as ds:List Addr),MolAt CM CA CB H t al bl as ds M/\Wf M/\al≠D/\bl≠D
def MolA(CM CA CB:Addr)(H:Hp)(t:Addr)(M:Fk.Mol):Prop:=∃ (al bl:Addr)(as ds:List Addr),MolAt CM CA CB H t al bl as ds M/\Wf M
theorem MolA.same{CM CA CB:Addr}{H H':Hp}{t:Addr}{M:Fk.Mol}(h:MolA CM CA CB H t M)(s:L2.Same H H'):MolA CM CA CB H' t M:=by obtain⟨al,bl,as,ds,a,b⟩:=h;exact⟨al,bl,as,ds,a.same s,b⟩
theorem MolD.toA{CM CA CB D:Addr}{H:Hp}{t:Addr}{M:Fk.Mol}(h:MolD CM CA CB D H t M):MolA CM CA CB H t M:=by obtain⟨al,bl,as,ds,a,b,_⟩:=h;exact⟨al,bl,as,ds,a,b⟩
theorem MolA.toD{CM CA CB D:Addr}{H:Hp}{t:Addr}{M:Fk.Mol}(h:MolA CM CA CB H t M)(n:H D=none):MolD CM CA CB D H t M:=by
 obtain⟨al,bl,as,ds,a,b⟩:=h;exact⟨al,bl,as,ds,a,b,a9 a.atl n,a9 a.bdl n⟩
section
variable{P:Program}{w:World}{K:aq}{mg:Str->Option Value}{base:Heap}{CF CR fF CA CB CM CQ:Addr}
structure TQ(K:aq)(CQ:Addr):Prop where
 cl:Cls K CQ
 nl:NoAttr K CQ "left"
 nr:NoAttr K CQ "right"
def Ea(CQ:Addr):Sp:=fun vs H Q _=>∃ (r dx a b:Addr),vs=[.ref r,.ref a,.ref b]/\H r=some (.ins CQ dx [])/\∀ H':Hp,H' r=some (.ins CQ dx (zJ a b))->Only r H H'->Q .non H'
theorem Mb:cU ["self","left","right"] ["self","left","right"] (bj Hm):=⟨rfl,rfl,rfl,by decide +kernel,rfl,by decide +kernel,by decide +kernel⟩
theorem LH{f:Addr}{fd:FuncData}(F:Fun K "__init__" "Equation.__init__" Hm f fd)(T:TQ K CQ):am P w K mg base CX0 1 f fd ["self","left","right"] (Ea CQ):=by
 refine F.ok Mb (fun vs H Q E h=>?_) (fun bp A outer s H vs Q E hr h=>?_)
 ·obtain⟨r,dx,a,b,rfl,_⟩:=h;rfl
 ·obtain⟨r,dx,a,b,rfl,hp,k⟩:=h;refine⟨_,aN (gr (pv 0) (pv 1) rfl) (bg (gr (pv 0) (pv 2) rfl)),?_⟩;refine⟨_,rfl,_,rfl,r,CQ,dx,[],rfl,hp,T.cl,T.nl,(by show 0<1000;decide),?_⟩
  refine⟨_,rfl,_,rfl,r,CQ,dx,_,rfl,Z2j,T.cl,T.nr,(by show 1<1000;decide),?_⟩
  rw [j0];exact k _ (by rw [Z2j];rfl) (Only.upd _)
end
theorem pG{C C' d d' a:Addr}{p:Int}{fs:List (Str×V)}(h:fs.head?.map (·.1)≠some ("form" : Str)):(HO.ins C d fs)≠.ins C' d' (rf a p):=by
 intro z;injection z with _ _ z
 rw [z]at h;exact h rfl
theorem MolAt.onlyR{CM CA CB CR r dx a:Addr}{p:Int}{H H':Hp}{t al bl:Addr}{as ds:List Addr}{M:Fk.Mol}(m:MolAt CM CA CB H t al bl as ds M)(o:Only r H H')(hr:H r=some (.ins CR dx (rf a p))):MolAt CM CA CB H' t al bl as ds M:=by
 have nl:∀ {l:List V}{b:Addr},H b=some (.lst l)->b≠r:=fun e=>az e hr (by intro z;cases z)
 refine⟨?_,o _ _ m.atl (nl m.atl),m.ats.keep fun t x _ h=>?_,o _ _ m.bdl (nl m.bdl),m.bds.keep fun t x _ h=>?_⟩
 ·obtain⟨dm,e⟩:=m.top;exact⟨dm,o _ _ e (az e hr (pG (by show some ("atoms" : Str)≠some "form";decide)))⟩
 ·obtain⟨d,e⟩:=h;exact⟨d,o _ _ e (az e hr (pG (by show some ("element" : Str)≠some "form";decide)))⟩
 ·obtain⟨d,e⟩:=h;exact⟨d,o _ _ e (az e hr (pG (by show some ("a" : Str)≠some "form";decide)))⟩
theorem MolAt.updL{CM CA CB D:Addr}{H:Hp}{t al bl:Addr}{as ds:List Addr}{M:Fk.Mol}{l l':List V}(m:MolAt CM CA CB H t al bl as ds M)(hD:H D=some (.lst l))(na:al≠D)(nb:bl≠D):MolAt CM CA CB (upd H D (.lst l')) t al bl as ds M:=by
 have ni:∀ {C d b:Addr}{fs:List (Str×V)},H b=some (.ins C d fs)->b≠D:=fun e=>az e hD (by intro z;cases z)
 refine⟨?_,by rw [aj na];exact m.atl,m.ats.keep fun t x _ h=>?_,by rw [aj nb];exact m.bdl,m.bds.keep fun t x _ h=>?_⟩
 ·obtain⟨dm,e⟩:=m.top;exact⟨dm,by rw [aj (ni e)];exact e⟩
 ·obtain⟨d,e⟩:=h;exact⟨d,by rw [aj (ni e)];exact e⟩
 ·obtain⟨d,e⟩:=h;exact⟨d,by rw [aj (ni e)];exact e⟩
theorem MolD.onlyR{CM CA CB CR r dx a D:Addr}{p:Int}{H H':Hp}{t:Addr}{M:Fk.Mol}(h:MolD CM CA CB D H t M)(o:Only r H H')(hr:H r=some (.ins CR dx (rf a p))):MolD CM CA CB D H' t M :=
 let ⟨al,bl,as,ds,a,b,c⟩:=h;⟨al,bl,as,ds,a.onlyR o hr,b,c⟩
theorem MolD.updL{CM CA CB D:Addr}{H:Hp}{t:Addr}{M:Fk.Mol}{l l':List V}(h:MolD CM CA CB D H t M)(hD:H D=some (.lst l)):MolD CM CA CB D (upd H D (.lst l')) t M :=
 let ⟨al,bl,as,ds,a,b,c,d⟩:=h;⟨al,bl,as,ds,a.updL hD c d,b,c,d⟩
theorem Objs.to{α:Type}{R R':Hp->Addr->α->Prop}{H H':Hp}{ts:List Addr}{l:List α}(h:Objs R H ts l)(k:∀ t x,t∈ts->R H t x->R' H' t x):Objs R' H' ts l:=⟨h.1,fun j t x a b=>k t x (gK a) (h.2 j t x a b)⟩
structure EqAt(CQ CM CA CB:Addr)(H:Hp)(er ll rl:Addr)(ls rs:List Addr)(E:Fk.Equation):Prop where
 top:∃ dx,H er=some (.ins CQ dx (zJ ll rl))
 lel:H ll=some (.lst (ls.map V.ref))
 les:Objs (MolA CM CA CB) H ls E.left
 ril:H rl=some (.lst (rs.map V.ref))
 ris:Objs (MolA CM CA CB) H rs E.right
theorem EqAt.same{CQ CM CA CB:Addr}{H H':Hp}{er ll rl:Addr}{ls rs:List Addr}{E:Fk.Equation}(h:EqAt CQ CM CA CB H er ll rl ls rs E)(s:L2.Same H H'):EqAt CQ CM CA CB H' er ll rl ls rs E :=
 ⟨let ⟨dx,e⟩:=h.top;⟨dx,s _ _ e⟩,s _ _ h.lel,h.les.keep fun _ _ _ a=>a.same s,s _ _ h.ril,h.ris.keep fun _ _ _ a=>a.same s⟩
def CV(j:Nat)(b:List Stmt):Scope:=match b[j]? with
 |some x=>match x with
  |.Assign _ (.ListComp _ _ sc _) _=>sc
  |_=>{ kind:=.function,names:=[],isGenerator:=false,isCoroutine:=false }
 |none=>{ kind:=.function,names:=[],isGenerator:=false,isCoroutine:=false }
section
variable{P:Program}{w:World}{K:aq}{mg:Str->Option Value}{base:Heap}{CF CR fF CA CB CM CQ:Addr}
def D5(K:aq)(CF CA CB CM CQ:Addr):Sp:=fun vs H Q E=>∃ (a:Addr)(bs:List Int),vs=[.ref a]/\SqL K H a (bs.map V.int)/\(∀ x∈bs,0<=x/\x<=255) /\
 match sj bs with
 |.ok E=>∀ (H':Hp)(er ll rl:Addr)(ls rs:List Addr),Same H H'->EqAt CQ CM CA CB H' er ll rl ls rs E->E.left.length<=8->E.right.length<=8->Q (.ref er) H'
 |.error e=>FltS CF E H e.1 e.2
theorem jB:cU ["form","reader","left_count","right_count","left","right","k"] ["form"] (bj vW):=⟨rfl,rfl,rfl,by decide +kernel,rfl,by decide +kernel,by decide +kernel⟩
theorem JA:cX ["form","reader","left_count","right_count","left","right","k"] (bj vW) (CV 4 (eP vW)) [("k",6)]:=⟨rfl,by decide +kernel,by decide +kernel,by decide +kernel,by decide +kernel⟩
theorem JB:cX ["form","reader","left_count","right_count","left","right","k"] (bj vW) (CV 5 (eP vW)) [("k",6)]:=⟨rfl,by decide +kernel,by decide +kernel,by decide +kernel,by decide +kernel⟩
theorem LC{f fI fM fN fE fW fJ:Addr}{fd js uY kK Qw BH BC:FuncData}(F:Fun K "read_equation" "read_equation" vW f fd)(T:TR K mg CF CR fF)(Cn:mg "range" = none)
  (mark:∃ a,mg "MARK_equations" = some (.ref a)/\∀ H,SqT K H a (([70,75,81,49]:List Int).map V.int))(cS:∃ u,mg "MOST_ON_A_SIDE" = some u/\RelV (.int 8) u)
  (M:Mk K CR fI)(GI:am P w K mg base CX0 1 fI js ["self","form"] (yE CR))(bI:Binds K js ["self","form"] [])
  (GM:am P w K mg base (CXQ false P w) 2 fM uY ["self","mark"] (Jr K CF CR))(mM:aQ K CR "expect_mark" fM)(bM:Binds K uY ["self","mark"] [])
  (GN:am P w K mg base (CXQ false P w) 3 fN kK ["self","size","least","most"] (iV K CF CR))(mN:aQ K CR "number" fN)(bN:Binds K kK ["self","size","least","most"] [])
  (GW:am P w K mg base (CXQ false P w) 2 fW BH ["self"] (pZ K CF CR))(mW:aQ K CR "finish" fW)(bW:Binds K BH ["self"] [])
  (GE:am P w K mg base (CXQ false P w) 12 fE Qw ["reader"] (vF K CF CR CA CB CM))(mE:mg "read_member" = some (.ref fE))(kE:PySem.W.keepIn K (.ref fE)=true)(bE:Binds K Qw ["reader"] [])
  (J:Mk K CQ fJ)(hJ:mg "Equation" = some (.ref CQ))(GJ:am P w K mg base CX0 1 fJ BC ["self","left","right"] (Ea CQ))(bJ:Binds K BC ["self","left","right"] []) :
  am P w K mg base (CXQ false P w) 13 f fd ["form"] (D5 K CF CA CB CM CQ):=by
 refine kY F jB (fun vs H Q E h=>?_) (fun bp A outer s H vs Q E hr h=>?_)
 ·obtain⟨a,bs,rfl,_⟩:=h;rfl
 ·obtain⟨a,bs,rfl,hS,hb,k⟩:=h;obtain⟨aM,eM,hM⟩:=mark;have eg:Room 2 _:=hr.mono (by decide)
  have j9:Room 3 _:=hr.mono (by decide)
  refine⟨_,aN (di (i:=1) jB.nd rfl (Or.inr rfl) (rq M GI eg rfl T.mgR bI .nil aC (ao (pv 0) aD)))
   (aN (gR (ej (pv 1) T.cl mM GM eg bM .nil gu (ao (Bg (v:=.ref aM) rfl eM rfl) aD)))
   (aN (di (i:=2) jB.nd rfl (Or.inl rfl) (ej (pv 1) T.cl mN GN j9 bN .nil gu (ao bx (ao bx (ao (ay rfl cS) aD)))))
   (aN (di (i:=3) jB.nd rfl (Or.inl rfl) (ej (pv 1) T.cl mN GN j9 bN .nil gu (ao bx (ao bx (ao (ay rfl cS) aD)))))
   (aN (II (E:=E) (i:=4) rfl rfl rfl (fun _ _ h=>h) rfl jB.nd rfl rfl (Bb rfl rfl rfl rfl) (AY rfl Cn (ao (pv 2) aD)) JA (fun s H C cl fp xe=>eT (i:=6) jB.nd rfl (Or.inl rfl)) (fun s H C cl fp xe=>mQ)
      (fun s H C cl fp xe hx=>fO GE hr rfl mE kE bE .nil hx (ao (pv 1) aD)))
   (aN (II (E:=E) (i:=5) rfl rfl rfl (fun _ _ h=>h) rfl jB.nd rfl rfl (Bb rfl rfl rfl rfl) (AY rfl Cn (ao (pv 3) aD)) JB (fun s H C cl fp xe=>eT (i:=6) jB.nd rfl (Or.inl rfl)) (fun s H C cl fp xe=>mQ)
      (fun s H C cl fp xe hx=>fO GE hr rfl mE kE bE .nil hx (ao (pv 1) aD)))
   (aN (gR (Jc (pv 1) T.cl mW GW eg bW .nil gu))
   (bg (dJ (rq J GJ eg rfl hJ bJ .nil aC (ao (pv 4) (ao (pv 5) aD))))))))))),?_⟩
  unfold sj at k;refine⟨_,rfl,fun r dx nr nd ndr=>⟨r,dx,a,rfl,Z2j,fun H1 jQ o1=>⟨rfl,?_⟩⟩⟩;have s1:L2.Same H H1:=fun b o e=>o1 b o (by rw [aj (a9 e nr),aj (a9 e nd)];exact e) (a9 e nr)
  have S1:=s1.seq hS;obtain⟨qC,g1⟩:=id jQ;refine⟨_,rfl,r,qC,_,rfl,g1,cw _ _ (by decide) (by decide),r,a,aM,0,bs,_,rfl,jQ,S1,hM _,fj _,?_⟩
  cases e1:bX bs 0 [70,75,81,49]with
  |error e=>rw [e1]at k;exact FltS.flt k s1 nr
  |ok p =>
   rw [e1]at k;dsimp only at k;have hp:=A2 (fj _) e1;intro H2 mi o2;have s2:=Same.only s1 o2 nr;have S2:=s2.seq hS;obtain⟨eZ,g2⟩:=id mi;refine⟨_,rfl,r,eZ,_,rfl,g2,cw _ _ (by decide) (by decide),r,a,p,1,bs,_,_,rfl,mi,S2,hp,hb,?_⟩
   cases e2:aW bs p 1 1 8 with
   |error e=>rw [e2]at k;exact FltS.flt k s2 nr
   |ok n =>
    rw [e2]at k;dsimp only at k;obtain⟨q1,q2,q3,_⟩:=dA e2;intro H3 oa o3;have s3:=Same.only s2 o3 nr;have S3:=s3.seq hS;obtain⟨rY,g3⟩:=id oa;refine⟨_,rfl,r,rY,_,rfl,g3,cw _ _ (by decide) (by decide),r,a,p+1,1,bs,_,_,rfl,oa,S3,by omega,hb,?_⟩
    cases e3:aW bs (p+1) 1 1 8 with
    |error e=>rw [e3]at k;exact FltS.flt k s3 nr
    |ok m =>
     rw [e3]at k;dsimp only at k;obtain⟨m1,m2,m3,_⟩:=dA e3;intro H4 sB o4;have s4:=Same.only s3 o4 nr;obtain⟨rZ,g4⟩:=id sB;refine⟨_,rfl,n,rfl,by omega,by omega,fun al sD=>Fg (lo:=0) (n:=n.toNat) (fun i H'=>∃ (ts:List Addr)(l1:List Fk.Mol)(q:Nat),L2.Same H H'/\dW CR H' r a q/\q<=bs.length/\H' al=some (.lst (ts.map V.ref))/\l1.length=i/\Objs (MolD CM CA CB al) H' ts l1 /\
       bY bs n.toNat (p+2)=(match bY bs (n.toNat-i) q with |.error e=>.error e |.ok y=>.ok (l1++y.1,y.2)))
      ⟨[],[],p+2,s4.trans (RD.Same.new sD),⟨rZ,by rw [aj (a9 g4 sD)];exact g4⟩,by omega,Z2j,rfl,Objs.nil,?_⟩ ?_ ?_⟩
     ·rw [zi];cases bY bs n.toNat (p+2)<;>rfl
     ·rintro i H' hi ⟨ts,l1,q,s5,kN,hq,hal5,hl1,hO,hk⟩;obtain⟨se,g5⟩:=id kN;have Ab:H al=none:=s4.free sD;have hn:n.toNat-i=(n.toNat-(i+1))+1:=by omega
      rw [hn,A7]at hk;refine⟨rfl,_,rfl,r,a,q,bs,rfl,kN,s5.seq hS,hq,hb,?_⟩;cases e4:eV bs q with
      |error e =>
       rw [e4]at hk;dsimp only at hk;rw [hk]at k;exact FltS.flt k s5 nr
      |ok x =>
       rw [e4]at hk;dsimp only at hk;intro H6 t ta tb as ds sC o6 na nb mo wf;have s6:=Same.only s5 o6 nr;obtain⟨qD,g6⟩:=id sC;have tP:r≠al:=az g5 hal5 (by intro z;cases z)
       have gW:H6 al=some (.lst (ts.map V.ref)):=o6 _ _ hal5 tP.symm;have n1:ta≠al:=fun z=>by rw [z,hal5]at na;cases na
       have n2:tb≠al:=fun z=>by rw [z,hal5]at nb;cases nb
       refine⟨_,gW,by rw [aT,hO.1,hl1,ak];omega,ts++[t],l1++[x.1],x.2,fun b o e=>?_,⟨qD,by rw [aj tP];exact g6⟩,Fx e4,by rw [Z2j,fL];rfl,by simp [hl1],Objs.snoc (hO.keep fun t' x' _ ha=>(ha.onlyR o6 g5).updL gW) ⟨ta,tb,as,ds,mo.updL gW n1 n2,wf,n1,n2⟩,?_⟩
       ·rw [aj (a9 e Ab)];exact s6 _ _ e
       ·rw [hk];cases bY bs (n.toNat-(i+1)) x.2 with
        |error e=>rfl
        |ok y=>simp
     ·rintro H5 ⟨ls,l1,q,s5,kN,hq,hal5,hl1,hO,hk⟩;rw [uK,Oh]at hk;dsimp only at hk;rw [hk]at k;simp only [jY]at k;obtain⟨se,g5⟩:=id kN;have Ab:H al=none:=s4.free sD;refine⟨_,rfl,m,rfl,by omega,by omega,fun rl xk=>Fg (lo:=0) (n:=m.toNat) (fun i H'=>∃ (ts:List Addr)(l2:List Fk.Mol)(q':Nat),L2.Same H H'/\dW CR H' r a q'/\q'<=bs.length/\H' rl=some (.lst (ts.map V.ref))/\l2.length=i/\Objs (MolD CM CA CB rl) H' ts l2 /\
       H' al=some (.lst (ls.map V.ref))/\Objs (MolD CM CA CB rl) H' ls l1/\bY bs m.toNat q=(match bY bs (m.toNat-i) q' with |.error e=>.error e |.ok y=>.ok (l2++y.1,y.2)))
       ⟨[],[],q,s5.trans (RD.Same.new xk),⟨se,by rw [aj (a9 g5 xk)];exact g5⟩,hq,Z2j,rfl,Objs.nil,by rw [aj (a9 hal5 xk)];exact hal5,hO.to fun t x _ ha=>?_,?_⟩ ?_ ?_⟩
      ·obtain⟨u1,u2,u3,u4,u5,u6,u7⟩:=ha.toA.toD (D:=rl) xk;exact⟨u1,u2,u3,u4,u5.same (RD.Same.new xk),u6,u7⟩
      ·rw [zi];cases bY bs m.toNat q<;>rfl
      ·rintro i H' hi ⟨ts,l2,q',s6,sC,hq6,hrl6,ji,hO2,gW,hO6,jv⟩;obtain⟨qD,g6⟩:=id sC;have nrl:H rl=none:=s5.free xk;have arl:al≠rl:=a9 hal5 xk;have hn:m.toNat-i=(m.toNat-(i+1))+1:=by omega
       rw [hn,A7]at jv;refine⟨rfl,_,rfl,r,a,q',bs,rfl,sC,s6.seq hS,hq6,hb,?_⟩;cases e4:eV bs q' with
       |error e =>
        rw [e4]at jv;dsimp only at jv;rw [jv]at k;exact FltS.flt k s6 nr
       |ok x =>
        rw [e4]at jv;dsimp only at jv;intro H7 t ta tb as ds wM o7 na nb mo wf;have s7:=Same.only s6 o7 nr;obtain⟨FP,g7⟩:=id wM;have Rw:r≠rl:=az g6 hrl6 (by intro z;cases z)
        have tP:r≠al:=az g6 gW (by intro z;cases z)
        have sP:H7 rl=some (.lst (ts.map V.ref)):=o7 _ _ hrl6 Rw.symm;have n1:ta≠rl:=fun z=>by rw [z,hrl6]at na;cases na
        have n2:tb≠rl:=fun z=>by rw [z,hrl6]at nb;cases nb
        refine⟨_,sP,by rw [aT,hO2.1,ji,ak];omega,ts++[t],l2++[x.1],x.2,fun b o e=>?_,⟨FP,by rw [aj Rw];exact g7⟩,Fx e4,by rw [Z2j,fL];rfl,by simp [ji],
         Objs.snoc (hO2.keep fun t' x' _ ha=>(ha.onlyR o7 g6).updL sP) ⟨ta,tb,as,ds,mo.updL sP n1 n2,wf,n1,n2⟩,by rw [aj arl];exact o7 _ _ gW tP.symm,hO6.keep fun t' x' _ ha=>(ha.onlyR o7 g6).updL sP,?_⟩
        ·rw [aj (a9 e nrl)];exact s7 _ _ e
        ·rw [jv];cases bY bs (m.toNat-(i+1)) x.2 with
         |error e=>rfl
         |ok y=>simp
      ·rintro H6 ⟨rs,l2,q',s6,sC,hq6,hrl6,ji,hO2,gW,hO6,jv⟩;rw [uK,Oh]at jv;dsimp only at jv;rw [jv]at k;simp only [jY]at k;obtain⟨qD,g6⟩:=id sC;refine⟨_,rfl,r,qD,_,rfl,g6,cw _ _ (by decide) (by decide),r,a,q',bs,rfl,sC,s6.seq hS,hq6,fun hqe H7 s7=>?_,fun cc=>?_⟩
       ·rw [ac (by omega)]at k
        refine⟨_,rfl,_,rfl,fun u ud nu F8 und=>⟨u,ud,al,rl,rfl,Z2j,fun H8 hu8 o8=>⟨rfl,?_⟩⟩⟩;have s8:L2.Same H7 H8:=fun b o e=>o8 b o (by rw [aj (a9 e nu),aj (a9 e F8)];exact e) (a9 e nu)
        have DL:=s7.trans s8;exact k H8 u al rl ls rs (s6.trans DL) ⟨⟨ud,hu8⟩,DL _ _ gW,hO6.to fun _ _ _ ha=>ha.toA.same DL,DL _ _ hrl6,hO2.to fun _ _ _ ha=>ha.toA.same DL⟩ (by show l1.length<=8;omega) (by show l2.length<=8;omega)
       ·rw [ae cc]at k;exact FltS.flt k s6 nr
end
end BK
end
section
namespace BK
open PySem PySem.Spec PyProof.Rows L2 EX RD LM FM
def ip(k:Fk.Key):Int×Int:=((k.1:Int),(k.2:Int))
theorem xD{a b:Fk.Key}(h:ip a=ip b):a=b:=by
 unfold ip at h;injection h with h1 h2
 exact Prod.ext (by omega) (by omega)
theorem jx{a b:Fk.Key}:pk (ip a)=pk (ip b)↔a=b:=⟨fun h=>xD (yp h),fun h=>by rw [h]⟩
def enc(cs:List (Fk.Key×Nat)):List (List Key×V):=cs.map fun x=>(pk (ip x.1),.int (x.2:Int))
theorem IR(cs:List (Fk.Key×Nat)):(enc cs).length=cs.length:=aT ..
theorem si(cs:List (Fk.Key×Nat))(k:Fk.Key):aJ (enc cs) (pk (ip k))=(cs.find? fun x=>decide (x.1=k)).map fun x=>V.int (x.2:Int):=by
 unfold aJ enc;rw [List.find?_map];have:((fun kv:List Key×V=>decide (kv.1=pk (ip k))) ∘ fun x:Fk.Key×Nat=>(pk (ip x.1),V.int (x.2:Int)))=fun x=>decide (x.1=k):=by
  funext x
  show decide (pk (ip x.1)=pk (ip k))=_;by_cases h:x.1=k
  ·rw [ai h,ai (jx.mpr h)]
  ·rw [aw h,aw (fun z=>h (jx.mp z))]
 rw [this,Option.map_map];rfl
theorem nO(cs:List (Fk.Key×Nat))(k:Fk.Key):(aJ (enc cs) (pk (ip k))).getD (.int 0)=.int (d7 cs k:Int):=by
 rw [si];unfold d7;cases cs.find? fun x=>decide (x.1=k)<;>rfl
theorem sh(cs:List (Fk.Key×Nat))(k:Fk.Key)(n:Nat):aE (enc cs) (pk (ip k)) (.int (n:Int))=enc (jy cs k n):=by
 unfold aE jy enc;rw [List.any_map];have:((fun kv:List Key×V=>decide (kv.1=pk (ip k))) ∘ fun x:Fk.Key×Nat=>(pk (ip x.1),V.int (x.2:Int)))=fun x=>decide (x.1=k):=by
  funext x
  show decide (pk (ip x.1)=pk (ip k))=_;by_cases h:x.1=k
  ·rw [ai h,ai (jx.mpr h)]
  ·rw [aw h,aw (fun z=>h (jx.mp z))]
 rw [this];split
 ·rw [jL,jL];refine qY fun x _=>?_;show(if pk (ip x.1)=pk (ip k)then(pk (ip x.1),V.int (n:Int))else(pk (ip x.1),V.int (x.2:Int)))=_;by_cases h:x.1=k
  ·rw [ae (jx.mpr h)];show _=(pk (ip (if x.1=k then(x.1,n)else x).1),V.int (((if x.1=k then(x.1,n)else x).2:Nat):Int));rw [ae h]
  ·rw [ac (fun z=>h (jx.mp z))];show _=(pk (ip (if x.1=k then(x.1,n)else x).1),V.int (((if x.1=k then(x.1,n)else x).2:Nat):Int));rw [ac h]
 ·rw [fL];rfl
section
variable{P:Program}{w:World}{K:aq}{mg:Str->Option Value}{base:Heap}{CF CR fF CA CB CM:Addr}
def vA(K:aq)(P:Program)(w:World):Sp:=fun vs H Q _=>∃ (a b:Addr)(cs:List (Fk.Key×Nat))(k:Fk.Key)(c:Nat),vs=[.ref a,.ref b,.int (c:Int)]/\DXe K P w H a (enc cs)/\SqT K H b [.int (k.1:Int),.int (k.2:Int)]/\cs.length<1000 /\
 ∀ H',Only a H H'->DXe K P w H' a (enc (eU cs k c))->Q .non H'
theorem DP:cU ["counts","unit","count"] ["counts","unit","count"] (bj HA):=⟨rfl,rfl,rfl,by decide +kernel,rfl,by decide +kernel,by decide +kernel⟩
theorem Dk{f:Addr}{fd:FuncData}(F:Fun K "add_units" "add_units" HA f fd):am P w K mg base CX0 1 f fd ["counts","unit","count"] (vA K P w):=by
 refine F.ok DP (fun vs H Q E h=>?_) (fun bp A outer s H vs Q E hr h=>?_)
 ·obtain⟨a,b,cs,k,c,rfl,_⟩:=h;rfl
 ·obtain⟨a,b,cs,k,c,rfl,D,hb,hl,kk⟩:=h;have hu:=eE hr;refine⟨_,bg (bZ (gq kZ (pv 2) bx (eS _)) (bg (Ps hu (pv 0) (pv 1) (aZ kI (oW hu (pv 0) (pv 1) bx ⟨rfl,rfl,rfl,rfl⟩) (pv 2)) rfl)) il),?_⟩;unfold eU at kk;refine⟨_,rfl,_,_,rfl,rfl,_,rfl,bt (fun h1=>?_) (fun h1=>?_)⟩
  ·have hc:0<c:=by have:=ap h1;omega
   rw [ae hc]at kk;refine⟨_,rfl,a,enc cs,rfl,D,_,rfl,b,pk (ip k),rfl,D,hb,_,rfl,(d7 cs k:Int),(c:Int),nO cs k,rfl,_,rfl,_,rfl,a,b,enc cs,pk (ip k),rfl,rfl,D,hb,by rw [IR,ak];omega,fun H4 k4 d4=>?_⟩
   refine kk H4 k4 ?_;rw [<-sh];have:((d7 cs k+c:Nat):Int)=(d7 cs k:Int)+(c:Int):=by omega
   rw [this];exact d4
  ·have hc:¬ 0<c:=fun z=>h1 (ai (by omega))
   rw [ac hc]at kk;exact kk H (Only.refl _ _) D
def O7(K:aq)(P:Program)(w:World)(CA CB CM:Addr):Sp:=fun vs H Q _=>∃ (mr al bl:Addr)(as ds:List Addr)(M:Fk.Mol),vs=[.ref mr]/\MolAt CM CA CB H mr al bl as ds M/\Wf M/\∀ H' a,Same H H'->H a=none->DXe K P w H' a (enc (lI M.atoms []))->Q (.ref a) H'
theorem jf:cU ["molecule","counts","atom"] ["molecule"] (bj HJ):=⟨rfl,rfl,rfl,by decide +kernel,rfl,by decide +kernel,by decide +kernel⟩
theorem tI{f fA aH:Addr}{fd gw:FuncData}(F:Fun K "count_units" "count_units" HJ f fd)(gJ:uF K CM)(TA:uC K CA)(eH:mg "HYDROGEN" = some (.ref aH))(hH:∀ H,SqT K H aH (([1,0]:List Int).map V.int))
  (GA:am P w K mg base CX0 1 fA gw ["counts","unit","count"] (vA K P w))(mA:mg "add_units" = some (.ref fA))(kA:PySem.W.keepIn K (.ref fA)=true)(bA:Binds K gw ["counts","unit","count"] []) :
  am P w K mg base CX0 2 f fd ["molecule"] (O7 K P w CA CB CM):=by
 refine F.ok jf (fun vs H Q E h=>?_) (fun bp A outer s H vs Q E hr h=>?_)
 ·obtain⟨mr,al,bl,as,ds,M,rfl,_⟩:=h;rfl
 ·obtain⟨mr,al,bl,as,ds,M,rfl,mo,wf,k⟩:=h;refine⟨_,aN (di (i:=1) jf.nd rfl (Or.inl rfl) Pw)
   (aN (lH PassesOwn.never rfl (qx (bq (pv 0) rfl)) (eT (i:=2) jf.nd rfl (Or.inl rfl))
     (aN (gR (fO GA hr rfl mA kA bA .nil aC (ao (pv 1) (ao (qA (ao (bq (pv 2) rfl) (ao (bq (pv 2) rfl) aD))) (ao bx aD)))))
     (bg (gR (fO GA hr rfl mA kA bA .nil aC (ao (pv 1) (ao (Bg (v:=.ref aH) rfl eH rfl) (ao (bq (pv 2) rfl) aD))))))))
   (bg (dJ (pv 1)))),?_⟩
  intro a ha hs;have sa:L2.Same H (upd H a (gP P w a [])):=RD.Same.new ha;obtain⟨dm,hm⟩:=mo.top;have wn:=wf.n;refine⟨_,rfl,mr,CM,dm,_,_,rfl,sa _ _ hm,gJ.cl,gJ.na,vX _ _,al,rfl,⟨_,SqL.of (sa _ _ mo.atl)⟩,FB (K:=K) (a:=al) (xs:=as.map V.ref) (fun i σ H'=>∃ v:Option V,σ=[some (.ref mr),some (.ref a),v]/\L2.Same H H'/\DXe K P w H' a (enc (lI (M.atoms.take i) [])))
   ⟨none,rfl,sa,DX.empty hs⟩ (fun i σ H' _ ⟨_,_,s',_⟩=>SqL.of (s' _ _ mo.atl)) ?_ ?_⟩
  ·rintro i y σ H1 hi ⟨v,rfl,s1,D1⟩;have vh:=mo.same s1;obtain⟨t,x,rfl,ht,hx,dt,gt⟩:=vh.ats.at hi;have li:i<M.atoms.length:=(ee.mp hx).1;have C7:=HS (M.atoms.take i) [];rw [lW]at C7;simp only [lA]at C7;refine⟨_,rfl,_,rfl,t,CA,dt,_,_,rfl,gt,TA.cl,TA.ne,Z9J _,_,rfl,t,CA,dt,_,_,rfl,gt,TA.cl,TA.ni,Z9K _,(by show 2<=sizeLine;decide),fun U hU=>?_⟩
   have sU:L2.Same H1 (upd H1 U (.tup [.int (x.element:Int),.int (x.isotope:Int)])):=RD.Same.new hU;refine⟨a,U,lI (M.atoms.take i) [],(x.element,x.isotope),1,rfl,D1.same sU,SqT.of Z2j,by omega,fun H2 o2 D2=>?_⟩
   have s2:L2.Same H H2:=fun b o e=>o2 _ _ (sU _ _ (s1 _ _ e)) (fun z=>by rw [z,ha]at e;cases e)
   have aU:a≠t:=fun z=>by
    obtain⟨xs,dd⟩:=D1;have:=dd.at_;rw [z,gt]at this;cases this
   have zK:H2 t=some (.ins CA dt (lJ x)):=o2 _ _ (sU _ _ gt) (Ne.symm aU);have l2:=Ji (lI (M.atoms.take i) []) (x.element,x.isotope) 1;refine⟨_,rfl,_,rfl,t,CA,dt,_,_,rfl,zK,TA.cl,TA.nh,Fc _,a,aH,_,(1,0),x.hydrogens,rfl,D2,hH _,by omega,fun H3 o3 D3=>?_⟩
   refine⟨_,rfl,fun b o e=>o3 _ _ (s2 _ _ e) (fun z=>by rw [z,ha]at e;cases e),?_⟩
   have:lI (M.atoms.take (i+1)) []=eU (eU (lI (M.atoms.take i) []) (x.element,x.isotope) 1) (1,0) x.hydrogens:=by
    unfold lI;rw [mJ,hx,List.foldl_append];rfl
   rw [this];exact D3
  ·rintro σ H1 ⟨v,rfl,s1,D1⟩;rw [aT,mo.ats.1,qw]at D1;exact⟨_,rfl,k H1 a s1 ha D1⟩
end
theorem PK:∀ a b:List Int,LA.dot a b=(List.zipWith (fun x y=>x*y) a b).sum
 |[],[]=>rfl
 |[],_::_=>rfl
 |_::_,[]=>rfl
 |x::a,y::b=>by rw [List.zipWith_cons_cons,List.sum_cons,<-PK a b];rfl
theorem ZbK{f:Int->Int->Int}{a b:List Int}{i:Nat}{x y:Int}(hx:a[i]?=some x)(hy:b[i]?=some y):(List.zipWith f a b).take (i+1)=(List.zipWith f a b).take i++[f x y]:=by
 rw [mJ,List.getElem?_zipWith,hx,hy];rfl
noncomputable def xJ(b:List Stmt):Scope:=match b.getLast? with
 |some (.Return (some (.Call _ [.ListComp _ _ sc _] _ _)) _)=>sc
 |_=>{ kind:=.function,names:=[],isGenerator:=false,isCoroutine:=false }
theorem ot{xs:List Int}{i:Nat}{v:V}(h:(xs.map V.int)[i]?=some v):∃ x,xs[i]?=some x/\v=.int x:=by
 rw [dP]at h;cases e:xs[i]? with
 |none=>rw [e]at h;cases h
 |some x=>rw [e]at h;exact⟨x,rfl,(Option.some.inj h).symm⟩
section
variable{P:Program}{w:World}{K:aq}{mg:Str->Option Value}{base:Heap}{CF CR fF CA CB CM CQ CW CN CT:Addr}
def qe(K:aq):Sp:=fun vs H Q _=>∃ (a b:Addr)(xs ys:List Int),vs=[.ref a,.ref b]/\SqL K H a (xs.map V.int)/\SqL K H b (ys.map V.int)/\xs.length<=1000/\(∀ (i:Nat)(x y:Int),xs[i]?=some x->ys[i]?=some y->IntMulOk x y)/\∀ H',L2.Same H H'->Q (.int (LA.dot xs ys)) H'
theorem jd:cU ["row","other","a","b"] ["row","other"] (bj A6):=⟨rfl,rfl,rfl,by decide +kernel,rfl,by decide +kernel,by decide +kernel⟩
theorem rM:cX ["row","other","a","b"] (bj A6) (xJ (eP A6)) [("a",2),("b",3)]:=⟨rfl,by decide +kernel,by decide +kernel,by decide +kernel,by decide +kernel⟩
theorem x8{f:Addr}{fd:FuncData}(F:Fun K "product" "product" A6 f fd)(hs:mg "sum" = none)(hz:mg "zip" = none):am P w K mg base CX0 1 f fd ["row","other"] (qe K):=by
 refine F.ok jd (fun vs H Q E h=>?_) (fun bp A outer s H vs Q E hr h=>?_)
 ·obtain⟨a,b,xs,ys,rfl,_⟩:=h;rfl
 ·obtain⟨a,b,xs,ys,rfl,ha,hb,hl,hm,q⟩:=h;refine⟨_,bg (dJ (l5 (nG rfl) (by rfl) hs boot_sum (ao (iR rfl jd.nd (yo rfl hz (ao (pv 0) (ao (pv 1) aD))) rM
   (fun s H C cl fp=>P7 (n:=2) K rfl rfl (kr (eT (i:=2) jd.nd rfl (Or.inl rfl)) (kr (eT (i:=3) jd.nd rfl (Or.inl rfl)) wc))) (fun s H C cl fp=>mQ)
   (fun s H C cl fp=>aZ PH (pv 2) (pv 3))) aD))),?_⟩
  refine⟨_,rfl,_,rfl,a,b,_,_,rfl,ha,hb,fun D hD=>xK (K:=K) (a:=a) (b:=b) (xs:=xs.map V.int) (ys:=ys.map V.int) (n:=(List.zipWith (fun x y:Int=>x*y) xs ys).length) (fun i H2=>L2.Same H H2/\H2 D=some (.lst (((List.zipWith (fun x y:Int=>x*y) xs ys).take i).map V.int)))
   ⟨RD.Same.new hD,Z2j⟩ (by rw [aT,aT,List.length_zipWith]) (fun i H2 h=>⟨h.1.seq ha,h.1.seq hb⟩) ?_ ?_⟩
  ·rintro i x y H2 U hx hy ⟨s2,j7⟩ hU;obtain⟨x,ex,rfl⟩:=ot hx;obtain⟨y,ey,rfl⟩:=ot hy;have sU:L2.Same H2 (upd H2 U (.tup [.int x,.int y])):=RD.Same.new hU;refine⟨U,_,rfl,SqT.of Z2j,rfl,_,_,rfl,_,_,rfl,rfl,rfl,_,rfl,_,rfl,x,y,rfl,rfl,hm i x y ex ey,_,sU _ _ j7,?_,fun b' o e=>?_,?_⟩
   ·rw [aT,lW,List.length_zipWith,ak];omega
   ·rw [aj (a9 e hD)];exact sU _ _ (s2 _ _ e)
   ·rw [Z2j,ZbK ex ey,fL];rfl
  ·rintro H2 ⟨s2,j7⟩;rw [qw]at j7;refine⟨D,_,rfl,SqL.of j7,?_⟩;rw [<-PK];exact q H2 s2
def sgn(E:Fk.Equation):List (Fk.Mol×Int):=(E.left.map fun M=>(M,1))++E.right.map fun M=>(M,-1)
def SgA(CM CA CB:Addr)(H:Hp)(t:Addr)(x:Fk.Mol×Int):Prop:=∃ m,H t=some (.tup [.ref m,.int x.2])/\MolA CM CA CB H m x.1
theorem oO{α:Type}{R:Hp->Addr->α->Prop}{H:Hp}{ts us:List Addr}{l m:List α}(h1:Objs R H ts l)(h2:Objs R H us m):Objs R H (ts++us) (l++m):=by
 refine⟨by rw [gC,gC,h1.1,h2.1],fun j t x a b=>?_⟩
 by_cases hj:j<ts.length
 ·rw [mI hj]at a;rw [mI (by rw [<-h1.1];exact hj)]at b
  exact h1.2 j t x a b
 ·rw [uH (by omega)]at a
  rw [uH (by rw [<-h1.1];omega),<-h1.1]at b
  exact h2.2 _ t x a b
noncomputable def lcL(b:List Stmt):Scope:=match b.getLast? with
 |some (.Return (some (.BinOp (.ListComp _ _ sc _) _ _ _)) _)=>sc
 |_=>{ kind:=.function,names:=[],isGenerator:=false,isCoroutine:=false }
noncomputable def lcR(b:List Stmt):Scope:=match b.getLast? with
 |some (.Return (some (.BinOp _ _ (.ListComp _ _ sc _) _)) _)=>sc
 |_=>{ kind:=.function,names:=[],isGenerator:=false,isCoroutine:=false }
def qf(CA CB CM CQ:Addr):Sp:=fun vs H Q _=>∃ (er ll rl:Addr)(ls rs:List Addr)(q:Fk.Equation),vs=[.ref er]/\EqAt CQ CM CA CB H er ll rl ls rs q/\q.left.length<=8/\q.right.length<=8 /\
 ∀ H' l ts,L2.Same H H'->H l=none->H' l=some (.lst (ts.map V.ref))->Objs (SgA CM CA CB) H' ts (sgn q)->Q (.ref l) H'
theorem jE:cU ["equation","molecule"] ["equation"] (bj vV):=⟨rfl,rfl,rfl,by decide +kernel,rfl,by decide +kernel,by decide +kernel⟩
theorem ww:cX ["equation","molecule"] (bj vV) (lcL (eP vV)) [("molecule",1)]:=⟨rfl,by decide +kernel,by decide +kernel,by decide +kernel,by decide +kernel⟩
theorem wz:cX ["equation","molecule"] (bj vV) (lcR (eP vV)) [("molecule",1)]:=⟨rfl,by decide +kernel,by decide +kernel,by decide +kernel,by decide +kernel⟩
def qT(H:Hp)(t:Addr)(x:List V):Prop:=H t=some (.tup x)
theorem Pf{H1 H3:Hp}{D u:Addr}{us:List Addr}{l:List (List V)}{x:List V}(nD:H1 D=none)(s:L2.Same H1 H3)(hD:H3 D=some (.lst (us.map V.ref)))(hT:Objs qT H3 us l)(hu:H3 u=some (.tup x))(hl:us.length<=1000) :
  ∃ acc,H3 D=some (.lst acc)/\acc.length<sizeLine/\(L2.Same H1 (upd H3 D (.lst (acc++[.ref u])))/\∃ Aj,upd H3 D (.lst (acc++[.ref u])) D=some (.lst (Aj.map V.ref))/\Objs qT (upd H3 D (.lst (acc++[.ref u]))) Aj (l++[x])):=by
 refine⟨_,hD,by rw [aT,ak];omega,fun b o e=>?_,us++[u],by rw [Z2j,fL];rfl,Objs.snoc (hT.keep fun t y _ e=>?_) ?_⟩
 ·rw [aj (a9 e nD)];exact s _ _ e
 ·show upd H3 D _ t=_;rw [aj (az e hD (by intro z;cases z))];exact e
 ·show upd H3 D _ u=_;rw [aj (az hu hD (by intro z;cases z))];exact hu
theorem Dx{f:Addr}{fd:FuncData}(F:Fun K "signed_molecules" "signed_molecules" vV f fd)(T:TQ K CQ):am P w K mg base CX0 1 f fd ["equation"] (qf CA CB CM CQ):=by
 refine F.ok jE (fun vs H Q E h=>?_) (fun bp A outer s H vs Q E hr h=>?_)
 ·obtain⟨er,ll,rl,ls,rs,q,rfl,_⟩:=h;rfl
 ·obtain⟨er,ll,rl,ls,rs,q,rfl,hq,h8,h9,k⟩:=h;obtain⟨de,he⟩:=hq.top;refine⟨_,bg (dJ (aZ oS (iR rfl jE.nd (qx (bq (pv 0) rfl)) ww (fun s H C cl fp=>eT (i:=1) jE.nd rfl (Or.inl rfl)) (fun s H C cl fp=>mQ)
    (fun s H C cl fp=>qA (ao (pv 1) (ao bx aD))))
   (iR rfl jE.nd (qx (bq (pv 0) rfl)) wz (fun s H C cl fp=>eT (i:=1) jE.nd rfl (Or.inl rfl)) (fun s H C cl fp=>mQ)
     (fun s H C cl fp=>qA (ao (pv 1) (ao (lg FD bx) aD)))))),?_⟩
  have l8:ls.length<=8:=by rw [hq.les.1];exact h8
  have l9:rs.length<=8:=by rw [hq.ris.1];exact h9
  refine⟨_,rfl,er,CQ,de,_,_,rfl,he,T.cl,T.nl,Ow _ _,ll,rfl,⟨_,SqL.of hq.lel⟩,fun D hD=>zt (K:=K) (a:=ll) (xs:=ls.map V.ref) (fun i H2=>L2.Same H H2/\∃ us,H2 D=some (.lst (us.map V.ref))/\Objs qT H2 us ((ls.take i).map fun m=>[.ref m,.int 1]))
   ⟨RD.Same.new hD,[],Z2j,Objs.nil⟩ (fun i H2 _ h=>SqL.of (h.1 _ _ hq.lel)) ?_ ?_⟩
  ·rintro i y H2 hi ⟨s2,us,j7,hT⟩;obtain⟨t,M,rfl,e1,e2,e3⟩:=hq.les.at hi;refine⟨rfl,_,rfl,(by show 2<=sizeLine;decide),fun u hu=>?_⟩
   have sU:L2.Same H2 (upd H2 u (.tup [.ref t,.int 1])):=RD.Same.new hu;have:=Pf hD (s2.trans sU) (sU _ _ j7) (hT.keep fun t y _ e=>sU _ _ e) (Z2j (H:=H2) (a:=u)) (by rw [hT.1,aT,lW];omega)
   rw [mJ,e1,fL];exact this
  ·rintro H2 ⟨s2,us,j7,hT⟩;rw [aT,qw]at hT;obtain⟨de2,he2⟩:=(hq.same s2).top;refine⟨_,rfl,er,CQ,de2,_,_,rfl,he2,T.cl,T.nr,OI _ _,rl,rfl,⟨_,SqL.of (s2 _ _ hq.ril)⟩,fun D' BQ=>zt (K:=K) (a:=rl) (xs:=rs.map V.ref) (fun i H3=>L2.Same H2 H3/\∃ us,H3 D'=some (.lst (us.map V.ref))/\Objs qT H3 us ((rs.take i).map fun m=>[.ref m,.int (-1)]))
    ⟨RD.Same.new BQ,[],Z2j,Objs.nil⟩ (fun i H3 _ h=>SqL.of (h.1 _ _ (s2 _ _ hq.ril))) ?_ ?_⟩
   ·rintro i y H3 hi ⟨s3,us,hD3,hT3⟩;obtain⟨t,M,rfl,e1,e2,e3⟩:=hq.ris.at hi;refine⟨rfl,_,rfl,_,rfl,(by show 2<=sizeLine;decide),fun u hu=>?_⟩
    have sU:L2.Same H3 (upd H3 u (.tup [.ref t,.int (-1)])):=RD.Same.new hu;have:=Pf BQ (s3.trans sU) (sU _ _ hD3) (hT3.keep fun t y _ e=>sU _ _ e) (Z2j (H:=H3) (a:=u)) (by rw [hT3.1,aT,lW];omega)
    have e:(rs.take (i+1)).map (fun m=>[V.ref m,V.int (-1)])=(rs.take i).map (fun m=>[V.ref m,V.int (-1)])++[[V.ref t,V.int (-1)]]:=by rw [mJ,e1,fL];rfl
    rw [<-e]at this;exact this
   ·rintro H3 ⟨s3,Aj,hD3,hT3⟩;rw [aT,qw]at hT3;have lu:us.length<=8:=by rw [hT.1,aT];exact l8
    have lu':Aj.length<=8:=by rw [hT3.1,aT];exact l9
    refine⟨D,D',_,_,rfl,rfl,s3 _ _ j7,hD3,by rw [aT,aT,ak];omega,fun p hp=>?_⟩
    have sp:L2.Same H3 (upd H3 p (.lst (us.map V.ref++Aj.map V.ref))):=RD.Same.new hp;have s4:=(s2.trans s3).trans sp;have zU:=hq.same s4;refine k _ p (us++Aj) s4 ((s2.trans s3).free hp) (by rw [Z2j,fL]) (oO ⟨?_,fun j t x a b=>?_⟩ ⟨?_,fun j t x a b=>?_⟩)
    ·rw [hT.1,aT,aT,hq.les.1]
    ·have lj:j<ls.length:=by have:=(ee.mp a).1;rw [hT.1,aT]at this;exact this
     rw [dP]at b;cases em:q.left[j]? with
     |none=>rw [em]at b;cases b
     |some M =>
      rw [em]at b;cases b;have et:ls[j]?=some ls[j]:=du lj;exact⟨ls[j],sp _ _ (s3 _ _ (hT.2 j t _ a (by rw [dP,et];rfl))),zU.les.2 j _ M et em⟩
    ·rw [hT3.1,aT,aT,hq.ris.1]
    ·have lj:j<rs.length:=by have:=(ee.mp a).1;rw [hT3.1,aT]at this;exact this
     rw [dP]at b;cases em:q.right[j]? with
     |none=>rw [em]at b;cases b
     |some M =>
      rw [em]at b;cases b;have et:rs[j]?=some rs[j]:=du lj;exact⟨rs[j],sp _ _ (hT3.2 j t _ a (by rw [dP,et];rfl)),zU.ris.2 j _ M et em⟩
end
section
variable{P:Program}{w:World}{K:aq}{mg:Str->Option Value}{base:Heap}{CF CR fF CA CB CM CQ CW CN CT:Addr}
theorem A1{H H':Hp}{r b:Addr}{o:HO}{ys:List V}(h:SqT K H b ys)(k:Only r H H')(hr:H r=some o)(ht:∀ xs,o≠.tup xs)(hf:∀ ob u,o≠.frz ob u):SqT K H' b ys:=by
 rcases h with(h |⟨o',h⟩) |h
 ·exact .inl (.inl (k _ _ h (az h hr (fun z=>ht _ z.symm))))
 ·exact .inl (.inr ⟨o',k _ _ h (az h hr (fun z=>hf _ _ z.symm))⟩)
 ·exact .inr h
theorem _root_.L2.DXe.only{H H':Hp}{r a:Addr}{o:HO}{ah:List (List Key×V)}(h:DXe K P w H a ah)(k:Only r H H')(hr:H r=some o)(ht:∀ xs,o≠.tup xs)(hf:∀ ob u,o≠.frz ob u)(ne:a≠r):DXe K P w H' a ah :=
 let ⟨xs,d⟩:=h;⟨xs,d.keep (fun o e=>k _ _ e ne) fun b ys z=>A1 z k hr ht hf⟩
theorem _root_.L2.DXe.at{H:Hp}{a:Addr}{ah:List (List Key×V)}(h:DXe K P w H a ah):∃ xs,H a=some (gP P w a xs):=by obtain⟨xs,d⟩:=h;exact⟨xs,d.at_⟩
def ke(ks:List Fk.Key)(cg:List Addr):List (List Key×V):=(ks.zip cg).map fun x=>(pk (ip x.1),.ref x.2)
theorem sW{ks:List Fk.Key}{cg:List Addr}(h:ks.length=cg.length):(ke ks cg).length=ks.length:=by
 unfold ke;rw [aT,List.length_zip];omega
theorem Jf:∀ {ks:List Fk.Key}{cg:List Addr}{u:Fk.Key},u∉ks->aJ (ke ks cg) (pk (ip u))=none
 |[],cg,u,_=>rfl
 |k::ks,[],u,_=>rfl
 |k::ks,a::cg,u,h=>by
  rw [bv,b8]at h;show aJ ((pk (ip k),V.ref a)::ke ks cg) _=none;rw [kt (fun z=>h.1 (jx.mp z).symm)];exact Jf h.2
theorem Op:∀ {ks:List Fk.Key}{cg:List Addr}{u:Fk.Key}{a:Addr}{p:Nat},ks.Nodup->ks[p]?=some u->cg[p]?=some a->aJ (ke ks cg) (pk (ip u))=some (.ref a)
 |[],cg,u,a,p,_,h,_=>by simp at h
 |k::ks,[],u,a,p,_,_,h=>by simp at h
 |k::ks,b::cg,u,a,p,nd,h1,h2=>by
  show aJ ((pk (ip k),V.ref b)::ke ks cg) _=_;obtain⟨n1,n2⟩:=lz.mp nd;cases p with
  |zero=>cases h1;cases h2;exact lE rfl
  |succ p =>
   have h1:ks[p]?=some u:=h1;rw [kt (fun z:pk (ip k)=pk (ip u)=>n1 (by rw [jx.mp z];exact gK h1))]
   exact Op n2 h1 h2
theorem sX{ks:List Fk.Key}{cg:List Addr}{u:Fk.Key}{a:Addr}(h:u∉ks)(hl:ks.length=cg.length):aE (ke ks cg) (pk (ip u)) (.ref a)=ke (ks++[u]) (cg++[a]):=by
 unfold aE;rw [v0,Jf h,ac (by simp)]
 unfold ke;rw [List.zip_append hl,fL];rfl
def hZ(n:Nat)(val:Nat->Fk.Key->Int)(u:Fk.Key):List V:=(List.range n).map fun k=>.int (val k u)
structure Tbl(K:aq)(P:Program)(w:World)(H:Hp)(d:Addr)(n:Nat)(ks:List Fk.Key)(cg:List Addr)(val:Nat->Fk.Key->Int):Prop where
 dx:DXe K P w H d (ke ks cg)
 len:ks.length=cg.length
 nd:ks.Nodup
 ndA:cg.Nodup
 row:∀ (p:Nat)(u:Fk.Key)(a:Addr),ks[p]?=some u->cg[p]?=some a->H a=some (.lst (hZ n val u))
 zero:∀ u,u∉ks->∀ k,val k u=0
theorem Tbl.same{H H':Hp}{d:Addr}{n:Nat}{ks:List Fk.Key}{cg:List Addr}{val:Nat->Fk.Key->Int}(t:Tbl K P w H d n ks cg val)(s:L2.Same H H'):Tbl K P w H' d n ks cg val :=
 ⟨t.dx.same s,t.len,t.nd,t.ndA,fun p u a h1 h2=>s _ _ (t.row p u a h1 h2),t.zero⟩
theorem Tbl.congr{H:Hp}{d:Addr}{n:Nat}{ks:List Fk.Key}{cg:List Addr}{val yT:Nat->Fk.Key->Int}(t:Tbl K P w H d n ks cg val)(h:∀ k u,val k u=yT k u):Tbl K P w H d n ks cg yT:=by
 have e:val=yT:=funext fun k=>funext fun u=>h k u;rw [<-e];exact t
theorem Tbl.get{H:Hp}{d:Addr}{n:Nat}{ks:List Fk.Key}{cg:List Addr}{val:Nat->Fk.Key->Int}(t:Tbl K P w H d n ks cg val){u:Fk.Key}(h:u∈ks):∃ (p:Nat)(a:Addr),ks[p]?=some u/\cg[p]?=some a/\aJ (ke ks cg) (pk (ip u))=some (.ref a)/\H a=some (.lst (hZ n val u)):=by
 obtain⟨p,hp,e⟩:=List.getElem_of_mem h;have h1:ks[p]?=some u:=by rw [du hp,e]
 have h2:cg[p]?=some (cg[p]'(by rw [<-t.len];exact hp)):=du _
 exact⟨p,_,h1,h2,Op t.nd h1 h2,t.row p u _ h1 h2⟩
def Gx(K:aq)(H H':Hp):Prop:=∀ b ys,SqT K H b ys->SqT K H' b ys
theorem Tbl.put{H H4:Hp}{d a:Addr}{n:Nat}{ks:List Fk.Key}{cg:List Addr}{val:Nat->Fk.Key->Int}(t:Tbl K P w H d n ks cg val){u:Fk.Key}(h:u∉ks)(ha:H a=some (.lst ((List.range n).map fun _=>.int 0)))(na:a∉cg)(o:Only d H H4)(D:DXe K P w H4 d (aE (ke ks cg) (pk (ip u)) (.ref a))) :
  Tbl K P w H4 d n (ks++[u]) (cg++[a]) val:=by
 obtain⟨xs,hd⟩:=t.dx.at;have lk:∀ {b:Addr}{l:List V},H b=some (.lst l)->H4 b=some (.lst l):=fun{b l} e=>o _ _ e (az e hd (by intro z;cases z))
 refine⟨by rw [<-sX h t.len];exact D,by rw [gC,gC,t.len];rfl,?_,?_,fun p v b h1 h2=>?_,fun v hv k=>t.zero v (fun z=>hv (jX _ z)) k⟩
 ·refine qZ.mpr ⟨t.nd,by simp,fun x hx y hy e=>h ?_⟩
  rw [<-dq.mp hy,<-e];exact hx
 ·refine qZ.mpr ⟨t.ndA,by simp,fun x hx y hy e=>na ?_⟩
  rw [<-dq.mp hy,<-e];exact hx
 ·by_cases hp:p<ks.length
  ·rw [mI hp]at h1;rw [mI (by rw [<-t.len];exact hp)]at h2
   exact lk (t.row p v b h1 h2)
  ·rw [uH (by omega)]at h1
   rw [uH (by rw [<-t.len];omega),<-t.len]at h2
   cases e:p-ks.length with
   |zero =>
    rw [e]at h1 h2;cases h1;cases h2;rw [lk ha];unfold hZ;congr 2;exact qY fun k _=>by rw [t.zero u h k]
   |succ m=>rw [e]at h1;simp at h1
theorem pK{n i:Nat}{val:Nat->Fk.Key->Int}{u:Fk.Key}{z:Int}(hi:i<n):(hZ n val u).set i (.int z)=hZ n (fun k v=>if k=i/\v=u then z else val k v) u:=by
 unfold hZ;refine List.ext_getElem (by simp) fun k h1 h2=>?_
 rw [List.getElem_set];simp only [List.getElem_map,AI];by_cases e:i=k
 ·rw [ae e];simp [e]
 ·rw [ac e];have:¬ k=i:=fun q=>e q.symm;simp [this]
theorem Tbl.set{H:Hp}{d a:Addr}{n p i:Nat}{ks:List Fk.Key}{cg:List Addr}{val:Nat->Fk.Key->Int}{u:Fk.Key}{z:Int}(t:Tbl K P w H d n ks cg val)(h1:ks[p]?=some u)(h2:cg[p]?=some a)(hi:i<n) :
  Tbl K P w (upd H a (.lst ((hZ n val u).set i (.int z)))) d n ks cg (fun k v=>if k=i/\v=u then z else val k v):=by
 obtain⟨xs,hd⟩:=t.dx.at;have ha:=t.row p u a h1 h2;refine⟨t.dx.only (Only.upd _) ha (fun _ z=>by cases z) (fun _ _ z=>by cases z) (az hd ha (by intro z;cases z)),t.len,t.nd,t.ndA,fun q v b g1 g2=>?_,fun v hv k=>?_⟩
 ·by_cases e:b=a
  ·subst e;have:q=p:=by
    have l1:=(ee.mp g2);have l2:=(ee.mp h2);exact(List.getElem_inj t.ndA).mp (l1.2.trans l2.2.symm)
   subst this;rw [h1]at g1;cases g1;rw [Z2j,pK hi]
  ·rw [aj e,t.row q v b g1 g2];have ne:v≠u:=fun y=>by
    subst y;have l1:=(ee.mp g1);have l2:=(ee.mp h1);have:q=p:=(List.getElem_inj t.nd).mp (l1.2.trans l2.2.symm);subst this;rw [h2]at g2;exact e (Option.some.inj g2).symm
   unfold hZ;congr 2;exact qY fun k _=>by
    show _=V.int (if k=i/\v=u then z else val k v);rw [ac (fun y=>ne y.2)]
 ·show(if k=i/\v=u then z else val k v)=0;rw [ac (fun y:k=i/\v=u=>hv (by rw [y.2];exact gK h1)),t.zero v hv k]
def sv(q:Fk.Equation)(k:Nat)(u:Fk.Key):Int:=match (sgn q)[k]? with
 |some x=>x.2*(Fk.countIn x.1.units u:Int)
 |none=>0
theorem v9(q:Fk.Equation):(sgn q).length=q.left.length+q.right.length:=by unfold sgn;simp
theorem Ot{q:Fk.Equation}{x:Fk.Mol×Int}(h:x∈sgn q):x.2=1\/x.2=-1:=by
 rcases dy.mp h with h |h
 ·obtain⟨M,_,rfl⟩:=i3.mp h;exact .inl rfl
 ·obtain⟨M,_,rfl⟩:=i3.mp h;exact .inr rfl
end
section
variable{P:Program}{w:World}{K:aq}{mg:Str->Option Value}{base:Heap}{CF CR fF CA CB CM CQ CW CN CT:Addr}
noncomputable def CY(b:List Stmt):Scope:=match b with
 |[_,_,.For _ _ [.For _ _ (.If _ [.Assign _ (.ListComp _ _ sc _) _] _ _::_) _ _] _ _,_]=>sc
 |_=>{ kind:=.function,names:=[],isGenerator:=false,isCoroutine:=false }
def Pu(K:aq)(P:Program)(w:World)(CA CB CM CQ:Addr):Sp:=fun vs H Q _=>∃ (er ll rl:Addr)(ls rs:List Addr)(q:Fk.Equation),vs=[.ref er]/\EqAt CQ CM CA CB H er ll rl ls rs q/\q.left.length<=8/\q.right.length<=8 /\
 ∀ H' d ks cg,L2.Same H H'->H d=none->(∀ a∈cg,H a=none)->Tbl K P w H' d (q.left.length+q.right.length) ks cg (sv q)->(∀ u,u∈ks↔u∈q.all.flatMap Fk.Mol.units)->ks.length<=5000->Q (.ref d) H'
theorem je:cU ["equation","molecules","rows","k","signed","unit","count","molecule"] ["equation"] (bj AU):=⟨rfl,rfl,rfl,by decide +kernel,rfl,by decide +kernel,by decide +kernel⟩
theorem Br:cX ["equation","molecules","rows","k","signed","unit","count","molecule"] (bj AU) (CY (eP AU)) [("molecule",7)]:=⟨rfl,by decide +kernel,by decide +kernel,by decide +kernel,by decide +kernel⟩
theorem qp(q:Fk.Equation)(u:Fk.Key):(∃ x∈sgn q,u∈x.1.units)↔u∈q.all.flatMap Fk.Mol.units:=by
 unfold sgn Fk.Equation.all;rw [List.mem_flatMap];constructor
 ·rintro⟨x,hx,hu⟩;rcases dy.mp hx with h |h
  ·obtain⟨M,hM,rfl⟩:=i3.mp h;exact⟨M,jX _ hM,hu⟩
  ·obtain⟨M,hM,rfl⟩:=i3.mp h;exact⟨M,ko _ hM,hu⟩
 ·rintro⟨M,hM,hu⟩;rcases dy.mp hM with h |h
  ·exact⟨(M,1),jX _ (He (f:=fun M=>(M,(1:Int))) h),hu⟩
  ·exact⟨(M,-1),ko _ (He (f:=fun M=>(M,(-1:Int))) h),hu⟩
theorem nX{cs:List (Fk.Key×Nat)}(nd:(cs.map (·.1)).Nodup){x:Fk.Key×Nat}(h:x∈cs):d7 cs x.1=x.2:=by
 induction cs with
 |nil=>simp at h
 |cons y cs ih =>
  rw [ei,lz]at nd;rw [vY];rcases bv.mp h with rfl |h
  ·rw [ae rfl]
  ·rw [ac (fun z=>nd.1 (by rw [z];exact He (f:=(·.1)) h)),ih nd.2 h]
def iW(q:Fk.Equation)(i:Nat)(us:List Fk.Key)(k:Nat)(u:Fk.Key):Int:=if k<i then sv q k u else if k=i/\u∈us then sv q i u else 0
structure URok(K:aq)(P:Program)(w:World)(H1 H':Hp)(d:Addr)(q:Fk.Equation)(i:Nat)(us:List Fk.Key):Prop where
 ex:∃ ks cg,Tbl K P w H' d (q.left.length+q.right.length) ks cg (iW q i us)/\(∀ u,u∈ks↔(∃ x∈(sgn q).take i,u∈x.1.units)\/u∈us)/\ks.length<=300*i+us.length/\∀ a∈cg,H1 a=none
 sm:L2.Same H1 H'
theorem ZaK{l:List Fk.Key}{u:Fk.Key}(h:u∉l):Fk.countIn l u=0:=by
 unfold Fk.countIn;rw [List.length_eq_zero_iff,List.filter_eq_nil_iff];intro x hx e;exact h (by have:=(aG.mp e);rw [<-this];exact hx)
theorem URok.next{H1 H':Hp}{d:Addr}{q:Fk.Equation}{i:Nat}{us:List Fk.Key}{x:Fk.Mol×Int}(h:URok K P w H1 H' d q i us)(hx:(sgn q)[i]?=some x)(hu:∀ u,u∈us↔u∈x.1.units)(hl:us.length<=300):URok K P w H1 H' d q (i+1) []:=by
 obtain⟨⟨ks,cg,t,m,l,f⟩,s⟩:=h;refine⟨⟨ks,cg,t.congr fun k u=>?_,fun u=>?_,by simp only [lA];omega,f⟩,s⟩
 ·unfold iW;by_cases e:k<i
  ·rw [ae e,ae (by omega)]
  ·rw [ac e];by_cases e2:k=i
   ·subst e2;rw [ae (show k<k+1 by omega)]
    by_cases e3:u∈us
    ·rw [ae ⟨rfl,e3⟩]
    ·rw [ac (fun z=>e3 z.2)];unfold sv;rw [hx];show 0=x.2*(Fk.countIn x.1.units u:Int);rw [ZaK (fun z=>e3 ((hu u).mpr z))];simp
   ·rw [ac (fun z=>e2 z.1),ac (by omega),ac (fun z=>by simp at z)]
 ·rw [m u,mJ,hx,hu u];simp only [dy,Option.toList_some,dq,ij,or_false];constructor
  ·rintro(⟨y,hy,h⟩ |h)
   ·exact⟨y,.inl hy,h⟩
   ·exact⟨x,.inr rfl,h⟩
  ·rintro⟨y,hy |rfl,h⟩
   ·exact .inl ⟨y,hy,h⟩
   ·exact .inr h
set_option maxHeartbeats 1000000 in
theorem tH{f fS fU:Addr}{fd BE BG:FuncData}(F:Fun K "unit_rows" "unit_rows" AU f fd)(B5:mg "enumerate" = none)
  (GS:am P w K mg base CX0 1 fS BE ["equation"] (qf CA CB CM CQ))(mS:mg "signed_molecules" = some (.ref fS))(kS:PySem.W.keepIn K (.ref fS)=true)(bS:Binds K BE ["equation"] [])
  (GU:am P w K mg base CX0 2 fU BG ["molecule"] (O7 K P w CA CB CM))(mU:mg "count_units" = some (.ref fU))(kU:PySem.W.keepIn K (.ref fU)=true)(bU:Binds K BG ["molecule"] []) :
  am P w K mg base CX0 3 f fd ["equation"] (Pu K P w CA CB CM CQ):=by
 refine F.ok je (fun vs H Q E h=>?_) (fun bp A outer s H vs Q E hr h=>?_)
 ·obtain⟨er,ll,rl,ls,rs,q,rfl,_⟩:=h;rfl
 ·obtain⟨er,ll,rl,ls,rs,q,rfl,hq,h8,h9,kk⟩:=h;have hu:=eE hr;have iJ:Room 1 _:=hr.mono (by decide)
  refine⟨_,aN (di (i:=1) je.nd rfl (Or.inl rfl) (fO GS iJ rfl mS kS bS .nil aC (ao (pv 0) aD)))
   (aN (di (i:=2) je.nd rfl (Or.inl rfl) Pw)
   (aN (lH PassesOwn.never rfl (Fy rfl B5 (ao (pv 1) aD)) (zA rfl (kr (eT (i:=3) je.nd rfl (Or.inl rfl)) (kr (eT (i:=4) je.nd rfl (Or.inl rfl)) wc)))
     (bg (lH PassesOwn.never rfl (Zbh (fO GU hr rfl mU kU bU .nil aC (ao (dk zw (pv 4) bx (fun _ _=>rfl)) aD))) (zA rfl (kr (eT (i:=5) je.nd rfl (Or.inl rfl)) (kr (eT (i:=6) je.nd rfl (Or.inl rfl)) wc)))
       (aN (bZ (gq (tK hu) (pv 5) (pv 2) rfl)
         (bg (Ps hu (pv 2) (pv 5) (iR rfl je.nd (qx (pv 1)) Br (fun s H C cl fp=>eT (i:=7) je.nd rfl (Or.inl rfl)) (fun s H C cl fp=>mQ) (fun s H C cl fp=>bx)) rfl)) il)
       (bg (yr (aZ zC (dk zw (pv 4) bx (fun _ _=>rfl)) (pv 6)) (yl (PX hu (pv 2) (pv 5) (fun _ _=>rfl)) (pv 3) Jg)))))))
   (bg (dJ (pv 2))))),?_⟩
  refine⟨_,rfl,er,ll,rl,ls,rs,q,rfl,hq,h8,h9,fun H1 l ts s1 nl hl hS=>?_⟩;intro d nd Mg;have lt:ts.length=q.left.length+q.right.length:=by rw [hS.1,v9]
  have sd:L2.Same H1 (upd H1 d (gP P w d [])):=RD.Same.new nd;refine⟨_,rfl,l,_,rfl,SqL.of (sd _ _ hl),Fn (K:=K) (a:=l) (xs:=ts.map V.ref) (fun i σ H'=>∃ v3 v4 v5 v6:Option V,σ=[some (.ref er),some (.ref l),some (.ref d),v3,v4,v5,v6,none]/\URok K P w H1 H' d q i [])
   ⟨none,none,none,none,rfl,⟨[],[],⟨DX.empty Mg,rfl,uI,uI,fun p u a h=>by simp at h,fun u _ k=>?_⟩,fun u=>by simp,by simp,fun a ha=>by simp at ha⟩,sd⟩ (fun i σ H' _ ⟨_,_,_,_,_,h⟩=>SqL.of (h.sm _ _ hl)) ?_ ?_⟩
  ·unfold iW;rw [ac (by omega),ac (fun z=>by simp at z)]
  ·rintro i y σ H2 U hi ⟨v3,v4,v5,v6,rfl,ur⟩ hU;obtain⟨t,x,rfl,e1,e2,m,ht,hm⟩:=hS.at hi;obtain⟨al,bl,as,ds,mo,wf⟩:=hm;have li:i<q.left.length+q.right.length:=by rw [<-lt];exact(ee.mp e1).1
   have sU:L2.Same H2 (upd H2 U (.tup [.int (i:Int),.ref t])):=RD.Same.new hU;have s2:=ur.sm.trans sU;refine⟨U,_,rfl,SqT.of Z2j,rfl,_,_,rfl,_,_,rfl,rfl,_,rfl,t,_,_,_,rfl,rfl,SqT.of (s2 _ _ ht),rfl,m,al,bl,as,ds,x.1,rfl,mo.same s2,wf,fun H3 ua s3 Rk D3=>?_⟩;generalize QI:lI x.1.atoms []=cs at D3;have cn:=NU x.1.atoms Cnt.nil;rw [QI]at cn;have cn:Cnt cs x.1.units:=cn;have ln:=HS x.1.atoms [];have wn:=wf.n;rw [QI]at ln;simp only [lA]at ln;refine⟨ua,_,rfl,D3,fun ob its FW Kr=>?_⟩;obtain⟨xu,KW⟩:=DXe.at D3;have o3:Only ua H3 (upd H3 ua (jK ua ob)):=Only.upd _;have F8:ua≠d:=fun z=>by
    obtain⟨⟨ks,cg,t',_⟩,_⟩:=ur;obtain⟨xd',wS⟩:=(t'.same sU).dx.at;have Di:upd H2 U (.tup [.int (i:Int),.ref t]) ua=none:=Rk;rw [z,wS]at Di;cases Di
   have Lx:H1 ua=none:=(ur.sm.trans sU).free Rk;have sL:L2.Same H1 (upd H3 ua (jK ua ob)):=fun b o e=>by rw [aj (a9 e Lx)];exact s3 _ _ (s2 _ _ e)
   have ur3:URok K P w H1 (upd H3 ua (jK ua ob)) d q i []:=by
    obtain⟨⟨ks,cg,t',m',l',f'⟩,_⟩:=ur;have t2:=(t'.same sU).same s3;obtain⟨xd,hd⟩:=t2.dx.at;refine⟨⟨ks,cg,⟨t2.dx.only o3 KW (fun _ z=>by cases z) (fun _ _ z=>by cases z) F8.symm,t2.len,t2.nd,t2.ndA,fun p u a g1 g2=>?_,t2.zero⟩,m',l',f'⟩,sL⟩
    rw [aj (az (t2.row p u a g1 g2) KW (by intro z;cases z))]
    exact t2.row p u a g1 g2
   refine ZaT (a:=ua) (ob:=ob) (its:=its) (fun j σ H'=>∃ (v5 v6:Option V),σ=[some (.ref er),some (.ref l),some (.ref d),some (.int (i:Int)),some (.ref t),v5,v6,none]/\H' ua=some (jK ua ob)/\Gx K (upd H3 ua (jK ua ob)) H'/\URok K P w H1 H' d q i ((cs.take j).map (·.1)))
    ⟨v5,v6,rfl,Z2j,fun _ _ z=>z,ur3⟩ (fun j σ H' _ ⟨_,_,_,h,_⟩=>h) ?_ ?_
   ·rintro j b v σ H5 T hj ⟨v5,v6,rfl,hk5,kp5,ur5⟩ hT;have lj:j<cs.length:=by have:=(ee.mp hj).1;rw [FW,IR]at this;exact this
    have hy:cs[j]?=some cs[j]:=du lj;generalize cs[j]=y at hy;have he:(enc cs)[j]?=some (pk (ip y.1),V.int (y.2:Int)):=by unfold enc;rw [dP,hy];rfl
    obtain⟨b',j8,sq⟩:=Kr j _ _ he;rw [hj]at j8;cases j8;have sT:L2.Same H5 (upd H5 T (.tup [.ref b,.int (y.2:Int)])):=RD.Same.new hT;have yF:SqT K (upd H5 T (.tup [.ref b,.int (y.2:Int)])) b ((pk (ip y.1)).map kV):=RD.Same.sqT sT (kp5 _ _ (A1 sq o3 KW (fun _ z=>by cases z) (fun _ _ z=>by cases z)))
    obtain⟨⟨ks,cg,tb,mk,lk,fa⟩,s5⟩:=ur5;have yQ:=tb.same sT;have hyc:y.2=Fk.countIn x.1.units y.1:=by
     rw [<-cn.get];have:d7 cs y.1=y.2:=nX cn.nd (gK hy);exact this.symm
    have tk:(cs.take (j+1)).map (·.1)=(cs.take j).map (·.1)++[y.1]:=by rw [mJ,hy,fL];rfl
    have Lk:((cs.take j).map (·.1)).length=j:=by rw [aT,lW];omega
    have Ah:=s5.trans sT;have svx:sv q i y.1=x.2*(y.2:Int):=by unfold sv;rw [e2];show x.2*(Fk.countIn x.1.units y.1:Int)=_;rw [hyc]
    have fin:∀ (H6:Hp)(z5:List Fk.Key)(mV:List Addr),L2.Same H1 H6->H6 ua=some (jK ua ob)->Gx K (upd H5 T (.tup [.ref b,.int (y.2:Int)])) H6->Tbl K P w H6 d (q.left.length+q.right.length) z5 mV (iW q i ((cs.take j).map (·.1)))->(∀ u,u∈z5↔u∈ks\/u=y.1)->z5.length<=ks.length+1->(∀ a∈mV,H1 a=none) ->
      ∃ (a:Addr)(xs:List V),aJ (ke z5 mV) (pk (ip y.1))=some (.ref a)/\H6 a=some (.lst xs)/\qM xs.length (i:Int)=some i/\upd H6 a (.lst (xs.set i (.int (x.2*(y.2:Int))))) ua=some (jK ua ob)/\Gx K (upd H3 ua (jK ua ob)) (upd H6 a (.lst (xs.set i (.int (x.2*(y.2:Int))))))/\URok K P w H1 (upd H6 a (.lst (xs.set i (.int (x.2*(y.2:Int)))))) d q i ((cs.take (j+1)).map (·.1)):=by
     intro H6 z5 mV s6 QP kp6 t6 m6 l6 f6;obtain⟨p,a,g1,g2,g3,g4⟩:=t6.get ((m6 y.1).mpr (.inr rfl));refine⟨a,_,g3,g4,IY (by unfold hZ;rw [aT,rg];exact li),?_,fun b' ys z=>?_,⟨z5,mV,(t6.set (z:=x.2*(y.2:Int)) g1 g2 li).congr fun k u=>?_,fun u=>?_,?_,f6⟩,fun b' o e=>?_⟩
     ·rw [aj (az QP g4 (by intro z;cases z))];exact QP
     ·exact A1 (kp6 _ _ (RD.Same.sqT sT (kp5 _ _ z))) (Only.upd _) g4 (fun _ z=>by cases z) (fun _ _ z=>by cases z)
     ·unfold iW;rw [tk];by_cases c1:k=i/\u=y.1
      ·obtain⟨rfl,rfl⟩:=c1;rw [ae ⟨rfl,rfl⟩,ac (by omega),ae ⟨rfl,by simp⟩,svx]
      ·rw [ac c1];by_cases c2:k<i
       ·rw [ae c2,ae c2]
       ·rw [ac c2,ac c2];by_cases c3:k=i/\u∈(cs.take j).map (·.1)
        ·rw [ae c3,ae ⟨c3.1,jX _ c3.2⟩]
        ·rw [ac c3,ac fun z=>by
          rcases dy.mp z.2 with h |h
          ·exact c3 ⟨z.1,h⟩
          ·exact c1 ⟨z.1,dq.mp h⟩]
     ·rw [m6 u,mk u,tk,dy,dq];exact or_assoc
     ·rw [tk,gC,Lk,E3];rw [Lk]at lk;omega
     ·rw [aj (fun z=>by rw [z,f6 a (gK g2)]at e;cases e)];exact s6 _ _ e
    have sqt:=SqT.of (K:=K) (Ah _ _ ht);have JC:x.2=1\/x.2=-1:=Ot (gK e2);have cm:CMul x.2 (y.2:Int):=.inl (by rcases JC with e |e<;>rw [e]<;>exact⟨by decide,by decide⟩)
    refine⟨T,_,rfl,SqT.of Z2j,rfl,_,_,rfl,_,_,rfl,rfl,_,rfl,_,rfl,d,b,_,_,rfl,rfl,yQ.dx,yF,_,rfl,bt (fun hc=>?_) (fun hc=>?_)⟩
    ·have hn:y.1∉ks:=fun z=>by
      obtain⟨_,_,_,_,g3,_⟩:=yQ.get z;rw [g3]at hc;cases hc
     refine⟨_,rfl,l,rfl,⟨_,SqL.of (Ah _ _ hl)⟩,fun D hD=>zt (K:=K) (a:=l) (xs:=ts.map V.ref) (fun k H'=>L2.Same (upd H5 T (.tup [.ref b,.int (y.2:Int)])) H'/\H' D=some (.lst ((List.range k).map fun _=>.int 0)))
      ⟨RD.Same.new hD,Z2j⟩ (fun k H' _ h=>SqL.of (h.1 _ _ (Ah _ _ hl))) ?_ ?_⟩
     ·rintro k z H' hz ⟨sA,hDA⟩;refine⟨rfl,_,hDA,?_,fun b' o e=>?_,?_⟩
      ·rw [aT,rg,ak];have:=(ee.mp hz).1;rw [aT,lt]at this;omega
      ·rw [aj (a9 e hD)];exact sA _ _ e
      ·rw [Z2j,List.range_succ,fL];rfl
     ·rintro H' ⟨sA,hDA⟩;rw [aT,lt]at hDA;have tA:=yQ.same sA;have Ls:H1 D=none:=Ah.free hD;have nDa:D∉cg:=fun z=>by
       obtain⟨p,hp,ep⟩:=List.getElem_of_mem z;have Bw:cg[p]?=some D:=by rw [du hp,ep]
       have Bv:ks[p]?=some (ks[p]'(by rw [yQ.len];exact hp)):=du _
       have:=yQ.row p _ D Bv Bw;have nD:upd H5 T (.tup [.ref b,.int (y.2:Int)]) D=none:=hD;rw [nD]at this;cases this
      have lk5:ks.length<=5000:=by
       rw [Lk]at lk;omega
      refine⟨_,rfl,_,rfl,d,b,_,_,rfl,rfl,tA.dx,RD.Same.sqT sA yF,by rw [sW tA.len,ak];omega,fun H6 o6 D6=>?_⟩
      have t6:=tA.put hn hDA nDa o6 D6;obtain⟨xd,QJ⟩:=tA.dx.at;have s6:L2.Same H1 H6:=fun b' o e=>o6 _ _ (sA _ _ (Ah _ _ e)) (a9 e nd);have hkA:H' ua=some (jK ua ob):=sA _ _ (sT _ _ hk5);obtain⟨a,xs,f1,f2,f3,f4,f5,JL⟩:=fin H6 (ks++[y.1]) (cg++[D]) s6 (o6 _ _ hkA F8) (fun b' ys z=>A1 (RD.Same.sqT sA z) o6 QJ (fun _ z=>by cases z) (fun _ _ z=>by cases z)) t6 (fun u=>by simp) (by simp) (fun a ha=>by
       rcases dy.mp ha with h |h
       ·exact fa a h
       ·rw [dq.mp h];exact Ls)
      exact⟨_,rfl,t,_,_,_,rfl,rfl,SqT.of (s6 _ _ ht),rfl,_,rfl,x.2,(y.2:Int),rfl,rfl,cm,_,rfl,_,rfl,d,b,_,_,_,rfl,rfl,t6.dx,A1 (RD.Same.sqT sA yF) o6 QJ (fun _ z=>by cases z) (fun _ _ z=>by cases z),f1,_,rfl,a,xs,_,_,rfl,rfl,f2,f3,_,_,rfl,f4,f5,JL⟩
    ·have ml:y.1∈ks:=by
      by_cases z:y.1∈ks
      ·exact z
      ·exfalso;apply hc;rw [Jf z];rfl
     obtain⟨a,xs,f1,f2,f3,f4,f5,JL⟩:=fin _ ks cg Ah (sT _ _ hk5) (fun _ _ z=>z) yQ (fun u=>⟨.inl,fun z=>z.elim id fun z=>by rw [z];exact ml⟩) (by omega) fa
     exact⟨_,rfl,t,_,_,_,rfl,rfl,sqt,rfl,_,rfl,x.2,(y.2:Int),rfl,rfl,cm,_,rfl,_,rfl,d,b,_,_,_,rfl,rfl,yQ.dx,yF,f1,_,rfl,a,xs,_,_,rfl,rfl,f2,f3,_,_,rfl,f4,f5,JL⟩
   ·rintro σ H5 ⟨v5,v6,rfl,hk5,kp5,ur5⟩;rw [FW,IR,qw]at ur5;exact⟨_,_,_,_,rfl,ur5.next e2 (fun u=>cn.mem u) (by rw [aT];omega)⟩
  ·rintro σ H2 ⟨v3,v4,v5,v6,rfl,⟨ks,cg,t,m,l',f'⟩,s2⟩;rw [aT,lt]at t m l';refine⟨_,rfl,kk H2 d ks cg (s1.trans s2) (s1.free nd) (fun a ha=>s1.free (f' a ha)) (t.congr fun k u=>?_) (fun u=>?_) (by simp only [lA]at l';omega)⟩
   ·unfold iW;by_cases e:k<q.left.length+q.right.length
    ·rw [ae e]
    ·rw [ac e,ac (fun z=>by simp at z)]
     unfold sv;rw [G9 (by rw [v9];omega)]
   ·rw [m u,<-qp,List.take_of_length_le (by rw [v9];omega)]
    simp
end
end BK
end
section
namespace RD
open PySem PySem.Spec PyProof.Rows L2 EX
section
variable{X:Cx}
theorem rS(K:aq)(hK:X.K=K)(hc:X.calm=true):jk X (.builtin "sum") (DE K):=by subst hK;exact nG hc
theorem pi(K:aq)(hK:X.K=K){tg l:Expr}{tl:TE}(hl:PE X l tl):PI X tg l (vd K tl):=by subst hK;exact qx hl
end
end RD
namespace BK
open PySem PySem.Spec PyProof.Rows L2 EX RD LM FM
section
variable{P:Program}{w:World}{K:aq}{mg:Str->Option Value}{base:Heap}{CF CR fF CA CB CM CQ CW CN CT:Addr}
theorem Pi(q:Fk.Equation)(g:Fk.Mol->Int):q.side g=(sgn q).map fun x=>x.2*g x.1:=by
 unfold Fk.Equation.side sgn;rw [fL,jL,jL];congr 1
 ·exact qY fun M _=>(Int.one_mul _).symm
 ·exact qY fun M _=>by show -(g M)=-1*g M;omega
theorem pL(q:Fk.Equation)(u:Fk.Key):hZ (q.left.length+q.right.length) (sv q) u=(q.side fun M=>((Fk.countIn M.units u:Nat):Int)).map V.int:=by
 rw [Pi,<-v9];unfold hZ;rw [jL];refine List.ext_getElem (by simp) fun k h1 h2=>?_
 simp only [List.getElem_map,AI];have hk:k<(sgn q).length:=by simpa using h1
 unfold sv;rw [du hk];rfl
theorem Ie:∀ (l:List Int)(a:Int),l.foldl (fun(a b:Int)=>a+b) a=a+l.sum
 |[],a=>by simp
 |x::l,a=>by rw [AJ,Ie l,List.sum_cons];omega
noncomputable def ve(b:List Stmt):Scope:=match b.getLast? with
 |some (.Return (some (.ListComp _ _ sc _)) _)=>sc
 |_=>{ kind:=.function,names:=[],isGenerator:=false,isCoroutine:=false }
noncomputable def Li(b:List Stmt):Scope:=match b.getLast? with
 |some (.Return (some (.ListComp (.BinOp _ _ (.Call _ [.ListComp _ _ sc _] _ _) _) _ _ _)) _)=>sc
 |_=>{ kind:=.function,names:=[],isGenerator:=false,isCoroutine:=false }
def vC(CA CB CM CQ:Addr):Sp:=fun vs H Q _=>∃ (er ll rl:Addr)(ls rs:List Addr)(q:Fk.Equation),vs=[.ref er]/\EqAt CQ CM CA CB H er ll rl ls rs q/\q.left.length<=8/\q.right.length<=8 /\
 ∀ H' l,L2.Same H H'->H l=none->H' l=some (.lst ((q.side Fk.Mol.charge).map V.int))->Q (.ref l) H'
theorem iU:cU ["equation","molecule","sign","atom"] ["equation"] (bj uL):=⟨rfl,rfl,rfl,by decide +kernel,rfl,by decide +kernel,by decide +kernel⟩
theorem wv:cX ["equation","molecule","sign","atom"] (bj uL) (ve (eP uL)) [("molecule",1),("sign",2)]:=⟨rfl,by decide +kernel,by decide +kernel,by decide +kernel,by decide +kernel⟩
theorem wu:cX ["equation","molecule","sign","atom"] (DF (ve (eP uL)) (bj uL)) (Li (eP uL)) [("atom",3)]:=⟨rfl,by decide +kernel,by decide +kernel,by decide +kernel,by decide +kernel⟩
theorem Do{f fS:Addr}{fd BE:FuncData}(F:Fun K "charge_row" "charge_row" uL f fd)(gJ:uF K CM)(TA:uC K CA)(hs:mg "sum" = none)
  (GS:am P w K mg base CX0 1 fS BE ["equation"] (qf CA CB CM CQ))(mS:mg "signed_molecules" = some (.ref fS))(kS:PySem.W.keepIn K (.ref fS)=true)(bS:Binds K BE ["equation"] []) :
  am P w K mg base CX0 2 f fd ["equation"] (vC CA CB CM CQ):=by
 refine F.ok iU (fun vs H Q E h=>?_) (fun bp A outer s H vs Q E hr h=>?_)
 ·obtain⟨er,ll,rl,ls,rs,q,rfl,_⟩:=h;rfl
 ·obtain⟨er,ll,rl,ls,rs,q,rfl,hq,h8,h9,k⟩:=h;refine⟨_,bg (dJ (iR rfl iU.nd (qx (fO GS hr rfl mS kS bS .nil aC (ao (pv 0) aD))) wv
   (fun s H C cl fp=>P7 (n:=2) K rfl rfl (kr (eT (i:=1) iU.nd rfl (Or.inl rfl)) (kr (eT (i:=2) iU.nd rfl (Or.inl rfl)) wc))) (fun s H C cl fp=>mQ)
   (fun s H C cl fp=>aZ PH (pv 2) (l5 (rS K rfl rfl) (by rfl) hs boot_sum (ao (iR rfl iU.nd (pi K rfl (PM K rfl (pv 1) rfl)) wu
     (fun s H C cl fp=>eT (i:=3) iU.nd rfl (Or.inl rfl)) (fun s H C cl fp=>mQ) (fun s H C cl fp=>PM K rfl (pv 3) rfl)) aD))))),?_⟩
  refine⟨_,rfl,er,ll,rl,ls,rs,q,rfl,hq,h8,h9,fun H1 l ts s1 nl hl hS=>?_⟩;have lt:ts.length=q.left.length+q.right.length:=by rw [hS.1,v9]
  refine⟨l,rfl,⟨_,SqL.of hl⟩,fun D hD=>zt (K:=K) (a:=l) (xs:=ts.map V.ref) (fun i H2=>L2.Same H1 H2/\H2 D=some (.lst ((((sgn q).take i).map fun x=>x.2*Fk.Mol.charge x.1).map V.int)))
   ⟨RD.Same.new hD,Z2j⟩ (fun i H2 _ h=>SqL.of (h.1 _ _ hl)) ?_ ?_⟩
  ·rintro i y H2 hi ⟨s2,j7⟩;obtain⟨t,x,rfl,e1,e2,m,ht,al,bl,as,ds,mo,wf⟩:=hS.at hi;have lR:=mo.same s2;obtain⟨dm,hm⟩:=lR.top;have ji:i<(sgn q).length:=(ee.mp e2).1;have wn:=wf.n;refine⟨t,_,rfl,SqT.of (s2 _ _ ht),rfl,_,_,rfl,_,_,rfl,rfl,rfl,_,rfl,_,rfl,m,CM,dm,_,_,rfl,hm,gJ.cl,gJ.na,vX _ _,al,rfl,⟨_,SqL.of lR.atl⟩,fun D' BQ=>zt (K:=K) (a:=al) (xs:=as.map V.ref) (fun j H3=>L2.Same H2 H3/\H3 D'=some (.lst (((x.1.atoms.take j).map Fk.Atom.charge).map V.int)))
    ⟨RD.Same.new BQ,Z2j⟩ (fun j H3 _ h=>SqL.of (h.1 _ _ lR.atl)) ?_ ?_⟩
   ·rintro j z H3 hj ⟨s3,hD3⟩;obtain⟨ta,xa,rfl,f1,f2,da,ga⟩:=lR.ats.at hj;have lj:j<x.1.atoms.length:=(ee.mp f2).1;refine⟨rfl,_,rfl,ta,CA,da,_,_,rfl,s3 _ _ ga,TA.cl,TA.nc,ZaP _,_,hD3,?_,fun b o e=>?_,?_⟩
    ·rw [aT,aT,lW,ak];have:x.1.atoms.length<=128:=wn;omega
    ·rw [aj (a9 e BQ)];exact s3 _ _ e
    ·rw [Z2j,mJ,f2,fL,fL];rfl
   ·rintro H3 ⟨s3,hD3⟩;rw [aT,mo.ats.1,qw]at hD3;have JC:x.2=1\/x.2=-1:=Ot (gK e2);have Ls:H1 D=none:=hD;refine⟨D',_,rfl,SqL.of hD3,x.2,_,rfl,rfl,IntMulOk.of_left (by rcases JC with e |e<;>rw [e]<;>decide),_,s3 _ _ j7,?_,fun b o e=>?_,?_⟩
    ·rw [aT,aT,lW,ak,v9];omega
    ·rw [aj (a9 e Ls)];exact s3 _ _ (s2 _ _ e)
    ·rw [Z2j,mJ,e2,fL,fL];have:(x.1.atoms.map Fk.Atom.charge).sum=Fk.Mol.charge x.1:=by
      unfold Fk.Mol.charge;have:=Ie (x.1.atoms.map Fk.Atom.charge) 0;rw [Int.zero_add]at this;exact this.symm
     rw [this];rfl
  ·rintro H2 ⟨s2,j7⟩;rw [aT,lt,<-v9,qw,<-Pi]at j7;exact k H2 D (s1.trans s2) (s1.free hD) j7
end
def nV(n:Nat):V:=.int (n:Int)
def iN(c:List Nat):List Int:=c.map fun n:Nat=>(n:Int)
theorem Dc(c:List Nat):c.map nV=(iN c).map V.int:=by unfold iN;rw [jL];rfl
theorem ZbH{ks us:List Fk.Key}(nd:ks.Nodup)(mem:∀ k,k∈ks↔k∈us){qs:List (Int×Int)}(hp:qs.Perm (ks.map ip))(hs:qs.Pairwise fun x y=>¬ y8 y x):qs=(Fk.keysOf us).map ip:=by
 obtain⟨ls,Rr,rfl⟩:=Iv hp rfl;congr 1;have nd:ls.Nodup:=Rr.nodup_iff.mpr nd;refine OB ?_ (NN us) fun x=>?_
 ·rw [List.pairwise_map]at hs;refine List.Pairwise.imp₂ (fun x y h1 h2=>?_) hs nd;refine Bf.tri (fun z=>h1 ?_) (Ne.symm h2);unfold Bf at z;unfold y8 ip;dsimp only;omega
 ·rw [Rr.mem_iff,mem,HW]
theorem P9:∀ (a b c d:List Int),a.length=c.length->LA.dot (a++b) (c++d)=LA.dot a c+LA.dot b d
 |[],b,[],d,_=>by simp [LA.dot]
 |x::a,b,y::c,d,h=>by
  show x*y+LA.dot (a++b) (c++d)=(x*y+LA.dot a c)+LA.dot b d;rw [P9 a b c d (by simpa using h)];omega
theorem Pl:∀ a c:List Int,LA.dot a (c.take a.length)=LA.dot a c
 |[],c=>by cases c<;>rfl
 |x::a,[]=>rfl
 |x::a,y::c=>by
  show x*y+LA.dot a (c.take a.length)=x*y+LA.dot a c;rw [Pl a c]
theorem Is(g:Fk.Mol->Int):∀ (l:List Fk.Mol)(c:List Nat),Fk.sideSum l c g=LA.dot (l.map g) (iN c)
 |[],c=>by cases c<;>rfl
 |M::l,[]=>rfl
 |M::l,n::c=>by
  have ih:=Is g l c;unfold Fk.sideSum at *
  rw [Ie]at *
  rw [E8,ei,List.sum_cons];show 0+((n:Int)*g M+_)=g M*(n:Int)+LA.dot (l.map g) (iN c);rw [<-ih,Int.mul_comm];omega
theorem O6:∀ (a b:List Int),LA.dot (a.map fun x=>-x) b=-(LA.dot a b)
 |[],b=>by cases b<;>rfl
 |x::a,[]=>rfl
 |x::a,y::b=>by
  rw [ei];unfold LA.dot;rw [O6 a b,Int.neg_mul];omega
theorem Fp{q:Fk.Equation}{c:List Nat}(g:Fk.Mol->Int)(h:q.left.length<=c.length):q.keeps c g=true↔LA.dot (q.side g) (iN c)=0:=by
 have e:iN c=iN (c.take q.left.length)++iN (c.drop q.left.length):=by unfold iN;rw [<-fL,List.take_append_drop]
 have e2:Fk.sideSum q.left c g=LA.dot (q.left.map g) (iN (c.take q.left.length)):=by
  rw [Is,<-Pl (q.left.map g) (iN c),aT];unfold iN;rw [List.map_take]
 have e3:(q.right.map fun M=>-(g M))=(q.right.map g).map fun x=>-x:=by rw [jL];rfl
 unfold Fk.Equation.keeps Fk.Equation.side;rw [e2,Is,e,P9 _ _ _ _ (by unfold iN;rw [aT,aT,lW];omega),e3,O6,aG]
 omega
def gQ(E:Fk.Equation)(c:List Nat):Prop:=c.length=E.left.length+E.right.length/\∀ x∈c,x≠0
def iO(q:Fk.Equation)(c:List Nat):List Int:=match q.lost c with
 |some k=>[0,(k.1:Int),(k.2:Int)]
 |none=>[1,0,0]
section
variable{P:Program}{w:World}{K:aq}{mg:Str->Option Value}{base:Heap}{CF CR fF CA CB CM CQ CW CN CT:Addr}
def Oj(K:aq)(CW CA CB CM CQ:Addr):Sp:=fun vs H Q E=>∃ (er ll rl a:Addr)(ls rs:List Addr)(q:Fk.Equation)(c:List Nat),vs=[.ref er,.ref a]/\EqAt CQ CM CA CB H er ll rl ls rs q/\SqL K H a (c.map nV) /\
 (gQ q c->Q .non H)/\(¬ gQ q c->E (.ref CW) none H)
theorem pS:cU ["equation","numbers"] ["equation","numbers"] (bj Hj):=⟨rfl,rfl,rfl,by decide +kernel,rfl,by decide +kernel,by decide +kernel⟩
theorem O1(c:List Nat):F0 (.int 0) (c.map nV)=true↔¬ ∀ x∈c,x≠0:=by
 unfold F0;rw [List.any_map,List.any_eq_true];constructor
 ·rintro⟨x,hx,e⟩ h;have e':qE (nV x) (.int 0)=true:=e;unfold qE nV at e';exact h x hx (by simpa using e')
 ·intro h;by_cases z:∃ x∈c,x=0
  ·obtain⟨x,hx,rfl⟩:=z;exact⟨0,hx,rfl⟩
  ·exact absurd (fun x hx e=>z ⟨x,hx,e⟩) h
theorem oQ{f:Addr}{fd:FuncData}(F:Fun K "refuse_numbers" "refuse_numbers" Hj f fd)(T:TQ K CQ)(xw:XP K CW)(mW:mg "WrongNumbers" = some (.ref CW))(bO:mg "len" = none) :
  am P w K mg base (gO P w) 2 f fd ["equation","numbers"] (Oj K CW CA CB CM CQ):=by
 refine kY F pS (fun vs H Q E h=>?_) (fun bp A outer s H vs Q E hr h=>?_)
 ·obtain⟨er,ll,rl,a,ls,rs,q,c,rfl,_⟩:=h;rfl
 ·obtain⟨er,ll,rl,a,ls,rs,q,c,rfl,hq,ha,k1,k2⟩:=h;obtain⟨de,he⟩:=hq.top;refine⟨_,bg (bZ (PW.pt (jz (gq dZ (l5 rh (by rfl) bO PySem.boot_len (ao (pv 1) aD)) (aZ kI (l5 rh (by rfl) bO PySem.boot_len (ao (bq (pv 0) rfl) aD)) (l5 rh (by rfl) bO PySem.boot_len (ao (bq (pv 0) rfl) aD))) (eS _))
   (FG (gq ZbA bx (pv 1) rfl)))) (bg (ZbF xw rfl rfl rfl mW rB)) il),?_⟩
  refine⟨_,rfl,a,_,rfl,.inl ha,_,rfl,er,CQ,de,_,_,rfl,he,T.cl,T.nl,Ow _ _,ll,_,rfl,.inl (SqL.of hq.lel),_,rfl,er,CQ,de,_,_,rfl,he,T.cl,T.nr,OI _ _,rl,_,rfl,.inl (SqL.of hq.ril),_,_,rfl,rfl,rfl,_,rfl,bt (fun hc=>?_) (fun hc=>?_)⟩
  ·refine k2 fun z=>?_;have h1:=z.1;rw [<-hq.les.1,<-hq.ris.1]at h1;rw [aT,aT,aT,h1]at hc;simp at hc
  ·refine⟨_,rfl,a,_,rfl,.inl ha,rfl,by rw [List.all_map];exact uJ.mpr fun _ _=>rfl,_,rfl,bt (fun gM=>?_) (fun gM=>?_)⟩
   ·exact k2 fun z=>(O1 c).mp gM z.2
   ·refine k1 ⟨?_,?_⟩
    ·rw [<-hq.les.1,<-hq.ris.1];rw [aT,aT,aT]at hc;by_cases z:c.length=ls.length+rs.length
     ·exact z
     ·exact absurd (by simp;omega) hc
    ·by_cases z:∀ x∈c,x≠0
     ·exact z
     ·exact absurd ((O1 c).mpr z) gM
def qc(K:aq)(CA CB CM CQ:Addr):Sp:=fun vs H Q _=>∃ (er ll rl a:Addr)(ls rs:List Addr)(q:Fk.Equation)(c:List Nat),vs=[.ref er,.ref a]/\EqAt CQ CM CA CB H er ll rl ls rs q/\q.left.length<=8/\q.right.length<=8/\SqL K H a (c.map nV)/\gQ q c/\(∀ n∈c,n<2 ^ 64) /\
 ∀ H' l,L2.Same H H'->H l=none->H' l=some (.lst ((iO q c).map V.int))->Q (.ref l) H'
theorem kg:cU ["equation","numbers","units","unit"] ["equation","numbers"] (bj Ik):=⟨rfl,rfl,rfl,by decide +kernel,rfl,by decide +kernel,by decide +kernel⟩
theorem OX(q:Fk.Equation)(g:Fk.Mol->Int):(q.side g).length=q.left.length+q.right.length:=by unfold Fk.Equation.side;simp
theorem vi{c:List Nat}(hc:∀ n∈c,n<2 ^ 64)(xs:List Int):∀ (i:Nat)(x y:Int),xs[i]?=some x->(iN c)[i]?=some y->IntMulOk x y:=fun i x y _ h=>by
 unfold iN at h;rw [dP]at h;cases e:c[i]? with
 |none=>rw [e]at h;cases h
 |some n =>
  rw [e]at h;cases h;have:=hc n (gK e);have e64:(2:Nat) ^ 64=18446744073709551616:=by decide
  rw [e64]at this;exact IntMulOk.of_right (intBits_le_64 (by show _<(n:Int);omega) (by show(n:Int)<_;omega))
set_option maxHeartbeats 1000000 in
theorem xY{f fU fP fC:Addr}{fd BG Qy BA:FuncData}(F:Fun K "kept_row" "kept_row" Ik f fd)(ms:mg "sorted" = none)
  (GU:am P w K mg base CX0 3 fU BG ["equation"] (Pu K P w CA CB CM CQ))(mU:mg "unit_rows" = some (.ref fU))(kU:PySem.W.keepIn K (.ref fU)=true)(bU:Binds K BG ["equation"] [])
  (GP:am P w K mg base CX0 1 fP Qy ["row","other"] (qe K))(mP:mg "product" = some (.ref fP))(kP:PySem.W.keepIn K (.ref fP)=true)(bP:Binds K Qy ["row","other"] [])
  (GC:am P w K mg base CX0 2 fC BA ["equation"] (vC CA CB CM CQ))(mC:mg "charge_row" = some (.ref fC))(kC:PySem.W.keepIn K (.ref fC)=true)(bC:Binds K BA ["equation"] []) :
  am P w K mg base CX0 4 f fd ["equation","numbers"] (qc K CA CB CM CQ):=by
 refine F.ok kg (fun vs H Q E h=>?_) (fun bp A outer s H vs Q E hr h=>?_)
 ·obtain⟨er,ll,rl,a,ls,rs,q,c,rfl,_⟩:=h;rfl
 ·obtain⟨er,ll,rl,a,ls,rs,q,c,rfl,hq,h8,h9,ha,hn,hc,kk⟩:=h;have hu:=eE hr;have iJ:Room 1 _:=hr.mono (by decide)
  have eg:Room 2 _:=hr.mono (by decide)
  have j9:Room 3 _:=hr.mono (by decide)
  rw [Dc]at ha;refine⟨_,aN (di (i:=2) kg.nd rfl (Or.inl rfl) (fO GU j9 rfl mU kU bU .nil aC (ao (pv 0) aD)))
   (aN (lH PassesOwn.never rfl (qx (l5 (ZaR rfl) (by rfl) ms boot_sorted (ao (oY (pv 2)) aD))) (eT (i:=3) kg.nd rfl (Or.inl rfl))
     (bg (bZ (gq dZ (fO GP iJ rfl mP kP bP .nil aC (ao (PX hu (pv 2) (pv 3) (fun _ _=>rfl)) (ao (pv 1) aD))) bx (eS _))
       (bg (dJ (mL (ao bx (ao (dk zw (pv 3) bx (fun _ _=>rfl)) (ao (dk zw (pv 3) bx (fun _ _=>rfl)) aD)))))) il)))
   (aN (bZ (gq dZ (fO GP iJ rfl mP kP bP .nil aC (ao (fO GC eg rfl mC kC bC .nil aC (ao (pv 0) aD)) (ao (pv 1) aD))) bx (eS _))
     (bg (dJ (mL (ao bx (ao bx (ao bx aD)))))) il)
   (bg (dJ (mL (ao bx (ao bx (ao bx aD)))))))),?_⟩
  refine⟨_,rfl,er,ll,rl,ls,rs,q,rfl,hq,h8,h9,fun H1 d ks cg s1 nd na t1 mem lks=>?_⟩;have D1:=t1.dx;refine⟨_,rfl,d,_,rfl,D1,fun v hv=>?_⟩;have s2:L2.Same H1 (upd H1 v (qU v d)):=RD.Same.new hv;have D2:=D1.same s2;have hks:(ke ks cg).map (·.1)=(ks.map ip).map pk:=by
   unfold ke;rw [jL,jL];have e:((fun x:List Key×V=>x.1) ∘ fun x:Fk.Key×Addr=>(pk (ip x.1),V.ref x.2))=(pk ∘ ip) ∘ fun x:Fk.Key×Addr=>x.1:=rfl;rw [e,<-jL,List.map_fst_zip (by rw [t1.len];exact bK _)]
  refine⟨v,d,_,_,rfl,Z2j,D2,hks,fun p qs uS hp pq KN bO hsq=>?_⟩;have Ql:=ZbH t1.nd mem pq KN;have eK:Fk.keysOf (q.all.flatMap Fk.Mol.units)=q.keys:=rfl;rw [eK]at Ql;subst Ql;rw [aT]at bO;have s3:L2.Same (upd H1 v (qU v d)) (upd (upd H1 v (qU v d)) p (.lst (uS.map V.ref))):=RD.Same.new hp;generalize lN:upd (upd H1 v (qU v d)) p (.lst (uS.map V.ref))=H3 at s3;have zT:H3 p=some (.lst (uS.map V.ref)):=by rw [<-lN];exact Z2j
  have Ry:=s2.trans s3;have Gf:=s1.trans Ry;have t3:=t1.same Ry;have lc:q.left.length<=c.length:=by rw [hn.1];omega
  have eL:iO q c=match q.keys.find? fun k=>!q.keeps c fun M=>(Fk.countIn M.units k:Nat)with
   |some k=>[0,(k.1:Int),(k.2:Int)]
   |none=>if q.keeps c Fk.Mol.charge=true then[1,0,0]else[0,0,0]:=by
   unfold iO Fk.Equation.lost;cases q.keys.find? fun k=>!q.keeps c fun M=>(Fk.countIn M.units k:Nat)with
   |some k=>rfl
   |none =>
    dsimp only;by_cases h:q.keeps c Fk.Mol.charge=true
    ·rw [ae h,ae h]
    ·rw [ac h,ac h];rfl
  refine⟨p,rfl,⟨_,SqL.of zT⟩,FB (K:=K) (a:=p) (xs:=uS.map V.ref) (fun i σ H'=>∃ v3:Option V,σ=[some (.ref er),some (.ref a),some (.ref d),v3]/\L2.Same H3 H'/\∀ k∈q.keys.take i,(q.keeps c fun M=>(Fk.countIn M.units k:Nat))=true)
   ⟨none,rfl,L2.Same.refl _,fun k hk=>by simp at hk⟩ (fun i σ H' _ ⟨_,_,s',_⟩=>SqL.of (s' _ _ zT)) ?_ ?_⟩
  ·rintro i y σ H4 hi ⟨v3,rfl,s4,dL⟩;obtain⟨b,hb,rfl⟩:∃ b,uS[i]?=some b/\y=V.ref b:=by
    rw [dP]at hi;cases e:uS[i]? with
    |none=>rw [e]at hi;cases hi
    |some b=>rw [e]at hi;exact⟨b,rfl,(Option.some.inj hi).symm⟩
   have lb:i<q.keys.length:=by rw [<-bO];exact(ee.mp hb).1
   have hk:q.keys[i]?=some q.keys[i]:=du lb;generalize q.keys[i]=u at hk;have RB:SqT K H4 b ((pk (ip u)).map kV):=RD.Same.sqT (s3.trans s4) (hsq i (ip u) b (by rw [dP,hk];rfl) hb)
   have um:u∈ks:=by
    rw [mem u,<-HW];exact gK hk
   have t4:=t3.same s4;obtain⟨pp,ra,g1,g2,g3,g4⟩:=t4.get um;rw [pL]at g4;refine⟨_,rfl,_,rfl,d,b,_,_,_,rfl,rfl,t4.dx,RB,g3,_,rfl,ra,a,_,_,rfl,SqL.of g4,(Gf.trans s4).seq ha,by rw [OX];omega,vi hc _,fun H5 s5=>?_⟩
   refine⟨rfl,_,rfl,bt (fun fQ=>?_) (fun fQ=>?_)⟩
   ·have nk:¬ (q.keeps c fun M=>(Fk.countIn M.units u:Nat))=true:=fun z=>by
     have:=(Fp (fun M=>((Fk.countIn M.units u:Nat):Int)) lc).mp z;rw [this]at fQ;simp at fQ
    have JP:(q.keys.find? fun k=>!q.keeps c fun M=>(Fk.countIn M.units k:Nat))=some u:=by
     rw [List.find?_eq_some_iff_getElem];refine⟨by simpa using nk,i,lb,(ee.mp hk).2,fun j hj=>?_⟩
     have:=dL (q.keys[j]'(by omega)) (List.mem_take_iff_getElem.mpr ⟨j,by omega,rfl⟩)
     rw [this];rfl
    rw [eL,JP]at kk;have yF:=RD.Same.sqT s5 RB;refine⟨_,rfl,b,_,_,_,rfl,rfl,yF,rfl,_,rfl,b,_,_,_,rfl,rfl,yF,rfl,(by show 3<=sizeLine;decide),fun r qK=>?_⟩
    exact kk _ r (((Gf.trans s4).trans s5).trans (RD.Same.new qK)) (((Gf.trans s4).trans s5).free qK) Z2j
   ·have yk:(q.keeps c fun M=>(Fk.countIn M.units u:Nat))=true:=by
     refine(Fp (fun M=>((Fk.countIn M.units u:Nat):Int)) lc).mpr ?_;by_cases z:LA.dot (q.side fun M=>((Fk.countIn M.units u:Nat):Int)) (iN c)=0
     ·exact z
     ·exact absurd (by simpa using z) fQ
    refine⟨_,rfl,s4.trans s5,fun k zR=>?_⟩;rw [mJ,hk]at zR;rcases dy.mp zR with h |h
    ·exact dL k h
    ·rw [show k=u by simpa using h];exact yk
  ·rintro σ H4 ⟨v3,rfl,s4,dL⟩;rw [aT,bO,qw]at dL;have JP:(q.keys.find? fun k=>!q.keeps c fun M=>(Fk.countIn M.units k:Nat))=none:=by
    rw [List.find?_eq_none];intro k hk;rw [dL k hk];simp
   rw [eL,JP]at kk;have LZ:=Gf.trans s4;refine⟨_,rfl,er,ll,rl,ls,rs,q,rfl,hq.same LZ,h8,h9,fun H5 l s5 nl hl=>?_⟩;refine⟨_,rfl,l,a,_,_,rfl,SqL.of hl,(LZ.trans s5).seq ha,by rw [OX];omega,vi hc _,fun H6 s6=>?_⟩
   have Ge:=(LZ.trans s5).trans s6;refine⟨rfl,_,rfl,bt (fun fQ=>?_) (fun fQ=>?_)⟩
   ·have nk:¬ q.keeps c Fk.Mol.charge=true:=fun z=>by
     have:=(Fp Fk.Mol.charge lc).mp z;rw [this]at fQ;simp at fQ
    rw [ac nk]at kk;exact⟨(by show 3<=sizeLine;decide),fun r qK=>kk _ r (Ge.trans (RD.Same.new qK)) (Ge.free qK) Z2j⟩
   ·have yk:q.keeps c Fk.Mol.charge=true:=by
     refine(Fp Fk.Mol.charge lc).mpr ?_;by_cases z:LA.dot (q.side Fk.Mol.charge) (iN c)=0
     ·exact z
     ·exact absurd (by simpa using z) fQ
    rw [ae yk]at kk;exact⟨(by show 3<=sizeLine;decide),fun r qK=>kk _ r (Ge.trans (RD.Same.new qK)) (Ge.free qK) Z2j⟩
end
end BK
end
section
namespace SP
open RD BK
def toB(z:Int):UInt8:=UInt8.ofNat z.toNat
def Byt(bs:List Int):Prop:=∀ x∈bs,0<=x/\x<=255
def dQ(bs:List Int):List UInt8:=bs.map toB
theorem IZ{z:Int}(h:0<=z/\z<=255):((toB z).toNat:Int)=z:=by
 unfold toB;rw [UInt8.toNat_ofNat'];omega
theorem ul{x y:Int}(hx:0<=x/\x<=255)(hy:0<=y/\y<=255)(h:toB x=toB y):x=y:=by
 rw [<-IZ hx,<-IZ hy,h]
theorem Byt.drop{bs:List Int}(h:Byt bs)(n:Nat):Byt (bs.drop n):=fun x hx=>h x (List.mem_of_mem_drop hx)
theorem Byt.take{bs:List Int}(h:Byt bs)(n:Nat):Byt (bs.take n):=fun x hx=>h x (List.mem_of_mem_take hx)
theorem rA(bs:List Int):(dQ bs).length=bs.length:=aT ..
theorem IB(bs:List Int)(n:Nat):(dQ bs).drop n=dQ (bs.drop n):=(List.map_drop ..).symm
theorem Ph(bs:List Int)(n:Nat):(dQ bs).take n=dQ (bs.take n):=(List.map_take ..).symm
theorem oK:∀ {l:List Int},Byt l->((Fk.num (dQ l):Nat):Int)=fq l
 |[],_=>rfl
 |a::l,h=>by
  have ih:=oK (l:=l) fun x hx=>h x (dj _ hx);have ha:=IZ (h a (cY ..));show(((toB a).toNat+256*Fk.num (dQ l):Nat):Int)=a+256*fq l;rw [<-ih];omega
def tf(e:Int×Int):Fk.Fault:=⟨e.1.toNat,e.2.toNat⟩
theorem ku{bs:List Int}{p k:Nat}{lo hi:Int}{BO:Nat->Bool}(hb:Byt bs)(hp:p<=bs.length)(hg:∀ v:Nat,BO v=true↔lo<=(v:Int)/\(v:Int)<=hi) :
  Fk.numIn k BO ((dQ bs).drop p) p=match aW bs p k lo hi with
   |.error e=>.error (tf e)
   |.ok v=>.ok (v.toNat,(dQ bs).drop (p+k),p+k):=by
 unfold Fk.numIn aW;rw [AQ,rA];by_cases h1:bs.length<p+k
 ·rw [ae h1,ae (by omega)]
  show _=Except.error (tf _);unfold tf;simp only [Except.error.injEq,Fk.Fault.mk.injEq];omega
 ·rw [ac h1,ac (by omega)]
  have e:((Fk.num (((dQ bs).drop p).take k):Nat):Int)=fq ((bs.drop p).take k):=by
   rw [IB,Ph];exact oK ((hb.drop p).take k)
  by_cases h2:fq ((bs.drop p).take k)<lo\/hi<fq ((bs.drop p).take k)
  ·rw [ae h2,ac (by rw [hg,e];omega)]
   show _=Except.error (tf _);unfold tf;simp only [Except.error.injEq,Fk.Fault.mk.injEq];omega
  ·rw [ac h2,ae (by rw [hg,e];omega)]
   have e3:Fk.num (((dQ bs).drop p).take k)=(fq ((bs.drop p).take k)).toNat:=by omega
   rw [e3,List.drop_drop]
theorem OW{bs ms:List Int}(hb:Byt bs)(hm:Byt ms):∀ (i:Nat),i<=ms.length->i<=bs.length->(∀ j<i,bs[j]?=ms[j]?) ->
  (match (List.range' i (ms.length-i)).find? fun j=>(dQ bs)[j]? != (dQ ms)[j]? with
    |some j=>(.error ⟨if j<(dQ bs).length then 1 else 5,min j (dQ bs).length⟩:Except Fk.Fault (Fk.Bytes×Nat))
    |none=>.ok ((dQ bs).drop ms.length,ms.length))=match bX bs i (ms.drop i)with
    |.error e=>.error (tf e)
    |.ok q=>.ok ((dQ bs).drop q,q):=by
 intro i hi QN hj;by_cases cc:i<ms.length
 ·have e1:ms.length-i=(ms.length-(i+1))+1:=by omega
  rw [e1,List.range'_succ,qX,Hc cc];unfold bX;have em:(dQ ms)[i]?=some (toB ms[i]):=by unfold dQ;rw [dP,du cc];rfl
  by_cases sI:i=bs.length
  ·rw [ae sI];have eb:(dQ bs)[i]?=none:=by rw [zj,rA];omega
   rw [eb,em];simp only [gT,F5,reduceCtorEq,bz];rw [show(none != some (toB ms[i]))=true from rfl];simp only [rA];rw [ac (by omega)]
   unfold tf;simp only [Except.error.injEq,Fk.Fault.mk.injEq];omega
  ·rw [ac sI];have ji:i<bs.length:=by omega
   have eb:(dQ bs)[i]?=some (toB bs[i]):=by unfold dQ;rw [dP,du ji];rfl
   have q1:=hb _ (AH ji);have q2:=hm _ (AH cc);rw [eb,em,du ji];by_cases bQ:bs[i]=ms[i]
   ·rw [bQ,ac (by simp)]
    rw [show(some (toB ms[i]) != some (toB ms[i]))=false by simp]
    refine OW hb hm (i+1) (by omega) (by omega) fun j qI=>?_
    by_cases hji:j=i
    ·subst hji;rw [du ji,du cc,bQ]
    ·exact hj j (by omega)
   ·rw [ae (by simpa using bQ)]
    have KD:(some (toB bs[i]) != some (toB ms[i]))=true:=by
     rw [gT];intro h;exact bQ (ul q1 q2 (Option.some.inj h))
    rw [KD];simp only [rA];rw [ae ji];unfold tf;simp only [Except.error.injEq,Fk.Fault.mk.injEq];omega
 ·have e1:ms.length-i=0:=by omega
  have e2:i=ms.length:=by omega
  subst e2;rw [e1,List.drop_length];rfl
 termination_by i=>ms.length-i
theorem PQ{bs ms:List Int}(hb:Byt bs)(hm:Byt ms):Fk.mark (dQ ms) (dQ bs)=match bX bs 0 ms with
   |.error e=>.error (tf e)
   |.ok q=>.ok ((dQ bs).drop q,q):=by
 have h:=OW hb hm 0 (fj _) (fj _) (fun j hj=>absurd hj (Nat.not_lt_zero _));rw [List.drop_zero,zi]at h;rw [<-h];unfold Fk.mark;rw [rA,List.range_eq_range'];rfl
end SP
end
section
namespace SP
open RD BK EX
theorem Oo{bs:List Int}(hb:Byt bs):∀ (k p:Nat),p<=bs.length ->
  Fk.atomsIn k ((dQ bs).drop p) p=match jn bs k p with
   |.error e=>.error (tf e)
   |.ok l=>.ok (l,(dQ bs).drop (p+6*k),p+6*k)
 |0,p,hp=>rfl
 |k+1,p,hp=>by
  rw [Ij];unfold eQ Fk.atomsIn;rw [ku (lo:=1) (hi:=118) hb hp (fun v=>by rw [iZ,ag,ag,show Fk.ELEMENTS=118 from rfl];omega)]
  cases e1:aW bs p 1 1 118 with
  |error e=>rfl
  |ok x =>
   obtain⟨q1,q2,q3,_⟩:=dA e1;simp only [Fk.andThen];rw [ku (lo:=0) (hi:=500) hb q1 (fun v=>by rw [ag,show Fk.ISOTOPE=500 from rfl];omega)]
   cases e2:aW bs (p+1) 2 0 500 with
   |error e=>rfl
   |ok y =>
    obtain⟨r1,r2,r3,_⟩:=dA e2;simp only [];rw [ku (lo:=0) (hi:=8) hb r1 (fun v=>by rw [ag];omega),show p+1+2=p+3 from rfl]
    cases e3:aW bs (p+3) 1 0 8 with
    |error e=>rfl
    |ok c =>
     obtain⟨s1,s2,s3,_⟩:=dA e3;simp only [];rw [ku (lo:=0) (hi:=7) hb s1 (fun v=>by rw [ag];omega),show p+3+1=p+4 from rfl]
     cases e4:aW bs (p+4) 1 0 7 with
     |error e=>rfl
     |ok h =>
      obtain⟨t1,t2,t3,_⟩:=dA e4;simp only [];rw [ku (lo:=0) (hi:=2) hb t1 (fun v=>by rw [ag];omega),show p+4+1=p+5 from rfl]
      cases e5:aW bs (p+5) 1 0 2 with
      |error e=>rfl
      |ok s =>
       obtain⟨u1,u2,u3,_⟩:=dA e5;simp only [];rw [show p+5+1=p+6 from rfl,Oo hb k (p+6) (by omega)]
       cases jn bs k (p+6)with
       |error e=>rfl
       |ok l =>
        simp only [];rw [show p+6+6*k=p+6*(k+1) by omega,lB (by omega:0<=c)]
def Ny(mj:Option (Nat×Nat))(b:Int×Int):Prop:=(mj=none/\b=(0,0))\/(mj=some (b.1.toNat,b.2.toNat)/\0<=b.1/\0<=b.2)
theorem wN{mj:Option (Nat×Nat)}{b:Int×Int}{x y:Int}:Ny mj b->0<=x->x+1<=y ->
  (match mj with |some (u,w)=>decide (u<x.toNat) ||(u==x.toNat&&decide (w<y.toNat)) |none=>true) = !cM [x,y] [b.1,b.2]:=by
 intro h hx hy;rcases h with⟨rfl,rfl⟩ |⟨rfl,h1,h2⟩
 ·have:¬ cM [x,y] [0,0]=true:=by rw [BK.ZbS];omega
  simp only [Bool.not_eq_true]at this;rw [this];rfl
 ·have e:(decide (b.1.toNat<x.toNat) ||(b.1.toNat==x.toNat&&decide (b.2.toNat<y.toNat)))=true↔b.1<x\/(b.1=x/\b.2<y):=by
   rw [Bool.or_eq_true,iZ,ag,ag,aG];omega
  show(decide (b.1.toNat<x.toNat) ||(b.1.toNat==x.toNat&&decide (b.2.toNat<y.toNat)))=_;cases h3:cM [x,y] [b.1,b.2]with
  |true =>
   rw [BK.ZbS]at h3;have:¬ (decide (b.1.toNat<x.toNat) ||(b.1.toNat==x.toNat&&decide (b.2.toNat<y.toNat)))=true:=by rw [e];omega
   simpa using this
  |false =>
   have h4:¬ cM [x,y] [b.1,b.2]=true:=by rw [h3];decide
   rw [BK.ZbS]at h4;show _=true;rw [e];omega
theorem Pk{bs:List Int}(hb:Byt bs)(n:Nat):∀ (k p:Nat)(mj:Option (Nat×Nat))(b:Int×Int),p<=bs.length->Ny mj b ->
  Fk.bondsIn n k mj ((dQ bs).drop p) p=match jo bs (n:Int) k p b with
   |.error e=>.error (tf e)
   |.ok l=>.ok (l,(dQ bs).drop (p+4*k),p+4*k)
 |0,p,mj,b,hp,hh=>rfl
 |k+1,p,mj,b,hp,hh=>by
  rw [Io];unfold eR Fk.bondsIn;rw [ku (lo:=0) (hi:=(n:Int)-1) hb hp (fun v=>by rw [ag];omega)]
  cases e1:aW bs p 1 0 ((n:Int)-1)with
  |error e=>rfl
  |ok x =>
   obtain⟨q1,q2,q3,_⟩:=dA e1;simp only [Fk.andThen];rw [ku (lo:=x+1) (hi:=(n:Int)-1) hb q1 (fun v=>by rw [iZ,ag,ag];omega)]
   cases e2:aW bs (p+1) 1 (x+1) ((n:Int)-1)with
   |error e=>rfl
   |ok y =>
    obtain⟨r1,r2,r3,_⟩:=dA e2;simp only [];generalize hc:Fk.need _ 3 p=g;have hg:g=Fk.need (!cM [x,y] [b.1,b.2]) 3 p:=by rw [<-hc];exact au (fun c=>Fk.need c 3 p) (wN hh q2 r2)
    rw [hg];unfold Fk.need;cases e3:cM [x,y] [b.1,b.2]with
    |true =>
     rw [ac (by decide)]
     unfold tf;simp
    |false =>
     rw [ae (by decide)]
     simp only [];rw [ku (lo:=1) (hi:=3) hb r1 (fun v=>by rw [iZ,ag,ag];omega),show p+1+1=p+2 from rfl]
     cases e4:aW bs (p+2) 1 1 3 with
     |error e=>rfl
     |ok o =>
      obtain⟨s1,s2,s3,_⟩:=dA e4;simp only [];rw [ku (lo:=0) (hi:=2) hb s1 (fun v=>by rw [ag];omega),show p+2+1=p+3 from rfl]
      cases e5:aW bs (p+3) 1 0 2 with
      |error e=>rfl
      |ok z =>
       obtain⟨t1,t2,t3,_⟩:=dA e5;simp only [];rw [show p+3+1=p+4 from rfl];rw [Pk hb n k (p+4) (some (x.toNat,y.toNat)) ((x.toNat:Int),(y.toNat:Int)) (by omega) (.inr ⟨by simp;omega,by show 0<=((x.toNat:Nat):Int);omega,by show 0<=((y.toNat:Nat):Int);omega⟩)]
       simp only [ac (show ¬ (false=true) by decide)]
       cases jo bs (n:Int) k (p+4) ((x.toNat:Int),(y.toNat:Int))with
       |error e=>rfl
       |ok l =>
        simp only [];rw [show p+4+4*k=p+4*(k+1) by omega]
theorem Z9U{bs:List Int}(hb:Byt bs):Fk.judgeMol (dQ bs)=match ja bs with
   |.error e=>.error (tf e)
   |.ok M=>.ok M:=by
 unfold Fk.judgeMol ja rG;rw [show Fk.MOLMARK=dQ [70,75,77,49]from rfl,PQ hb (by intro x hx;simp at hx;omega)]
 cases e1:bX bs 0 [70,75,77,49]with
 |error e=>rfl
 |ok p =>
  have hp:=A2 (fj _) e1;simp only [Fk.andThen];rw [ku (lo:=0) (hi:=128) hb hp (fun v=>by rw [ag,show Fk.ATOMS=128 from rfl];omega)]
  cases e2:aW bs p 1 0 128 with
  |error e=>rfl
  |ok n =>
   obtain⟨q1,q2,q3,_⟩:=dA e2;simp only [];rw [ku (lo:=0) (hi:=192) hb q1 (fun v=>by rw [ag,show Fk.BONDS=192 from rfl];omega)]
   cases e3:aW bs (p+1) 1 0 192 with
   |error e=>rfl
   |ok m =>
    obtain⟨r1,r2,r3,_⟩:=dA e3;simp only [];rw [show p+1+1=p+2 from rfl,Oo hb n.toNat (p+2) (by omega)]
    cases e4:jn bs n.toNat (p+2)with
    |error e=>rfl
    |ok as =>
     simp only [];have a4:=ID e4 (by omega)
     rw [Pk hb n.toNat m.toNat (p+2+6*n.toNat) none (0,0) (by omega) (.inl ⟨rfl,rfl⟩),lB q2]
     cases e5:jo bs n m.toNat (p+2+6*n.toNat) (0,0)with
     |error e=>rfl
     |ok ds =>
      simp only [Fk.need];have hl:((dQ bs).drop (p+2+6*n.toNat+4*m.toNat)).isEmpty=true↔¬ p+2+6*n.toNat+4*m.toNat<bs.length:=by
       rw [List.isEmpty_iff,List.drop_eq_nil_iff,rA];omega
      by_cases cc:p+2+6*n.toNat+4*m.toNat<bs.length
      ·rw [ae cc,ac (by rw [hl];omega)]
       unfold tf;simp only [Except.error.injEq,Fk.Fault.mk.injEq];omega
      ·rw [ac cc,ae (hl.mpr cc)];simp only [];cases e6:(List.range (Fk.Mol.n ⟨as,ds⟩)).find? (fun v=>(Fk.Mol.atom ⟨as,ds⟩ v).hand != 0&&!Fk.Mol.handed ⟨as,ds⟩ v)with
       |some v =>
        simp only [];unfold tf;simp only [Except.error.injEq,Fk.Fault.mk.injEq];omega
       |none =>
        simp only [];cases e7:(List.range ds.length).find? (fun j=>(ds[j]?.map Fk.Bond.side).getD 0 != 0&&!Fk.Mol.sided ⟨as,ds⟩ j)with
        |some v =>
         simp only [];unfold tf;simp only [Except.error.injEq,Fk.Fault.mk.injEq];omega
        |none=>rfl
theorem Zbc{bs:List Int}(hb:Byt bs):SumNeutral.bytes bs=some (dQ bs):=by
 unfold SumNeutral.bytes NeutralIO.bytes;rw [ae]
 ·rfl
 ·rw [uJ];intro x hx;have:=hb x hx;simp only [iZ,ag];omega
theorem Iw{bs:List Int}:∀ {ms:List Int}{p:Nat}{e:Int×Int},bX bs p ms=.error e->0<=e.1/\0<=e.2
 |[],p,e,h=>by unfold bX at h;cases h
 |m::ms,p,e,h=>by
  unfold bX at h;split at h
  ·cases h;simp
  ·split at h
   ·cases h;simp
   ·exact Iw h
theorem kz{bs:List Int}{p k:Nat}{lo hi:Int}{e:Int×Int}(h:aW bs p k lo hi=.error e):0<=e.1/\0<=e.2:=by
 unfold aW at h;split at h
 ·cases h;simp
 ·split at h
  ·cases h;simp
  ·cases h
theorem nj{bs:List Int}{p:Nat}{e:Int×Int}(h:eQ bs p=.error e):0<=e.1/\0<=e.2:=by
 unfold eQ at h;split at h
 ·cases h;rename_i h;exact kz h
 ·split at h
  ·cases h;rename_i h;exact kz h
  ·split at h
   ·cases h;rename_i h;exact kz h
   ·split at h
    ·cases h;rename_i h;exact kz h
    ·split at h
     ·cases h;rename_i h;exact kz h
     ·cases h
theorem OJ{bs:List Int}:∀ {k p:Nat}{e:Int×Int},jn bs k p=.error e->0<=e.1/\0<=e.2
 |0,p,e,h=>by cases h
 |k+1,p,e,h=>by
  rw [Ij]at h;split at h
  ·cases h;rename_i h;exact nj h
  ·split at h
   ·cases h;rename_i h;exact OJ h
   ·cases h
theorem nA{bs:List Int}{n:Int}{p:Nat}{b:Int×Int}{e:Int×Int}(h:eR bs n p b=.error e):0<=e.1/\0<=e.2:=by
 unfold eR at h;split at h
 ·cases h;rename_i h;exact kz h
 ·split at h
  ·cases h;rename_i h;exact kz h
  ·split at h
   ·cases h;simp
   ·split at h
    ·cases h;rename_i h;exact kz h
    ·split at h
     ·cases h;rename_i h;exact kz h
     ·cases h
theorem OE{bs:List Int}{n:Int}:∀ {k p:Nat}{b:Int×Int}{e:Int×Int},jo bs n k p b=.error e->0<=e.1/\0<=e.2
 |0,p,b,e,h=>by cases h
 |k+1,p,b,e,h=>by
  rw [Io]at h;split at h
  ·cases h;rename_i h;exact nA h
  ·split at h
   ·cases h;rename_i h;exact OE h
   ·cases h
theorem ZbM{bs:List Int}{e:Int×Int}(h:rG bs=.error e):0<=e.1/\0<=e.2:=by
 unfold rG at h;split at h
 ·cases h;rename_i h;exact Iw h
 ·split at h
  ·cases h;rename_i h;exact kz h
  ·split at h
   ·cases h;rename_i h;exact kz h
   ·split at h
    ·cases h;rename_i h;exact OJ h
    ·split at h
     ·cases h;rename_i h;exact OE h
     ·split at h
      ·cases h;simp;omega
      ·cases h
theorem PR{bs:List Int}{e:Int×Int}(h:ja bs=.error e):0<=e.1/\0<=e.2:=by
 unfold ja at h;split at h
 ·cases h;rename_i h;exact ZbM h
 ·split at h
  ·cases h;simp;omega
  ·split at h
   ·cases h;simp;omega
   ·cases h
theorem Ly(b:Fk.Bytes)(p:Nat):Fk.numIn 2 (fun _=>true) b p=Fk.numIn 2 (fun v=>decide (v<=65535)) b p:=by
 unfold Fk.numIn;by_cases h:b.length<2
 ·rw [ae h,ae h]
 ·rw [ac h,ac h]
  match b,h with
  |[],h=>simp at h
  |[_],h=>simp at h
  |x::y::l,_ =>
   have hx:=x.toNat_lt;have hy:=y.toNat_lt;have e:Fk.num (List.take 2 (x::y::l))=x.toNat+256*(y.toNat+256*0):=rfl;rw [e,ae rfl,ae (ai (by omega))]
theorem xN{bs:List Int}(hb:Byt bs){p:Nat}(hp:p<=bs.length):Fk.molIn ((dQ bs).drop p) p=match eV bs p with
   |.error e=>.error (tf e)
   |.ok x=>.ok (x.1,(dQ bs).drop x.2,x.2):=by
 unfold Fk.molIn eV;rw [Ly,ku (lo:=0) (hi:=65535) hb hp (fun v=>by rw [ag];omega)]
 cases e1:aW bs p 2 0 65535 with
 |error e=>rfl
 |ok n =>
  obtain⟨q1,q2,q3,_⟩:=dA e1;simp only [Fk.andThen,Fk.need];rw [AQ,rA,AQ,rA];by_cases hl:bs.length<p+2+n.toNat
  ·rw [ae hl,ac (by rw [ag];omega)]
   unfold tf;simp only [Except.error.injEq,Fk.Fault.mk.injEq];omega
  ·rw [ac hl,ae (by rw [ag];omega)]
   simp only [];rw [IB,Ph,Z9U ((hb.drop _).take _)];cases e2:ja ((bs.drop (p+2)).take n.toNat)with
   |error e =>
    have:=PR e2;simp only [];unfold tf;simp only [Except.error.injEq,Fk.Fault.mk.injEq];omega
   |ok M =>
    simp only [];rw [<-IB,List.drop_drop]
theorem IN{bs:List Int}(hb:Byt bs):∀ (k p:Nat),p<=bs.length->Fk.molsIn k ((dQ bs).drop p) p=match bY bs k p with
   |.error e=>.error (tf e)
   |.ok y=>.ok (y.1,(dQ bs).drop y.2,y.2)
 |0,p,hp=>rfl
 |k+1,p,hp=>by
  rw [A7];unfold Fk.molsIn;rw [xN hb hp];cases e:eV bs p with
  |error e'=>rfl
  |ok x =>
   simp only [Fk.andThen];rw [IN hb k x.2 (Fx e)];cases bY bs k x.2 with
   |error e'=>rfl
   |ok y=>rfl
theorem ZaS{bs:List Int}(hb:Byt bs):Fk.judgeEq (dQ bs)=match sj bs with
   |.error e=>.error (tf e)
   |.ok E=>.ok E:=by
 unfold Fk.judgeEq sj;rw [show Fk.EQMARK=dQ [70,75,81,49]from rfl,PQ hb (by intro x hx;simp at hx;omega)]
 cases e1:bX bs 0 [70,75,81,49]with
 |error e=>rfl
 |ok p =>
  have hp:=A2 (fj _) e1;simp only [Fk.andThen];rw [ku (lo:=1) (hi:=8) hb hp (fun v=>by rw [iZ,ag,ag,show Fk.SIDE=8 from rfl];omega)]
  cases e2:aW bs p 1 1 8 with
  |error e=>rfl
  |ok n =>
   obtain⟨q1,q2,q3,_⟩:=dA e2;simp only [];rw [ku (lo:=1) (hi:=8) hb q1 (fun v=>by rw [iZ,ag,ag,show Fk.SIDE=8 from rfl];omega)]
   cases e3:aW bs (p+1) 1 1 8 with
   |error e=>rfl
   |ok m =>
    obtain⟨r1,r2,r3,_⟩:=dA e3;simp only [];rw [show p+1+1=p+2 from rfl,IN hb n.toNat (p+2) (by omega)]
    cases e4:bY bs n.toNat (p+2)with
    |error e=>rfl
    |ok x =>
     have a4:=OA (by omega) e4
     simp only [];rw [IN hb m.toNat x.2 a4.2];cases e5:bY bs m.toNat x.2 with
     |error e=>rfl
     |ok y =>
      simp only [Fk.need];have hl:((dQ bs).drop y.2).isEmpty=true↔¬ y.2<bs.length:=by
       rw [List.isEmpty_iff,List.drop_eq_nil_iff,rA];omega
      by_cases cc:y.2<bs.length
      ·rw [ae cc,ac (by rw [hl];omega)]
       unfold tf;simp
      ·rw [ac cc,ae (hl.mpr cc)]
theorem tj{bs:List Int}{p:Nat}{e:Int×Int}(h:eV bs p=.error e):0<=e.1/\0<=e.2:=by
 unfold eV at h;split at h
 ·cases h;rename_i h;exact kz h
 ·split at h
  ·cases h;exact⟨by show(0:Int)<=5;decide,by show(0:Int)<=((bs.length:Nat):Int);omega⟩
  ·split at h
   ·rename_i e' he;cases h;have:=PR he;exact⟨by show(0:Int)<=16+e'.1;omega,by show(0:Int)<=((p+2:Nat):Int)+e'.2;omega⟩
   ·cases h
theorem Iz{bs:List Int}:∀ {k p:Nat}{e:Int×Int},bY bs k p=.error e->0<=e.1/\0<=e.2
 |0,p,e,h=>by cases h
 |k+1,p,e,h=>by
  rw [A7]at h;cases e1:eV bs p with
  |error e'=>rw [e1]at h;cases h;exact tj e1
  |ok x =>
   rw [e1]at h;dsimp only at h;cases e2:bY bs k x.2 with
   |error e'=>rw [e2]at h;cases h;exact Iz e2
   |ok y=>rw [e2]at h;cases h
theorem wJ{bs:List Int}{e:Int×Int}(h:sj bs=.error e):0<=e.1/\0<=e.2:=by
 unfold sj at h;split at h
 ·cases h;rename_i h;exact Iw h
 ·split at h
  ·cases h;rename_i h;exact kz h
  ·split at h
   ·cases h;rename_i h;exact kz h
   ·split at h
    ·cases h;rename_i h;exact Iz h
    ·split at h
     ·cases h;rename_i h;exact Iz h
     ·split at h
      ·cases h;simp
      ·cases h
end SP
namespace BK
open PySem PySem.Spec PyProof.Rows L2 EX RD LM
section
variable{P:Program}{w:World}{K:aq}{mg:Str->Option Value}{base:Heap}{CF CR CW CN CT fF CA CB CM CQ:Addr}
def Ec{ι:Type}(CF CW CN CT:Addr)(pre:ι->List V->Hp->Prop)(gD:ι->List Int)(n:Nat):Sp:=fun vs H Q E=>vs.length=n/\∃ x,pre x vs H /\
 (∀ H' t xs,L2.Same H H'->H t=none->H' t=some (.lst (xs.map V.int))->gD x=0::xs->Q (.ref t) H')/\∀ cls d H',Jt CF CW CN CT (gD x) cls d H'->E cls d H'
theorem sq_tbl{K:aq}{H:Hp}{PT a:Addr}{t1 t2:Array Value}{xs:List V}(hP:H PT=none)(h:SqL K H a xs):SqL K (upd (upd H PT (.tbl t1)) PT (.tbl t2)) a xs:=by
 have ne:∀ o,H a=some o->a≠PT:=fun o e z=>by rw [z,hP]at e;cases e
 rcases h with(h |⟨o,h⟩) |h
 ·exact .inl (.inl (by rw [aj (ne _ h),aj (ne _ h)];exact h))
 ·exact .inl (.inr ⟨o,by rw [aj (ne _ h),aj (ne _ h)];exact h⟩)
 ·exact .inr h
end
end BK
end
section
namespace SP
open RD BK EX
theorem C9:∀ (c:List Nat),(c.map fun n:Nat=>(n:Int)).mapM (m:=Option) SumNeutral.nat=some c
 |[]=>rfl
 |a::c=>by
  rw [ei,List.mapM_cons,C9 c];have:SumNeutral.nat (a:Int)=some a:=by
   unfold SumNeutral.nat;rw [ac (by omega)]
   simp
  rw [this];rfl
theorem Qc{q:Fk.Equation}{c:List Nat}:q.numbers c=true↔gQ q c:=by
 unfold Fk.Equation.numbers gQ Fk.Equation.all;rw [iZ,aG,gC,uJ];refine rJ fun _=>forall_congr' fun x=>forall_congr' fun _=>?_;rw [ag];omega
end SP
namespace BK
open PySem PySem.Spec PyProof.Rows L2 EX RD LM
section
variable{K:aq}
theorem xP{l:List Int}(h:∀ x∈l,0<=x):(l.map Int.toNat).map nV=l.map V.int:=by
 rw [jL];refine qY fun x hx=>?_;show V.int ((x.toNat:Nat):Int)=V.int x;rw [lB (h x hx)]
theorem sq_num{H:Hp}{PT a:Addr}{t1 t2:Array Value}{l:List Int}(h:∀ x∈l,0<=x)(hP:H PT=none)(hs:SqL K H a (l.map V.int)):SqL K (upd (upd H PT (.tbl t1)) PT (.tbl t2)) a ((l.map Int.toNat).map nV):=by
 rw [xP h];exact sq_tbl hP hs
theorem nat_map{l:List Int}(h:∀ x∈l,0<=x):((l.map Int.toNat).map fun n:Nat=>(n:Int))=l:=by
 rw [jL];refine(qY fun x hx=>?_).trans (List.map_id l);show((x.toNat:Nat):Int)=x;exact lB (h x hx)
theorem toNat_lt{l:List Int}(h:∀ x∈l,0<=x/\x<=18446744073709551615):∀ n∈l.map Int.toNat,n<2 ^ 64:=by
 intro n hn;obtain⟨x,hx,rfl⟩:=i3.mp hn;have:=h x hx;have e:(2:Nat) ^ 64=18446744073709551616:=by decide
 rw [e];omega
end
end BK
namespace BK
open PySem PySem.Spec PyProof.Rows L2 EX RD LM
abbrev Kx:=List Int×List Nat
section
variable{P:Program}{w:World}{K:aq}{mg:Str->Option Value}{base:Heap}{CF CR CW CN CT fF CA CB CM CQ:Addr}
def preK(K:aq)(x:Kx)(vs:List V)(H:Hp):Prop:=∃ a b,vs=[.ref a,.ref b]/\SqL K H a (x.1.map V.int)/\SqL K H b (x.2.map nV)/\(∀ z∈x.1,0<=z/\z<=255)/\(∀ n∈x.2,n<2 ^ 64)
theorem Zbt{x:Kx}{vs:List V}{H H':Hp}(s:L2.Same H H')(h:preK K x vs H):preK K x vs H':=by
 obtain⟨a,b,e,h1,h2,h3⟩:=h;exact⟨a,b,e,s.seq h1,s.seq h2,h3⟩
open Classical in
noncomputable def gz(x:Kx):List Int:=match sj x.1 with
 |.error e=>[-5,0,e.1,e.2]
 |.ok E=>if gQ E x.2 then 0::iO E x.2 else[-1]
theorem DV:cU ["sides","numbers","read"] ["sides","numbers"] (bj Hx):=⟨rfl,rfl,rfl,by decide +kernel,rfl,by decide +kernel,by decide +kernel⟩
theorem ya{f f1 f2 f3:Addr}{fd uX By Bz:FuncData}(F:Fun K "tell_kept" "tell_kept" Hx f fd)
  (G1:am P w K mg base (CXQ false P w) 13 f1 uX ["form"] (D5 K CF CA CB CM CQ))(m1:mg "read_equation" = some (.ref f1))(k1:PySem.W.keepIn K (.ref f1)=true)(b1:Binds K uX ["form"] [])
  (G2:am P w K mg base (CXQ false P w) 2 f2 By ["equation","numbers"] (Oj K CW CA CB CM CQ))(m2:mg "refuse_numbers" = some (.ref f2))(k2:PySem.W.keepIn K (.ref f2)=true)(b2:Binds K By ["equation","numbers"] [])
  (G3:am P w K mg base CX0 4 f3 Bz ["equation","numbers"] (qc K CA CB CM CQ))(m3:mg "kept_row" = some (.ref f3))(k3:PySem.W.keepIn K (.ref f3)=true)(b3:Binds K Bz ["equation","numbers"] []) :
  am P w K mg base (CXQ false P w) 14 f fd ["sides","numbers"] (Ec CF CW CN CT (preK K) gz 2):=by
 refine kY F DV (fun vs H Q E h=>h.1) (fun bp A outer s H vs Q E hr h=>?_);obtain⟨_,x,⟨a,b,rfl,hA,hB,hb,hc64⟩,kk1,kk2⟩:=h;have eg:Room 2 _:=hr.mono (by decide)
 have hr4:Room 4 _:=hr.mono (by decide)
 refine⟨_,aN (di (i:=2) DV.nd rfl (Or.inl rfl) (fO G1 hr rfl m1 k1 b1 .nil gu (ao (pv 0) aD)))
  (aN (gR (fO G2 eg rfl m2 k2 b2 .nil gu (ao (pv 2) (ao (pv 1) aD))))
  (bg (dJ (fO G3 hr4 rfl m3 k3 b3 .nil aC (ao (pv 2) (ao (pv 1) aD)))))),?_⟩
 unfold gz at kk1 kk2;refine⟨_,rfl,a,x.1,rfl,hA,hb,?_⟩;cases e1:sj x.1 with
 |error e =>
  rw [e1]at kk2;exact fun H' dx s1 hd=>kk2 _ _ _ (.inl ⟨rfl,dx,e.1,e.2,0,rfl,hd,rfl⟩)
 |ok E' =>
  rw [e1]at kk1 kk2;dsimp only at kk1 kk2;intro H1 er ll rl ls rs s1 q hl8 hr8;refine⟨_,rfl,_,rfl,er,ll,rl,b,ls,rs,E',x.2,rfl,q,s1.seq hB,fun hn=>?_,fun hn=>?_⟩
  ·rw [ae hn]at kk1;refine⟨_,rfl,_,rfl,er,ll,rl,b,ls,rs,E',x.2,rfl,q,hl8,hr8,s1.seq hB,hn,hc64,fun H2 l s2 nl hl=>?_⟩;exact kk1 H2 l _ (s1.trans s2) (s1.free nl) hl rfl
  ·rw [ac hn]at kk2;exact kk2 _ _ _ (.inr (.inl ⟨rfl,rfl⟩))
theorem ZbU(x:Kx):(gz x).length<=sizeLine:=by
 unfold gz;split
 ·show 4<=sizeLine;decide
 ·split
  ·unfold iO;split<;>(show 4<=sizeLine;decide)
  ·show 1<=sizeLine;decide
end
end BK
namespace SP
open RD BK EX
theorem ZbX{x:Kx}(h1:Byt x.1):PyYqfkea.kept x.1 (x.2.map fun n:Nat=>(n:Int))=gz x:=by
 unfold PyYqfkea.kept SumNeutral.f;have hc:SumNeutral.callOf [[7],x.1,x.2.map fun n:Nat=>(n:Int)]=some (.kept (dQ x.1) x.2):=by
  show((SumNeutral.bytes x.1).bind fun p=>((x.2.map fun n:Nat=>(n:Int)).mapM SumNeutral.nat).bind fun c=>some (FkS.Call.kept p c))=_;rw [Zbc h1,C9];rfl
 rw [hc];show SumNeutral.told (FkS.judged 0 (Fk.judgeEq (dQ x.1)) _)=_;rw [ZaS h1];unfold gz;cases e:sj x.1 with
 |error e' =>
  have:=wJ e;simp only [FkS.judged,SumNeutral.told,tf];simp only [List.cons.injEq,true_and,i5];omega
 |ok E =>
  simp only [FkS.judged];by_cases hn:gQ E x.2
  ·rw [ae hn,ae (Qc.mpr hn)];unfold iO;cases E.lost x.2<;>rfl
  ·rw [ac hn,ac (fun z=>hn (Qc.mp z))];rfl
end SP
namespace BK
open PySem PySem.Spec PyProof.Rows L2 EX RD LM
section
variable{P:Program}{w:World}{K:aq}{mg:Str->Option Value}{base:Heap}{CF CR CW CN CT fF CA CB CM:Addr}
def keptF(x:Kx):List Int:=PyYqfkea.kept x.1 (x.2.map fun n:Nat=>(n:Int))
theorem j6:Ju mO ["sides","numbers"] ["sides","numbers"] [0,1]:=⟨⟨rfl,rfl,rfl,by decide +kernel,rfl,by decide +kernel,by decide +kernel⟩,⟨rfl,rfl,rfl,by decide +kernel,by decide +kernel⟩,⟨_,_,_,rfl⟩,fun _=>rfl,by decide +kernel,
 fun j y h=>match j,h with |0,h=>⟨0,rfl,h⟩ |1,h=>⟨1,rfl,h⟩ |j+2,h=>by simp at h,rfl,by decide +kernel,rfl,fun _ _ _ _ _=>rfl⟩
theorem Dr{f fB:Addr}{fd iG:FuncData}{qual:Str}{cl:List (Str×Addr)}{cd:Value}{vs:List V}(L:uA base f fd qual (zm mO) (Bc mO) (rE mO) cl cd ["sides","numbers"] vs)
  (GB:am P w K mg base (CXQ false P w) 14 fB iG ["sides","numbers"] (Ec CF CW CN CT (preK K) gz 2))(mB:mg "tell_kept" = some (.ref fB))(kB:PySem.W.keepIn K (.ref fB)=true)(bB:Binds K iG ["sides","numbers"] []) :
  am P w K mg base (CXQ false P w) 15 f fd [] (RA CF CW CN CT (preK K) keptF vs):=by
 refine okL L j6.ls (fun vs H Q E h=>by rw [h.1];rfl) fun A outer s H Q E hr h=>?_
 obtain⟨_,x,⟨a,b,rfl,hx⟩,k1,k2⟩:=h;have e:keptF x=gz x:=SP.ZbX (x:=x) hx.2.2.1;exact⟨_,fO GB hr rfl mB kB bB .nil ZaY (ao (pv 0) (ao (pv 1) aD)),⟨_,rfl,_,rfl,rfl,x,⟨a,b,rfl,hx⟩,fun H' t xs s n h q=>k1 H' t xs s n h (e.trans q),fun cls d H' r=>k2 cls d H' (by rw [e];exact r)⟩⟩
end
end BK
end
section
namespace BK
open PySem PySem.Spec PyProof.Rows L2 EX RD LM
open PySem.W (Codec)
abbrev gp(K:aq)(x:Str)(st:Stmt):Prop:=∃ f fd,PySem.W.nsIn K mainGlobals x=some (some (.ref f))/\Fun K x x st f fd
abbrev ii(K:aq)(C:Addr)(x q:Str)(st:Stmt):Prop:=∃ f fd,PySem.W.findIn K (.ref C) x=some (some (.ref f))/\PySem.W.isFn K (.ref f)=true/\Fun K x q st f fd
abbrev uG(K:aq)(x:Str)(C:Addr):Prop:=PySem.W.nsIn K mainGlobals x=some (some (.ref C))/\(PySem.W.plainGet K C Str.empty=true/\PySem.W.hasDictIn K C=true/\PySem.W.plainOver K C=true/\PySem.W.findIn K (.ref C) "__setattr__" = some (some (.builtin "object.__setattr__")))/\PySem.W.makesIn K C=true/\PySem.W.keepIn K (.ref C)=true
abbrev XCi(K:aq)(x:Str)(n:Int):Prop:=∃ t,PySem.W.nsIn K mainGlobals x=some (some (.int n t))
theorem XCi.v{K:aq}{h:Heap}{mg:Str->Option Value}{x:Str}{n:Int}(X:K.In h)(G:h.Ns mainGlobals mg)(c:XCi K x n):∃ u,mg x=some u/\RelV (.int n) u:=by obtain⟨t,c⟩:=c;exact⟨_,dI X G c,t,rfl⟩
theorem gk{K:aq}{x:Str}{st:Stmt}(f:Addr)(m:Str)(t:Tok)(c:Addr)(h:(PySem.W.nsIn K mainGlobals x,K.lookup f,PySem.W.codeIn K (.ref c) x,PySem.W.keepIn K (.ref f))=(some (some (.ref f)),some ⟨.type "function",none,.func (PySem.W.fnOf x x (lF st) (eP st) (bj st) .none .none .none (.str m t) none (.ref c) .none),#[]⟩,true,true)):gp K x st :=
 ⟨f,_,au Prod.fst h,⟨⟨_,_,_,_,_,_,_,_,_,rfl,au (·.2.1) h,au (·.2.2.1) h⟩,au (·.2.2.2) h⟩⟩
theorem mk{K:aq}{C:Addr}{x q:Str}{st:Stmt}(f:Addr)(m:Str)(t:Tok)(c:Addr)(h:(PySem.W.findIn K (.ref C) x,K.lookup f,PySem.W.codeIn K (.ref c) q,PySem.W.keepIn K (.ref f),PySem.W.isFn K (.ref f))=(some (some (.ref f)),some ⟨.type "function",none,.func (PySem.W.fnOf x q (lF st) (eP st) (bj st) .none .none .none (.str m t) none (.ref c) .none),#[]⟩,true,true,true)):ii K C x q st :=
 ⟨f,_,au Prod.fst h,au (·.2.2.2.2) h,⟨⟨_,_,_,_,_,_,_,_,_,rfl,au (·.2.1) h,au (·.2.2.1) h⟩,au (·.2.2.2.1) h⟩⟩
theorem ck{K:aq}{C:Addr}{x:Str}(h:(PySem.W.nsIn K mainGlobals x,(PySem.W.plainGet K C Str.empty&&PySem.W.hasDictIn K C&&PySem.W.plainOver K C&&PySem.W.makesIn K C&&PySem.W.keepIn K (.ref C)),PySem.W.findIn K (.ref C) "__setattr__")=(some (some (.ref C)),true,some (some (.builtin "object.__setattr__")))):uG K x C:=by
 have a:=au (fun x=>x.2.1) h;simp only [iZ]at a;exact⟨au Prod.fst h,⟨a.1.1.1.1,a.1.1.1.2,a.1.1.2,au (·.2.2) h⟩,a.1.2,a.2⟩
theorem n1{α:Type}{p:List α->Prop}(h:∀ a,p [a])(us:List α)(e:us.length=1):p us:=match us,e with |[a],_=>h a
theorem n2{α:Type}{p:List α->Prop}(h:∀ a b,p [a,b])(us:List α)(e:us.length=2):p us:=match us,e with |[a,b],_=>h a b
theorem n3{α:Type}{p:List α->Prop}(h:∀ a b c,p [a,b,c])(us:List α)(e:us.length=3):p us:=match us,e with |[a,b,c],_=>h a b c
theorem n4{α:Type}{p:List α->Prop}(h:∀ a b c d,p [a,b,c,d])(us:List α)(e:us.length=4):p us:=match us,e with |[a,b,c,d],_=>h a b c d
theorem n5{α:Type}{p:List α->Prop}(h:∀ a b c d e,p [a,b,c,d,e])(us:List α)(e:us.length=5):p us:=match us,e with |[a,b,c,d,e],_=>h a b c d e
theorem n6{α:Type}{p:List α->Prop}(h:∀ a b c d e f,p [a,b,c,d,e,f])(us:List α)(e:us.length=6):p us:=match us,e with |[a,b,c,d,e,f],_=>h a b c d e f
theorem yJ(env:Env)(p1 p2 p3 p4:Pos)(f:Str):swapsWith (.Name f p3) (some (.Attribute (.Name "self" p1) f p2)) p4.line env=pure false:=by rfl
theorem noX(f:Str)(h:f = "rule"\/f = "place"\/f = "which"):typeLookup (.type "Exception") f=pure none:=by
 rcases h with rfl |rfl |rfl
 ·rw [jS,eG];kernel_rfl
 ·rw [jS,eG];kernel_rfl
 ·rw [jS,eG];kernel_rfl
theorem L9:cU ["self","rule","place","which"] ["self","rule","place","which"] (bj zk):=⟨rfl,rfl,rfl,by decide +kernel,rfl,by decide +kernel,by decide +kernel⟩
theorem wA:Jh "rule" "place" "which" (eP zk):=⟨_,_,_,_,_,_,_,_,_,_,_,_,rfl⟩
set_option maxHeartbeats 0 in
theorem all_mk{P:Program}{w:World}{K:aq}{h:Heap}{mg:Str->Option Value}{fa c0 PT yab yaj yaf yag yac yak yaa yae yad yal yam yah yaJ yaz yaA yaB yaC yaD:Addr}(X:K.In h)(G:h.Ns mainGlobals mg)(hfa:mg "kept" = some (.ref fa))
  {ybK ybL:Str}{yai:Addr}{ybM:List Value}{ybN:List Str}{ybO:List Value}{ybP:Bool}{ybQ:Option Bool}{ybR:Option Addr}{ybS ybT ybU ybV ybW:Option Value}
  {ybX ybY:Str}{yau:Addr}{ybZ:List Value}{yca:List Str}{ycb:List Value}{ycc:Bool}{ycd:Option Bool}{yce:Option Addr}{ycf ycg ych yci ycj:Option Value}
  {yck ycl:Str}{yav:Addr}{ycm:List Value}{ycn:List Str}{yco:List Value}{ycp:Bool}{ycq:Option Bool}{ycr:Option Addr}{ycs yct ycu ycv ycw:Option Value}
  {ycx ycy:Str}{yaw:Addr}{ycz:List Value}{ycA:List Str}{ycB:List Value}{ycC:Bool}{ycD:Option Bool}{ycE:Option Addr}{ycF ycG ycH ycI ycJ:Option Value}
  {ycK ycL:Option Addr}{ycM:Array (Option Value)}{ycN ycO ycP ycQ yaK ycR:Value}
  {ycS:Option Addr}{ycT:Nat}{ycU:Array (Option Value)}{yaL:Tok}
  {ycV yaM:Option Addr}{ycW:Array (Option Value)}{ycX yaN yaO yaP yaE yaQ:Value}
  {ycY:Option Addr}{ycZ:Nat}{yda:Array (Option Value)}{ydb ydc:Tok}
  {ydd:Option Addr}{yde:Nat}{ydf:Array (Option Value)}{ydg ydh ydi ydj:Tok}
  {ydk:Option Addr}{ydl:Nat}{ydm:Array (Option Value)}{ydn ydo:Tok}
  {ydp:Option Addr}{ydq:Nat}{ydr:Array (Option Value)}{yds ydt ydu ydv:Tok}
  (yex:PySem.W.nsIn K mainGlobals "Fault" = some (some (.ref yab)))
  (yey:K.lookup yab=some (excClassObj ybK ybL yab yai ybM iF true ybN ybO ybP ybQ ybR ybS ybT ybU ybV ybW "Exception.__new__"))
  (yez:PySem.W.nsOkIn K yai=true)
  (yeA:PySem.W.keepIn K (.ref yab)=true)
  (yeB:PySem.W.nsIn K yai "__init__" = some (some (.ref yah)))
  (yeC:PySem.W.nsIn K yai "__setattr__" = some none)
  (yeD:PySem.W.nsIn K yai "__getattribute__" = some none)
  (yeE:PySem.W.nsIn K yai "__getattr__" = some none)
  (yeF:PySem.W.nsIn K yai "rule" = some none)
  (Sm:PySem.W.findIn K (.ref yab) "rule" = some none)
  (yeG:PySem.W.nsIn K yai "place" = some none)
  (Sn:PySem.W.findIn K (.ref yab) "place" = some none)
  (yeH:PySem.W.nsIn K yai "which" = some none)
  (yeI:PySem.W.findIn K (.ref yab) "which" = some none)
  (yeJ:PySem.W.findIn K (.ref yab) "__getattribute__" = some (some (.builtin "BaseException.__getattribute__")))
  (yeK:PySem.W.findIn K (.ref yab) "__getattr__" = some none)
  (yeL:PySem.W.hasDictIn K yab=true)
  (yeM:PySem.W.mroIn K yab (.type "BaseException")=some true)
  (yeN:PySem.W.nsIn K mainGlobals "WrongNumbers" = some (some (.ref yaj)))
  (yeO:K.lookup yaj=some (excClassObj ybX ybY yaj yau ybZ iF true yca ycb ycc ycd yce ycf ycg ych yci ycj "Exception.__new__"))
  (yeP:PySem.W.nsOkIn K yau=true)
  (yeQ:PySem.W.keepIn K (.ref yaj)=true)
  (yeR:PySem.W.nsIn K yau "__init__" = some none)
  (yeS:PySem.W.nsIn K mainGlobals "NotThere" = some (some (.ref yaf)))
  (yeT:K.lookup yaf=some (excClassObj yck ycl yaf yav ycm iF true ycn yco ycp ycq ycr ycs yct ycu ycv ycw "Exception.__new__"))
  (yeU:PySem.W.nsOkIn K yav=true)
  (yeV:PySem.W.keepIn K (.ref yaf)=true)
  (yeW:PySem.W.nsIn K yav "__init__" = some none)
  (yeX:PySem.W.nsIn K mainGlobals "TooGreat" = some (some (.ref yag)))
  (yeY:K.lookup yag=some (excClassObj ycx ycy yag yaw ycz iF true ycA ycB ycC ycD ycE ycF ycG ycH ycI ycJ "Exception.__new__"))
  (yeZ:PySem.W.nsOkIn K yaw=true)
  (yfa:PySem.W.keepIn K (.ref yag)=true)
  (yfb:PySem.W.nsIn K yaw "__init__" = some none)
  (yfc:yaj≠yab)
  (yfd:yaf≠yab)
  (yfe:yaf≠yaj)
  (yff:yag≠yab)
  (yfg:yag≠yaj)
  (yfh:yag≠yaf)
  (yW:uG K "Reader" yac)
  (yfi:NoAttr K yac "form")
  (yfj:NoAttr K yac "place")
  (yX:uG K "Way" yak)
  (yfk:NoAttr K yak "bond")
  (yfl:NoAttr K yak "other")
  (yfm:NoAttr K yak "rooms")
  (yY:uG K "Search" yaa)
  (yfn:NoAttr K yaa "ways")
  (yfo:NoAttr K yaa "cut")
  (yfp:NoAttr K yaa "bases")
  (yfq:NoAttr K yaa "came_by")
  (yfr:NoAttr K yaa "came_from")
  (yfs:NoAttr K yaa "turns")
  (yft:NoAttr K yaa "waiting")
  (yZ:uG K "Atom" yae)
  (yfu:NoAttr K yae "element")
  (yfv:NoAttr K yae "isotope")
  (yfw:NoAttr K yae "charge")
  (yfx:NoAttr K yae "hydrogens")
  (yfy:NoAttr K yae "hand")
  (y3:uG K "Bond" yad)
  (yfz:NoAttr K yad "a")
  (yfA:NoAttr K yad "b")
  (yfB:NoAttr K yad "order")
  (yfC:NoAttr K yad "side")
  (y4:uG K "Molecule" yal)
  (yfD:NoAttr K yal "atoms")
  (yfE:NoAttr K yal "bonds")
  (y6:uG K "Equation" yam)
  (yfF:NoAttr K yam "left")
  (yfG:NoAttr K yam "right")
  (yfH:PySem.W.findIn K (.ref yab) "__init__" = some (some (.ref yah)))
  (So:PySem.W.isFn K (.ref yah)=true)
  (yfI:K.lookup yah=some ⟨ycN,ycK,.func (PySem.W.fnOf "__init__" "Fault.__init__" (lF zk) (eP zk) (bj zk) (.ref yaJ) ycO ycP ycQ ycL yaK ycR),ycM⟩)
  (Sq:K.lookup yaJ=some ⟨.type "tuple",ycS,.seq #[.int 0 yaL] ycT,ycU⟩)
  (yfJ:PySem.W.codeIn K yaK "Fault.__init__" = true)
  (yfK:PySem.W.keepIn K (.ref yah)=true)
  (yfL:gp K "product" A6)
  (yfM:gp K "count_units" HJ)
  (yfN:gp K "add_units" HA)
  (yfO:gp K "signed_molecules" vV)
  (yfP:gp K "unit_rows" AU)
  (yfQ:gp K "charge_row" uL)
  (yfR:gp K "refuse_numbers" Hj)
  (yfS:gp K "kept_row" Ik)
  (yfT:ii K yac "__init__" "Reader.__init__" HI)
  (yfU:ii K yac "expect_mark" "Reader.expect_mark" Hr)
  (yfV:ii K yac "take" "Reader.take" HM)
  (yfW:ii K yac "number" "Reader.number" HE)
  (yfX:ii K yac "finish" "Reader.finish" HC)
  (yfY:ii K yak "__init__" "Way.__init__" Ii)
  (yfZ:ii K yaa "__init__" "Search.__init__" HN)
  (yga:ii K yaa "reach" "Search.reach" HG)
  (ygb:ii K yaa "allow" "Search.allow" HH)
  (ygc:ii K yaa "comes_back" "Search.comes_back" Hw)
  (ygd:ii K yaa "goes_on" "Search.goes_on" Hg)
  (yge:ii K yaa "closes" "Search.closes" Hl)
  (ygf:ii K yaa "base_of" "Search.base_of" Hi)
  (ygg:ii K yaa "base_before" "Search.base_before" Ht)
  (ygh:ii K yaa "meeting_of" "Search.meeting_of" Hu)
  (ygi:ii K yaa "fold" "Search.fold" HL)
  (ygj:ii K yaa "allow_both" "Search.allow_both" Hv)
  (ygk:gp K "ways_at" A4)
  (ygl:gp K "is_fixed_double" Hf)
  (ygm:gp K "can_go" IJ)
  (ygn:ii K yae "__init__" "Atom.__init__" Ih)
  (ygo:ii K yad "__init__" "Bond.__init__" Ig)
  (ygp:ii K yal "__init__" "Molecule.__init__" Hk)
  (ygq:gp K "read_molecule" Hn)
  (ygr:gp K "read_parts" AT)
  (ygs:gp K "read_atom" HB)
  (ygt:gp K "read_bond" Hy)
  (ygu:gp K "neighbour_counts" AS)
  (ygv:gp K "refuse_wrong_hands" Hq)
  (ygw:gp K "may_have_hand" HF)
  (ygx:gp K "refuse_wrong_sides" Hs)
  (ygy:gp K "may_have_side" Ho)
  (ygz:gp K "may_end_a_side" Hh)
  (ygA:ii K yam "__init__" "Equation.__init__" Hm)
  (ygB:gp K "read_equation" vW)
  (ygC:gp K "read_member" HP)
  (MA:PySem.W.nsIn K mainGlobals "kept" = some (some (.ref yaz)))
  (RM:K.lookup yaz=some ⟨ycX,ycV,.func (PySem.W.fnOf "kept" "kept" (lF mO) (eP mO) (bj mO) .none yaN yaO yaP yaM yaE yaQ),ycW⟩)
  (ygD:PySem.W.codeIn K yaE "kept" = true)
  (ygE:PySem.W.keepIn K (.ref yaz)=true)
  (ygF:gp K "tell_kept" Hx)
  (ygG:gp K "answer" IG)
  (ygH:XCi K "WRONG_MARK" 1)
  (ygI:XCi K "OUT_OF_BOUNDS" 2)
  (ygJ:XCi K "NOT_BEHIND" 3)
  (ygK:XCi K "WRONG_HAND" 4)
  (ygL:XCi K "ENDS_EARLY" 5)
  (ygM:XCi K "WRONG_SIDE" 6)
  (ygN:XCi K "LEFT_OVER" 7)
  (ygO:XCi K "MOST_ELEMENT" 118)
  (ygP:XCi K "MOST_ISOTOPE" 500)
  (ygQ:XCi K "UP" 1)
  (ygR:XCi K "DOWN" (-1))
  (ygS:XCi K "MIDDLE" (-1))
  (ygT:XCi K "MOST_ATOMS" 128)
  (ygU:XCi K "MOST_BONDS" 192)
  (ygV:XCi K "MOST_CHARGE" 4)
  (ygW:XCi K "MOST_HYDROGENS" 7)
  (ygX:XCi K "MOST_HAND" 2)
  (ygY:XCi K "MOST_ORDER" 3)
  (ygZ:XCi K "MOST_SIDE" 2)
  (yha:XCi K "HEAD_SIZE" 6)
  (yhb:XCi K "ATOM_SIZE" 6)
  (yhc:XCi K "BOND_SIZE" 4)
  (yhd:XCi K "MOST_ON_A_SIDE" 8)
  (yhe:XCi K "MOST_SIZE" 65535)
  (yhf:XCi K "WITHIN_MOLECULE" 16)
  (yhg:XCi K "ANSWERED" 0)
  (yhh:XCi K "WRONG_NUMBERS" (-1))
  (yhi:XCi K "NOT_THERE" (-2))
  (yhj:XCi K "FAULTY_FORM" (-5))
  (yhk:XCi K "TOO_GREAT" (-6))
  (yhl:PySem.W.nsIn K mainGlobals "HYDROGEN" = some (some (.ref yaA)))
  (yhm:K.lookup yaA=some ⟨.type "tuple",ycY,.seq #[.int 1 ydb,.int 0 ydc] ycZ,yda⟩)
  (yhn:PySem.W.nsIn K mainGlobals "MARK_molecules" = some (some (.ref yaB)))
  (yho:K.lookup yaB=some ⟨.type "tuple",ydd,.seq #[.int 70 ydg,.int 75 ydh,.int 77 ydi,.int 49 ydj] yde,ydf⟩)
  (yhp:PySem.W.nsIn K mainGlobals "BEFORE_ALL" = some (some (.ref yaC)))
  (yhq:K.lookup yaC=some ⟨.type "tuple",ydk,.seq #[.int 0 ydn,.int 0 ydo] ydl,ydm⟩)
  (yhr:PySem.W.nsIn K mainGlobals "MARK_equations" = some (some (.ref yaD)))
  (yhs:K.lookup yaD=some ⟨.type "tuple",ydp,.seq #[.int 70 yds,.int 75 ydt,.int 81 ydu,.int 49 ydv] ydq,ydr⟩)
  (yht:PySem.W.nsIn K mainGlobals "enumerate" = some none)
  (yhu:PySem.W.nsIn K mainGlobals "len" = some none)
  (yhv:PySem.W.nsIn K mainGlobals "range" = some none)
  (yhw:PySem.W.nsIn K mainGlobals "reversed" = some none)
  (yhx:PySem.W.nsIn K mainGlobals "sorted" = some none)
  (yhy:PySem.W.nsIn K mainGlobals "sum" = some none)
  (yhz:PySem.W.nsIn K mainGlobals "zip" = some none)
  (ht:PySem.W.tabIn K "kept" = some (c0,PT))
  : ∃ (fd:FuncData)(c PT:Addr),PySem.W.tabIn K "kept" = some (c,PT)/\(∀ (s:Shared)(us:List Value),us.length=(["sides","numbers"]:List Str).length->BindsTo s fd ⟨us,[]⟩ ((["sides","numbers"]:List Str).zip us)) /\
   ∀ base:Heap,K.In base->base.Ns mainGlobals mg->PySem.W.CodeHd base c PT->base.BuiltinsAt mg PT->am P w K mg base CX0 17 fa fd ["sides","numbers"] (spD PT [0,1] (preK K) keptF):=by
 have e:=hfa.symm.trans (dI X G MA);cases e;have ymc:aQ K yab "__init__" yah:=⟨yfH,So,yfK⟩;obtain⟨ymd,yme,yhA,MB⟩:=yfL;have yhB:=MB.kp;have yhC:=MB.binds (ps:=["row","other"]) fun _ _ _ _ _ _=>n2 fun _ _=>rfl;have yhD:=dI X G yhA;obtain⟨ymf,ymg,yhE,MC⟩:=yfM;have yhF:=MC.kp;have yhG:=MC.binds (ps:=["molecule"]) fun _ _ _ _ _ _=>n1 fun _=>rfl;have yhH:=dI X G yhE;obtain⟨ymh,ymi,yhI,MD⟩:=yfN;have yhJ:=MD.kp;have yhK:=MD.binds (ps:=["counts","unit","count"]) fun _ _ _ _ _ _=>n3 fun _ _ _=>rfl;have yhL:=dI X G yhI;obtain⟨ymj,ymk,yhM,ME⟩:=yfO;have RN:=ME.kp;have RO:=ME.binds (ps:=["equation"]) fun _ _ _ _ _ _=>n1 fun _=>rfl;have RP:=dI X G yhM;obtain⟨yml,ymm,yhN,MF⟩:=yfP;have yhO:=MF.kp;have yhP:=MF.binds (ps:=["equation"]) fun _ _ _ _ _ _=>n1 fun _=>rfl;have yhQ:=dI X G yhN;obtain⟨ymn,ymo,yhR,MG⟩:=yfQ;have yhS:=MG.kp;have yhT:=MG.binds (ps:=["equation"]) fun _ _ _ _ _ _=>n1 fun _=>rfl;have yhU:=dI X G yhR;obtain⟨ymp,ymq,yhV,MH⟩:=yfR;have yhW:=MH.kp;have yhX:=MH.binds (ps:=["equation","numbers"]) fun _ _ _ _ _ _=>n2 fun _ _=>rfl;have yhY:=dI X G yhV;obtain⟨ymr,yms,yhZ,MI⟩:=yfS;have yia:=MI.kp;have yib:=MI.binds (ps:=["equation","numbers"]) fun _ _ _ _ _ _=>n2 fun _ _=>rfl;have yic:=dI X G yhZ;obtain⟨RQ,ymt,RR,RS,Gk⟩:=yfT;have yid:=Gk.kp;have RT:=Gk.binds (ps:=["self","form"]) fun _ _ _ _ _ _=>n2 fun _ _=>rfl;have ymu:aQ K yac "__init__" RQ:=⟨RR,RS,yid⟩;obtain⟨yie,ymv,yif,yig,Gm⟩:=yfU;have yih:=Gm.kp;have RU:=Gm.binds (ps:=["self","mark"]) fun _ _ _ _ _ _=>n2 fun _ _=>rfl;have RV:aQ K yac "expect_mark" yie:=⟨yif,yig,yih⟩;obtain⟨yii,ymw,yij,yik,Gn⟩:=yfV;have yil:=Gn.kp;have RW:=Gn.binds (ps:=["self","size"]) fun _ _ _ _ _ _=>n2 fun _ _=>rfl;have RX:aQ K yac "take" yii:=⟨yij,yik,yil⟩;obtain⟨yim,ymx,Al,yio,MT⟩:=yfW;have yip:=MT.kp;have EL:=MT.binds (ps:=["self","size","least","most"]) fun _ _ _ _ _ _=>n4 fun _ _ _ _=>rfl;have EM:aQ K yac "number" yim:=⟨Al,yio,yip⟩;obtain⟨yiq,ymy,yir,yis,Go⟩:=yfX;have yit:=Go.kp;have RY:=Go.binds (ps:=["self"]) fun _ _ _ _ _ _=>n1 fun _=>rfl;have RZ:aQ K yac "finish" yiq:=⟨yir,yis,yit⟩;obtain⟨Sa,ymz,Sb,Sc,MU⟩:=yfY;have yiu:=MU.kp;have yiv:=MU.binds (ps:=["self","bond","other","order"]) fun _ _ _ _ _ _=>n4 fun _ _ _ _=>rfl;have ymA:aQ K yak "__init__" Sa:=⟨Sb,Sc,yiu⟩;obtain⟨Sd,ymB,Se,Sf,MV⟩:=yfZ;have yiw:=MV.kp;have yix:=MV.binds (ps:=["self","ways","cut"]) fun _ _ _ _ _ _=>n3 fun _ _ _=>rfl;have ymC:aQ K yaa "__init__" Sd:=⟨Se,Sf,yiw⟩;obtain⟨yiy,ymD,yiz,yiA,MW⟩:=yga;have yiB:=MW.kp;have Sg:=MW.binds (ps:=["self","atom","before","bond","turn"]) fun _ _ _ _ _ _=>n5 fun _ _ _ _ _=>rfl;have Sh:aQ K yaa "reach" yiy:=⟨yiz,yiA,yiB⟩;obtain⟨yiC,ymE,yiD,yiE,MY⟩:=ygb;have yiF:=MY.kp;have Si:=MY.binds (ps:=["self","atom","turn"]) fun _ _ _ _ _ _=>n3 fun _ _ _=>rfl;have Sj:aQ K yaa "allow" yiC:=⟨yiD,yiE,yiF⟩;obtain⟨yiG,ymF,yiH,yiI,MZ⟩:=ygc;have yiJ:=MZ.kp;have yiK:=MZ.binds (ps:=["self"]) fun _ _ _ _ _ _=>n1 fun _=>rfl;have yiL:aQ K yaa "comes_back" yiG:=⟨yiH,yiI,yiJ⟩;obtain⟨yiM,ymG,yiN,yiO,M0⟩:=ygd;have yiP:=M0.kp;have yiQ:=M0.binds (ps:=["self","atom","turn"]) fun _ _ _ _ _ _=>n3 fun _ _ _=>rfl;have yiR:aQ K yaa "goes_on" yiM:=⟨yiN,yiO,yiP⟩;obtain⟨yiS,ymH,yiT,yiU,M4⟩:=yge;have yiV:=M4.kp;have yiW:=M4.binds (ps:=["self","atom","turn","way"]) fun _ _ _ _ _ _=>n4 fun _ _ _ _=>rfl;have yiX:aQ K yaa "closes" yiS:=⟨yiT,yiU,yiV⟩;obtain⟨yiY,ymI,yiZ,yja,M5⟩:=ygf;have yjb:=M5.kp;have Sk:=M5.binds (ps:=["self","atom"]) fun _ _ _ _ _ _=>n2 fun _ _=>rfl;have Sl:aQ K yaa "base_of" yiY:=⟨yiZ,yja,yjb⟩;obtain⟨yjc,ymJ,yjd,yje,M6⟩:=ygg;have yjf:=M6.kp;have Sr:=M6.binds (ps:=["self","base"]) fun _ _ _ _ _ _=>n2 fun _ _=>rfl;have Ss:aQ K yaa "base_before" yjc:=⟨yjd,yje,yjf⟩;obtain⟨yjg,ymK,yjh,yji,M7⟩:=ygh;have yjj:=M7.kp;have yjk:=M7.binds (ps:=["self","base","other"]) fun _ _ _ _ _ _=>n3 fun _ _ _=>rfl;have yjl:aQ K yaa "meeting_of" yjg:=⟨yjh,yji,yjj⟩;obtain⟨yjm,ymL,yjn,yjo,M8⟩:=ygi;have yjp:=M8.kp;have yjq:=M8.binds (ps:=["self","base","meeting"]) fun _ _ _ _ _ _=>n3 fun _ _ _=>rfl;have yjr:aQ K yaa "fold" yjm:=⟨yjn,yjo,yjp⟩;obtain⟨yjs,ymM,yjt,yju,M9⟩:=ygj;have yjv:=M9.kp;have Su:=M9.binds (ps:=["self","atom"]) fun _ _ _ _ _ _=>n2 fun _ _=>rfl;have Sv:aQ K yaa "allow_both" yjs:=⟨yjt,yju,yjv⟩;obtain⟨ymN,ymO,yjw,Na⟩:=ygk;have yjx:=Na.kp;have yjy:=Na.binds (ps:=["count","bonds"]) fun _ _ _ _ _ _=>n2 fun _ _=>rfl;have yjz:=dI X G yjw;obtain⟨ymP,ymQ,yjA,Nb⟩:=ygl;have yjB:=Nb.kp;have yjC:=Nb.binds (ps:=["ways","bonds","number"]) fun _ _ _ _ _ _=>n3 fun _ _ _=>rfl;have yjD:=dI X G yjA;obtain⟨ymR,ymS,yjE,Nc⟩:=ygm;have yjF:=Nc.kp;have yjG:=Nc.binds (ps:=["ways","bonds","number","turn"]) fun _ _ _ _ _ _=>n4 fun _ _ _ _=>rfl;have yjH:=dI X G yjE;obtain⟨Sw,ymT,Sx,Sy,Nf⟩:=ygn;have yjI:=Nf.kp;have yjJ:=Nf.binds (ps:=["self","element","isotope","charge","hydrogens","hand"]) fun _ _ _ _ _ _=>n6 fun _ _ _ _ _ _=>rfl;have ymU:aQ K yae "__init__" Sw:=⟨Sx,Sy,yjI⟩;obtain⟨Sz,ymV,SB,SC,Ng⟩:=ygo;have yjK:=Ng.kp;have yjL:=Ng.binds (ps:=["self","a","b","order","side"]) fun _ _ _ _ _ _=>n5 fun _ _ _ _ _=>rfl;have ymW:aQ K yad "__init__" Sz:=⟨SB,SC,yjK⟩;obtain⟨SD,ymX,SE,SG,Nh⟩:=ygp;have yjM:=Nh.kp;have yjN:=Nh.binds (ps:=["self","atoms","bonds"]) fun _ _ _ _ _ _=>n3 fun _ _ _=>rfl;have ymY:aQ K yal "__init__" SD:=⟨SE,SG,yjM⟩;obtain⟨ymZ,yna,yjO,Ni⟩:=ygq;have yjP:=Ni.kp;have yjQ:=Ni.binds (ps:=["form"]) fun _ _ _ _ _ _=>n1 fun _=>rfl;have yjR:=dI X G yjO;obtain⟨ynb,ync,yjS,Nj⟩:=ygr;have yjT:=Nj.kp;have yjU:=Nj.binds (ps:=["form"]) fun _ _ _ _ _ _=>n1 fun _=>rfl;have yjV:=dI X G yjS;obtain⟨ynd,yne,yjW,Nk⟩:=ygs;have yjX:=Nk.kp;have yjY:=Nk.binds (ps:=["reader"]) fun _ _ _ _ _ _=>n1 fun _=>rfl;have yjZ:=dI X G yjW;obtain⟨ynf,yng,yka,Nl⟩:=ygt;have ykb:=Nl.kp;have ykc:=Nl.binds (ps:=["reader","atom_count","before"]) fun _ _ _ _ _ _=>n3 fun _ _ _=>rfl;have ykd:=dI X G yka;obtain⟨ynh,yni,yke,Nm⟩:=ygu;have ykf:=Nm.kp;have ykg:=Nm.binds (ps:=["molecule"]) fun _ _ _ _ _ _=>n1 fun _=>rfl;have ykh:=dI X G yke;obtain⟨ynj,ynk,yki,Nn⟩:=ygv;have ykj:=Nn.kp;have ykk:=Nn.binds (ps:=["molecule","neighbours"]) fun _ _ _ _ _ _=>n2 fun _ _=>rfl;have ykl:=dI X G yki;obtain⟨ynl,ynm,ykm,No⟩:=ygw;have ykn:=No.kp;have yko:=No.binds (ps:=["atom","neighbours"]) fun _ _ _ _ _ _=>n2 fun _ _=>rfl;have ykp:=dI X G ykm;obtain⟨ynn,yno,ykq,MJ⟩:=ygx;have ykr:=MJ.kp;have yks:=MJ.binds (ps:=["molecule","neighbours"]) fun _ _ _ _ _ _=>n2 fun _ _=>rfl;have ykt:=dI X G ykq;obtain⟨ynp,ynq,yku,MK⟩:=ygy;have ykv:=MK.kp;have ykw:=MK.binds (ps:=["molecule","k","neighbours","ways"]) fun _ _ _ _ _ _=>n4 fun _ _ _ _=>rfl;have ykx:=dI X G yku;obtain⟨ynr,yns,yky,ML⟩:=ygz;have ykz:=ML.kp;have ykA:=ML.binds (ps:=["atom","others"]) fun _ _ _ _ _ _=>n2 fun _ _=>rfl;have ykB:=dI X G yky;obtain⟨SH,ynt,SI,SJ,MM⟩:=ygA;have ykC:=MM.kp;have ykD:=MM.binds (ps:=["self","left","right"]) fun _ _ _ _ _ _=>n3 fun _ _ _=>rfl;have ynu:aQ K yam "__init__" SH:=⟨SI,SJ,ykC⟩;obtain⟨ynv,ynw,ykE,MN⟩:=ygB;have ykF:=MN.kp;have ykG:=MN.binds (ps:=["form"]) fun _ _ _ _ _ _=>n1 fun _=>rfl;have ykH:=dI X G ykE;obtain⟨ynx,yny,ykI,MO⟩:=ygC;have ykJ:=MO.kp;have ykK:=MO.binds (ps:=["reader"]) fun _ _ _ _ _ _=>n1 fun _=>rfl;have ykL:=dI X G ykI;have SK:=wK (st:=mO) RM ygD ygE;have ynz:=SK.binds (ps:=["sides","numbers"]) fun _ _ _ _ _ _=>n2 fun _ _=>rfl;have ynA:=dI X G MA;obtain⟨ynB,ynC,ykM,MP⟩:=ygF;have ykN:=MP.kp;have ykO:=MP.binds (ps:=["sides","numbers"]) fun _ _ _ _ _ _=>n2 fun _ _=>rfl;have ykP:=dI X G ykM;obtain⟨ynD,ynE,ykQ,MQ⟩:=ygG;have ykR:=MQ.kp;have ykS:=MQ.binds (ps:=["tell"]) fun _ _ _ _ _ _=>n1 fun _=>rfl;have ykT:=dI X G ykQ;have ykU:=ygH.v X G;have ykV:=ygI.v X G;have ykW:=ygJ.v X G;have ykX:=ygK.v X G;have ykY:=ygL.v X G;have ykZ:=ygM.v X G;have yla:=ygN.v X G;have ylb:=ygO.v X G;have ylc:=ygP.v X G;have My:=ygQ.v X G;have yld:=ygR.v X G;have yle:=ygS.v X G;have ylf:=ygT.v X G;have ylg:=ygU.v X G;have ylh:=ygV.v X G;have yli:=ygW.v X G;have ylj:=ygX.v X G;have ylk:=ygY.v X G;have yll:=ygZ.v X G;have ylm:=yha.v X G;have yln:=yhb.v X G;have ylo:=yhc.v X G;have ylp:=yhd.v X G;have ylq:=yhe.v X G;have ylr:=yhf.v X G;have yls:=yhg.v X G;have ylt:=yhh.v X G;have ylu:=yhi.v X G;have ylv:=yhj.v X G;have ylw:=yhk.v X G;have ylx:∃ a,mg "HYDROGEN" = some (.ref a)/\∀ H,SqT K H a (([1,0]:List Int).map V.int):=⟨yaA,dI X G yhl,fun H=>.inr ⟨_,_,_,yhm,rfl,rfl,(by show 2<=sizeLine;decide),.cons ⟨_,rfl⟩ (.cons ⟨_,rfl⟩ (.nil))⟩⟩
 have yly:∃ a,mg "MARK_molecules" = some (.ref a)/\∀ H,SqT K H a (([70,75,77,49]:List Int).map V.int):=⟨yaB,dI X G yhn,fun H=>.inr ⟨_,_,_,yho,rfl,rfl,(by show 4<=sizeLine;decide),.cons ⟨_,rfl⟩ (.cons ⟨_,rfl⟩ (.cons ⟨_,rfl⟩ (.cons ⟨_,rfl⟩ (.nil))))⟩⟩
 have ylz:∃ a,mg "BEFORE_ALL" = some (.ref a)/\∀ H,SqT K H a (([0,0]:List Int).map V.int):=⟨yaC,dI X G yhp,fun H=>.inr ⟨_,_,_,yhq,rfl,rfl,(by show 2<=sizeLine;decide),.cons ⟨_,rfl⟩ (.cons ⟨_,rfl⟩ (.nil))⟩⟩
 have ylA:∃ a,mg "MARK_equations" = some (.ref a)/\∀ H,SqT K H a (([70,75,81,49]:List Int).map V.int):=⟨yaD,dI X G yhr,fun H=>.inr ⟨_,_,_,yhs,rfl,rfl,(by show 4<=sizeLine;decide),.cons ⟨_,rfl⟩ (.cons ⟨_,rfl⟩ (.cons ⟨_,rfl⟩ (.cons ⟨_,rfl⟩ (.nil))))⟩⟩
 have MR:=lY X G yht;have SL:=lY X G yhu;have MS:=lY X G yhv;have ylB:=lY X G yhw;have ylC:=lY X G yhx;have EN:=lY X G yhy;have ylD:=lY X G yhz;have ylE:Cls K yac:=⟨yW.2.1.1,yW.2.1.2.1,yW.2.1.2.2.1,yW.2.1.2.2.2⟩;have ylF:=dI X G yW.1;have SM:Mk K yac RQ:=⟨yW.2.2.1,RR,RS,yW.2.2.2⟩;have ylG:Cls K yak:=⟨yX.2.1.1,yX.2.1.2.1,yX.2.1.2.2.1,yX.2.1.2.2.2⟩;have ylH:=dI X G yX.1;have ylI:Mk K yak Sa:=⟨yX.2.2.1,Sb,Sc,yX.2.2.2⟩;have ylJ:Cls K yaa:=⟨yY.2.1.1,yY.2.1.2.1,yY.2.1.2.2.1,yY.2.1.2.2.2⟩;have ylK:=dI X G yY.1;have ylL:Mk K yaa Sd:=⟨yY.2.2.1,Se,Sf,yY.2.2.2⟩;have ylM:Cls K yae:=⟨yZ.2.1.1,yZ.2.1.2.1,yZ.2.1.2.2.1,yZ.2.1.2.2.2⟩;have ylN:=dI X G yZ.1;have ylO:Mk K yae Sw:=⟨yZ.2.2.1,Sx,Sy,yZ.2.2.2⟩;have ylP:Cls K yad:=⟨y3.2.1.1,y3.2.1.2.1,y3.2.1.2.2.1,y3.2.1.2.2.2⟩;have ylQ:=dI X G y3.1;have ylR:Mk K yad Sz:=⟨y3.2.2.1,SB,SC,y3.2.2.2⟩;have ylS:Cls K yal:=⟨y4.2.1.1,y4.2.1.2.1,y4.2.1.2.2.1,y4.2.1.2.2.2⟩;have ylT:=dI X G y4.1;have ylU:Mk K yal SD:=⟨y4.2.2.1,SE,SG,y4.2.2.2⟩;have ylV:Cls K yam:=⟨y6.2.1.1,y6.2.1.2.1,y6.2.1.2.2.1,y6.2.1.2.2.2⟩;have ylW:=dI X G y6.1;have ylX:Mk K yam SH:=⟨y6.2.2.1,SI,SJ,y6.2.2.2⟩;have SN:=dI X G yex;have xc:XC K yab yah ["rule","place","which"]:=⟨⟨_,_,yai,_,_,_,_,_,_,_,_,_,_,_,yey,yez,yeB,yeC,yeD,yeE,fun f hf=>by
  simp only [bv,ij,or_false]at hf;rcases hf with rfl |rfl |rfl
  ·exact yeF
  ·exact yeG
  ·exact yeH⟩,fun f hf=>noX f (by simpa using hf),So,yeA⟩
 have Ak:jl K yab yah "rule" "place" "which" 0:=⟨xc,⟨_,zk,_,_,yaL,⟨_,_,_,_,_,_,_,_,_,rfl,yfI,yfJ⟩,L9,
  fun s us X hl=>n4 (p:=fun u=>BindsTo s _ ⟨u,[]⟩ _) (fun _ _ _ _=>PySem.W.binds_K X rfl Sq rfl rfl rfl) us (by simpa using hl),
  fun s us X hl=>match us,(show us.length=3 by simpa using hl)with |[_,_,_],_=>PySem.W.binds_K X rfl Sq rfl rfl rfl,wA,fun x hx=>by
  simp only [bv,ij,or_false]at hx;rcases hx with rfl |rfl |rfl |rfl<;>rfl⟩,yJ,by decide,by decide,by decide⟩
 have xg:XG K yab:=⟨yeJ,yeK,yeL,yeM⟩;have SO:=dI X G yeN;have SQ:XP K yaj:=⟨⟨_,_,yau,_,_,_,_,_,_,_,_,_,_,_,yeO,yeP,yeR⟩,yeQ⟩;have ylY:=dI X G yeS;have ylZ:XP K yaf:=⟨⟨_,_,yav,_,_,_,_,_,_,_,_,_,_,_,yeT,yeU,yeW⟩,yeV⟩;have yma:=dI X G yeX;have ymb:XP K yag:=⟨⟨_,_,yaw,_,_,_,_,_,_,_,_,_,_,_,yeY,yeZ,yfb⟩,yfa⟩;have TA:ND K mg yab yaj yaf yag yah:=⟨xc,SQ,ylZ,ymb,SN,SO,ylY,yma,yfc,yfd,yff,yfe,yfg,yfh,xg,Sm,Sn,yeI,yls,ylt,ylu,ylv,ylw⟩;refine⟨PySem.W.fnOf "kept" "kept" (lF mO) (eP mO) (bj mO) .none yaN yaO yaP yaM yaE yaQ,c0,PT,ht,fun s us hu=>n2 (p:=fun u=>BindsTo s _ ⟨u,[]⟩ _) (fun _ _=>.of_eq rfl) us hu,fun base zL hGb hC hB=>?_⟩;have T:TR K mg yab yac yah:=⟨Ak,ylE,yfi,yfj,SN,ylF,SL,ylB,ykU,ykV,ykY,yla⟩;have B:TM K mg:=⟨MS,MR,yly,ylz,ylb,ylc,ylf,ylg,ylh,yli,ylj,ylk,yll,ykW,ykX,ykZ,ylm,yln,ylo⟩;have vP:uC K yae:=⟨ylM,yfu,yfv,yfw,yfx,yfy⟩;have vQ:uD K yad:=⟨ylP,yfz,yfA,yfB,yfC⟩;have vR:uF K yal:=⟨ylS,yfD,yfE⟩;have kj:jW K mg yaa:=⟨ylJ,yfn,yfo,yfp,yfq,yfr,yfs,yft,My,yld,yle⟩;have GQ:TW K yak:=⟨ylG,yfk,yfl,yfm⟩;refine okD SK (nF ht MA RM) j6 hC hB ykT ykR ykS (fun base f fd cl cd vs hK hG L=>?_) rfl;have GN:=Du (P:=P) (w:=w) (base:=base) MT T (oR Gn T) RX RW;have GPa:=tE (P:=P) (w:=w) (base:=base) Nj T B vQ SM (Dv Gk T) RT (oP Gm T) RV RU GN EM EL
  (vm Go T) RZ RY (xR Nk T B GN EM EL ylO ylN (Lz Nf vP) yjJ) yjZ yjX yjY
  (Dn Nl T B GN EM EL ylR ylQ (LB Ng vQ) yjL) ykd ykb ykc ylU ylT (LF Nh vR) yjN
 have Np:=tu (P:=P) (w:=w) (base:=base) MY kj;have Nt:=xU (P:=P) (w:=w) (base:=base) M9 kj Np Sj Si;have Nv:=tF (P:=P) (w:=w) (base:=base) MW kj Np Sj Si;have Nq:=xT (P:=P) (w:=w) (base:=base) M5 kj;have Nr:=Dm (P:=P) (w:=w) (base:=base) M6 kj Nq Sl Sk;have Gme:=x6 (P:=P) (w:=w) (base:=base) M7 kj Nr Ss Sr;have Gfo:=xV (P:=P) (w:=w) (base:=base) M8 kj Nr Ss Sr Nt Sv Su;have Gcl:=tz (P:=P) (w:=w) (base:=base) M4 kj GQ Nv Sh Sg Nq Sl Sk Gme yjl yjk Gfo yjr yjq Nt Sv Su;have Ggo:=xW (P:=P) (w:=w) (base:=base) M0 kj GQ Gcl yiX yiW;have Gbk:=xS (P:=P) (w:=w) (base:=base) MZ kj Ggo yiR yiQ;have Gcg:=LD (P:=P) (w:=w) (base:=base) Nc kj vQ ylL ylK (LI MV kj) yix Nv Sh Sg Gbk yiL yiK;have Gfx:=Dq (P:=P) (w:=w) (base:=base) Nb kj Gcg yjH yjF yjG;have Gwa:=yd (P:=P) (w:=w) (base:=base) Na vQ ylI ylH MS MR (LJ MU kj GQ) yiv;have Gsd:=x9 (P:=P) (w:=w) (base:=base) MK vR vP vQ (Dp ML vP) ykB ykz ykA Gfx yjD yjB yjC;have Gss:=tG (P:=P) (w:=w) (base:=base) MJ T B vR vQ Gsd ykx ykv ykw Gwa yjz yjx yjy;have Ghs:=tD (P:=P) (w:=w) (base:=base) (CB:=yad) Nn T B vR vP (xX No vP) ykp ykn yko;have Gmo:=Dt (P:=P) (w:=w) (base:=base) Ni GPa yjV yjT yjU (LG Nm vR vQ) ykh ykf ykg Ghs ykl ykj ykk Gss ykt ykr yks;obtain⟨aH,eH,hH⟩:=ylx;have Gun:=tI (P:=P) (w:=w) (base:=base) (CB:=yad) MC vR vP eH hH (Dk MD) yhL yhJ yhK;have GO:TQ K yam:=⟨ylV,yfF,yfG⟩;have Gs:=Ds (P:=P) (w:=w) (base:=base) MO T xg Sm Sn ylq ylr (iX GN) EM EL (iX (oR Gn T)) RX RW Gmo yjR yjP yjQ;have Geq:=LC (P:=P) (w:=w) (base:=base) MN T MS ylA ylp SM (Dv Gk T) RT (iX (oP Gm T)) RV RU (iX GN) EM EL
  (iX (vm Go T)) RZ RY Gs ykL ykJ ykK ylX ylW (LH MM GO) ykD
 have Nw:=Dx (P:=P) (w:=w) (mg:=mg) (base:=base) (CA:=yae) (CB:=yad) (CM:=yal) ME GO;have Gur:=tH (P:=P) (w:=w) (base:=base) MF MR Nw RP RN RO Gun yhH yhF yhG;have Gch:=Do (P:=P) (w:=w) (base:=base) MG vR vP EN Nw RP RN RO;have Gke:=xY (P:=P) (w:=w) (base:=base) MI ylC Gur yhQ yhO yhP (x8 MB EN ylD) yhD yhB yhC Gch yhU yhS yhT;have Gte:=ya (P:=P) (w:=w) (base:=base) (CN:=yaf) (CT:=yag) MP Geq ykH ykF ykG (iX (oQ MH GO SQ SO SL)) yhY yhW yhX
  Gke yic yia yib
 exact Dl MQ TA (Dr L Gte ykP ykN ykO) (nS L) (nv j6 L) (fun _ _ _=>Zbt)
end BK
open PySem PySem.W PyProof.Rows
set_option maxRecDepth 100000 in
set_option maxHeartbeats 0 in
theorem PySem.Challenge.cw_wholeamounts_s07_kept_holds : PySem.Challenge.rw_wholeamounts_s07_kept.Holds := by
 refine PySem.W.holds_os (r:=PySem.Challenge.rw_wholeamounts_s07_kept) (q:=BK.qV) (loose:=BK.lO) (Xt:=BK.XT) (XP:=PySem.W.XL BK.qV []) (Yf:=BK.HK.obs) (Ya:=BK.HK.val) (YP:=BK.HK.says) (N:=8314) BK.left BK.HK.of BK.HK.keeps (fun s e=>PySem.W.xl_of s (zb.mp e).1) PySem.W.XL.keeps (by rfl) (by rfl) (by rfl)
  (fun s e=>PySem.W.recFacts_of (zb.mp e).2) PySem.W.os_shapes (by decide +kernel) (by decide +kernel) ⟨rfl,rfl,rfl,rfl,rfl,by decide +kernel⟩ ⟨[.list [],.list []],by decide +kernel,by decide +kernel⟩ ?hc
 refine LM.ZbT (r:=PySem.Challenge.rw_wholeamounts_s07_kept) (k:=17) (K:=HD.KF) (CX:=L2.CX0) (ps:=["sides","numbers"]) (sp:=fun K PT=>BK.spD PT [0,1] (BK.preK K) BK.keptF) (by decide +kernel) rfl rfl ⟨rfl,by decide,by decide⟩ ?R (fun w h Y=>PySem.W.kIn_of Y) ?T ?F ?S (fun _ _ _ _ z=>z)
 case R=>first |rfl |kernel_rfl |decide +kernel
 case T=>intro w;first |rfl |kernel_rfl |decide +kernel
 case F =>
  intro w mg fa h Y KX G KA
  open BK in
  exact BK.all_mk (fa:=fa) (c0:=474) (PT:=470) (yab:=32) (ybK:="Fault") (ybL:="Fault") (yai:=31) (ybM:=[(.type "Exception")]) (ybN:=[]) (ybO:=[]) (ybP:=false) (ybQ:=none) (ybR:=none) (ybS:=(some (.ref 15))) (ybT:=none) (ybU:=(some (.str "Fault" 189))) (ybV:=(some (.str "Fault" 197))) (ybW:=(some (.bool true))) (yaj:=45) (ybX:="WrongNumbers") (ybY:="WrongNumbers") (yau:=44) (ybZ:=[(.type "Exception")]) (yca:=[]) (ycb:=[]) (ycc:=false) (ycd:=none) (yce:=none) (ycf:=(some (.ref 36))) (ycg:=none) (ych:=(some (.str "WrongNumbers" 223))) (yci:=(some (.str "WrongNumbers" 231))) (ycj:=(some (.bool true))) (yaf:=58) (yck:="NotThere") (ycl:="NotThere") (yav:=57) (ycm:=[(.type "Exception")]) (ycn:=[]) (yco:=[]) (ycp:=false) (ycq:=none) (ycr:=none) (ycs:=(some (.ref 49))) (yct:=none) (ycu:=(some (.str "NotThere" 243))) (ycv:=(some (.str "NotThere" 251))) (ycw:=(some (.bool true))) (yag:=71) (ycx:="TooGreat") (ycy:="TooGreat") (yaw:=70) (ycz:=[(.type "Exception")]) (ycA:=[]) (ycB:=[]) (ycC:=false) (ycD:=none) (ycE:=none) (ycF:=(some (.ref 62))) (ycG:=none) (ycH:=(some (.str "TooGreat" 263))) (ycI:=(some (.str "TooGreat" 271))) (ycJ:=(some (.bool true))) (yac:=168) (yak:=189) (yaa:=280) (yae:=322) (yad:=343) (yal:=364) (yam:=452) (yah:=29) (ycK:=none) (ycL:=none) (ycM:=#[]) (ycN:=(.type "function")) (ycO:=.none) (ycP:=.none) (ycQ:=(.str "wholeamounts.refusals" 187)) (yaK:=(.ref 28)) (ycR:=.none) (yaJ:=22) (ycS:=none) (ycT:=0) (ycU:=#[]) (yaL:=201) (yaz:=475) (ycV:=none) (yaM:=none) (ycW:=#[]) (ycX:=(.type "function")) (yaN:=.none) (yaO:=.none) (yaP:=(.str "wholeamounts.desk" 934)) (yaE:=(.ref 474)) (yaQ:=.none) (yaA:=80) (ycY:=none) (ycZ:=0) (yda:=#[]) (ydb:=293) (ydc:=294) (yaB:=304) (ydd:=none) (yde:=0) (ydf:=#[]) (ydg:=645) (ydh:=646) (ydi:=647) (ydj:=648) (yaC:=305) (ydk:=none) (ydl:=0) (ydm:=#[]) (ydn:=670) (ydo:=671) (yaD:=435) (ydp:=none) (ydq:=0) (ydr:=#[]) (yds:=875) (ydt:=876) (ydu:=877) (ydv:=878) KX G KA (by kernel_rfl) (by kernel_rfl) (by kernel_rfl) (by kernel_rfl) (by kernel_rfl) (by kernel_rfl) (by kernel_rfl) (by kernel_rfl) (by kernel_rfl) (show _=_ by kernel_rfl) (by kernel_rfl) (show _=_ by kernel_rfl) (by kernel_rfl) (show _=_ by kernel_rfl) (by kernel_rfl) (by kernel_rfl) (by kernel_rfl) (by kernel_rfl) (by kernel_rfl) (by kernel_rfl) (by kernel_rfl) (by kernel_rfl) (by kernel_rfl) (by kernel_rfl) (by kernel_rfl) (by kernel_rfl) (by kernel_rfl) (by kernel_rfl) (by kernel_rfl) (by kernel_rfl) (by kernel_rfl) (by kernel_rfl) (by kernel_rfl) (by decide) (by decide) (by decide) (by decide) (by decide) (by decide) (ck (by kernel_rfl)) (show _=_ by kernel_rfl) (show _=_ by kernel_rfl) (ck (by kernel_rfl)) (show _=_ by kernel_rfl) (show _=_ by kernel_rfl) (show _=_ by kernel_rfl) (ck (by kernel_rfl)) (show _=_ by kernel_rfl) (show _=_ by kernel_rfl) (show _=_ by kernel_rfl) (show _=_ by kernel_rfl) (show _=_ by kernel_rfl) (show _=_ by kernel_rfl) (show _=_ by kernel_rfl) (ck (by kernel_rfl)) (show _=_ by kernel_rfl) (show _=_ by kernel_rfl) (show _=_ by kernel_rfl) (show _=_ by kernel_rfl) (show _=_ by kernel_rfl) (ck (by kernel_rfl)) (show _=_ by kernel_rfl) (show _=_ by kernel_rfl) (show _=_ by kernel_rfl) (show _=_ by kernel_rfl) (ck (by kernel_rfl)) (show _=_ by kernel_rfl) (show _=_ by kernel_rfl) (ck (by kernel_rfl)) (show _=_ by kernel_rfl) (show _=_ by kernel_rfl) (by kernel_rfl) (by kernel_rfl) (by kernel_rfl) (by kernel_rfl) (by kernel_rfl) (by kernel_rfl) (gk 79 "wholeamounts.rows" 283 78 (by kernel_rfl)) (gk 87 "wholeamounts.formulas" 291 86 (by kernel_rfl)) (gk 94 "wholeamounts.formulas" 291 93 (by kernel_rfl)) (gk 99 "wholeamounts.balance" 314 98 (by kernel_rfl)) (gk 104 "wholeamounts.balance" 314 103 (by kernel_rfl)) (gk 109 "wholeamounts.balance" 314 108 (by kernel_rfl)) (gk 116 "wholeamounts.balance" 314 115 (by kernel_rfl)) (gk 123 "wholeamounts.balance" 314 122 (by kernel_rfl)) (mk 137 "wholeamounts.reading" 352 136 (by kernel_rfl)) (mk 144 "wholeamounts.reading" 352 143 (by kernel_rfl)) (mk 151 "wholeamounts.reading" 352 150 (by kernel_rfl)) (mk 158 "wholeamounts.reading" 352 157 (by kernel_rfl)) (mk 165 "wholeamounts.reading" 352 164 (by kernel_rfl)) (mk 186 "wholeamounts.redrawing" 441 185 (by kernel_rfl)) (mk 207 "wholeamounts.redrawing" 441 206 (by kernel_rfl)) (mk 214 "wholeamounts.redrawing" 441 213 (by kernel_rfl)) (mk 221 "wholeamounts.redrawing" 441 220 (by kernel_rfl)) (mk 228 "wholeamounts.redrawing" 441 227 (by kernel_rfl)) (mk 235 "wholeamounts.redrawing" 441 234 (by kernel_rfl)) (mk 242 "wholeamounts.redrawing" 441 241 (by kernel_rfl)) (mk 249 "wholeamounts.redrawing" 441 248 (by kernel_rfl)) (mk 256 "wholeamounts.redrawing" 441 255 (by kernel_rfl)) (mk 263 "wholeamounts.redrawing" 441 262 (by kernel_rfl)) (mk 270 "wholeamounts.redrawing" 441 269 (by kernel_rfl)) (mk 277 "wholeamounts.redrawing" 441 276 (by kernel_rfl)) (gk 289 "wholeamounts.redrawing" 441 288 (by kernel_rfl)) (gk 296 "wholeamounts.redrawing" 441 295 (by kernel_rfl)) (gk 303 "wholeamounts.redrawing" 441 302 (by kernel_rfl)) (mk 319 "wholeamounts.molecules" 643 318 (by kernel_rfl)) (mk 340 "wholeamounts.molecules" 643 339 (by kernel_rfl)) (mk 361 "wholeamounts.molecules" 643 360 (by kernel_rfl)) (gk 375 "wholeamounts.molecules" 643 374 (by kernel_rfl)) (gk 380 "wholeamounts.molecules" 643 379 (by kernel_rfl)) (gk 387 "wholeamounts.molecules" 643 386 (by kernel_rfl)) (gk 394 "wholeamounts.molecules" 643 393 (by kernel_rfl)) (gk 399 "wholeamounts.molecules" 643 398 (by kernel_rfl)) (gk 406 "wholeamounts.molecules" 643 405 (by kernel_rfl)) (gk 413 "wholeamounts.molecules" 643 412 (by kernel_rfl)) (gk 420 "wholeamounts.molecules" 643 419 (by kernel_rfl)) (gk 427 "wholeamounts.molecules" 643 426 (by kernel_rfl)) (gk 434 "wholeamounts.molecules" 643 433 (by kernel_rfl)) (mk 449 "wholeamounts.equations" 873 448 (by kernel_rfl)) (gk 461 "wholeamounts.equations" 873 460 (by kernel_rfl)) (gk 468 "wholeamounts.equations" 873 467 (by kernel_rfl)) (by kernel_rfl) (by kernel_rfl) (by kernel_rfl) (by kernel_rfl) (gk 482 "wholeamounts.desk" 934 481 (by kernel_rfl)) (gk 489 "wholeamounts.desk" 934 488 (by kernel_rfl)) ⟨354,(by kernel_rfl)⟩ ⟨356,(by kernel_rfl)⟩ ⟨358,(by kernel_rfl)⟩ ⟨360,(by kernel_rfl)⟩ ⟨362,(by kernel_rfl)⟩ ⟨364,(by kernel_rfl)⟩ ⟨366,(by kernel_rfl)⟩ ⟨368,(by kernel_rfl)⟩ ⟨370,(by kernel_rfl)⟩ ⟨443,(by kernel_rfl)⟩ ⟨446,(by kernel_rfl)⟩ ⟨449,(by kernel_rfl)⟩ ⟨650,(by kernel_rfl)⟩ ⟨652,(by kernel_rfl)⟩ ⟨654,(by kernel_rfl)⟩ ⟨656,(by kernel_rfl)⟩ ⟨658,(by kernel_rfl)⟩ ⟨660,(by kernel_rfl)⟩ ⟨662,(by kernel_rfl)⟩ ⟨664,(by kernel_rfl)⟩ ⟨666,(by kernel_rfl)⟩ ⟨668,(by kernel_rfl)⟩ ⟨880,(by kernel_rfl)⟩ ⟨882,(by kernel_rfl)⟩ ⟨884,(by kernel_rfl)⟩ ⟨936,(by kernel_rfl)⟩ ⟨939,(by kernel_rfl)⟩ ⟨942,(by kernel_rfl)⟩ ⟨945,(by kernel_rfl)⟩ ⟨948,(by kernel_rfl)⟩ (by kernel_rfl) (by kernel_rfl) (by kernel_rfl) (by kernel_rfl) (by kernel_rfl) (by kernel_rfl) (by kernel_rfl) (by kernel_rfl) (by kernel_rfl) (by kernel_rfl) (by kernel_rfl) (by kernel_rfl) (by kernel_rfl) (by kernel_rfl) (by kernel_rfl) (by kernel_rfl)
 case S =>
  intro K PT H xs a hP va hask hx;cases hx with
  |cons h0 hx =>
   cases hx with
   |cons h1 h3 =>
    cases h3;cases h0 with
    |lst hs0 ha0 =>
     cases h1 with
     |lst hs ha =>
      have e:=L2.ZbQ a.1 _ ha0;subst e;have e:=L2.ZbQ a.2.1 _ ha;subst e;have q:((Codec.inLen 0 30000 a.1&&a.1.all (Codec.inInt 0 255))&&((Codec.inLen 0 100 a.2.1&&a.2.1.all (Codec.inInt 0 18446744073709551615))&&true))=true:=va;simp only [iZ]at q;have hb:∀ x∈a.1,0<=x/\x<=255:=fun x hx=>Codec.inInt_iff.mp (uJ.mp q.1.2 x hx);have hn:∀ x∈a.2.1,0<=x/\x<=18446744073709551615:=fun x hx=>Codec.inInt_iff.mp (uJ.mp q.2.1.2 x hx);have ef:BK.keptF (a.1,a.2.1.map Int.toNat)=PyYqfkea.kept a.1 a.2.1:=by
       unfold BK.keptF;rw [BK.nat_map fun x hx=>(hn x hx).1]
      refine⟨rfl,L2.Z2j,(a.1,a.2.1.map Int.toNat),_,rfl,fun j i v e1 e2=>?_,fun cZ=>⟨_,_,rfl,BK.sq_tbl hP hs0,BK.sq_num (fun x hx=>(hn x hx).1) hP hs,hb,BK.toNat_lt hn⟩,?_,fun H' p hp=>?_⟩
      ·match j,e1,e2 with
       |0,e1,e2=>cases e1;exact e2
       |1,e1,e2=>cases e1;exact e2
       |j+2,e1,e2=>simp at e1
      ·have:=BK.ZbU (a.1,a.2.1.map Int.toNat);rw [<-SP.ZbX (x:=(a.1,a.2.1.map Int.toNat)) hb]at this;exact this
      ·have w8:H' p=some (L2.HO.lst ((BK.keptF (a.1,a.2.1.map Int.toNat)).map L2.V.int)):=hp;rw [ef]at w8;exact .lst (L2.SqL.of w8) (L2.ZbR _)
#print axioms PySem.Challenge.cw_wholeamounts_s07_kept_holds
end
