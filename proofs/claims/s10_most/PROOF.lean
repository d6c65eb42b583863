import PyProof.Rows.All
import Wide.All
import OpenK.AllK
import Wide.FinOn
import Open.Tree
import OpenK.KWalk
import KE.OsHead
import PyProof.EqAt
import PyProof.EqKinds
import PyProof.TupleCall
import KE.BitLaws
import Open.SpecLaws
import KE.OsGo
import PyProof.ExcInit
import PyProof.InstStoreFacts
import PyProof.ExcBaseAll.Exception
import PyProof.ExcArgsOwn
import PyProof.RulesAs
import PyProof.StationsW
import PyProof.ExcAttrAll.Exception
import PyProof.Rows.MatchSeqLen
import KE.KLam
import KE.KSortTupG
import KE.KDictList
import PyProof.DictItems
import PyProof.DictValues
import KE.KPairComp
import KE.KDictSum
import PyProof.DictWalks
import PySem.Challenge.RW_wholeamounts_s10_most
set_option Elab.async false
set_option linter.all false
set_option maxRecDepth 100000
abbrev Z0a:=@PySem.W.Frag
abbrev Z0b:=@List.length_map
abbrev Z0c:=@List.lookup_cons
abbrev Z0d:=@Nat.le_refl
abbrev Z0e:=@List.mem_cons
abbrev Z0f:=@PySem.Heap.lt_size
abbrev Z0g:=@List.mem_cons_of_mem
abbrev Z0h:=@List.mem_cons_self
abbrev Z0i:=@PySem.W.mg_of
abbrev Z0j:=@List.getElem?_eq_getElem
abbrev Z0k:=@List.getElem?_map
abbrev Z0l:=@List.mem_singleton
abbrev Z0m:=@List.mem_append
abbrev Z0n:=@PySem.Heap.get?_push_of_some
abbrev Z0o:=@Nat.ne_of_lt
abbrev Z0p:=@Nat.zero_le
abbrev Z0q:=@List.length_cons
abbrev Z0r:=@List.getElem?_eq_some_iff
abbrev Z0s:=@List.size_toArray
abbrev Z0t:=@Bool.false_ne_true
abbrev Z0u:=@List.mem_of_getElem?
abbrev Z0v:=@Nat.lt_irrefl
abbrev Z0w:=@Nat.lt_of_lt_of_le
abbrev Z0x:=@List.length_append
abbrev Z0y:=@List.not_mem_nil
abbrev Z0z:=@List.map_append
abbrev Z0A:=@Nat.le_trans
abbrev Z0B:=@Bool.and_eq_true
abbrev Z0C:=@List.getD_eq_getElem?_getD
abbrev Z0D:=@List.map_cons
abbrev Z0E:=@PySem.Heap.get?_push_size
abbrev Z0F:=@List.append_nil
abbrev Z0G:=@PySem.Heap.get?_update_other
abbrev Z0H:=@List.mem_map
abbrev Z0I:=@PySem.Heap.size_push
abbrev Z0J:=@List.all_eq_true
abbrev Z0K:=@Int.toNat_of_nonneg
abbrev Z0L:=@List.mem_append_right
abbrev Z0M:=@List.mem_append_left
abbrev Z0N:=@List.nodup_cons
abbrev Z0O:=@PySem.Heap.get?_update_self
abbrev Z0P:=@List.of_mem_zip
abbrev Z0Q:=@Nat.lt_trans
abbrev Z0R:=@PySem.W.ns_none_of
abbrev Z0S:=@List.getElem?_append_left
abbrev Z0T:=@List.length_drop
abbrev Z0U:=@List.length_nil
abbrev Z0V:=@Array.getElem?_eq_some_iff
abbrev Z0W:=@Nat.sub_self
abbrev Z0X:=@List.getElem_mem
abbrev Z0Y:=@Nat.le_of_eq
abbrev Z0Z:=@PySem.W.callWith_K
abbrev Z1a:=@List.any_cons
abbrev Z1b:=@List.find?_cons
abbrev Z1c:=@Option.map_some
abbrev Z1d:=@Nat.pos_of_ne_zero
abbrev Z1e:=@PySem.F.plainAttrs_list
abbrev Z1f:=@List.length_range
abbrev Z1g:=@Int.natCast_mul
abbrev Z1h:=@Bool.and_eq_true_iff
abbrev Z1i:=@List.filterMap_cons
abbrev Z1j:=@Nat.ne_of_gt
abbrev Z1k:=@List.length_take
abbrev Z1l:=@List.getElem?_append_right
abbrev Z1m:=@Nat.le_add_right
abbrev Z1n:=@Nat.lt_of_le_of_lt
abbrev Z1o:=@Nat.gcd_pos_of_pos_right
abbrev Z1p:=@List.nodup_append
abbrev Z1q:=@Nat.sub_zero
abbrev Z1r:=@List.getElem?_eq_none_iff
abbrev Z1s:=@Nat.mul_pos
abbrev Z1t:=@List.mem_range
abbrev Z1u:=@Nat.le_of_lt
abbrev Z1v:=@PySem.Heap.get?_none_of_le
abbrev Z1w:=@List.getElem?_set_self
abbrev Z1x:=@Nat.lt_succ_of_lt
abbrev Z1y:=@List.drop_eq_getElem_cons
abbrev Z1z:=@List.take_succ
abbrev Z1A:=@PySem.F.slot_list_append
abbrev Z1B:=@PySem.F.type_list_append
abbrev Z1C:=@List.filter_cons_of_pos
abbrev Z1D:=@List.filter_cons_of_neg
abbrev Z1E:=@List.map_map
abbrev Z1F:=@List.map_congr_left
abbrev Z1G:=@Nat.mul_right_comm
abbrev Z1H:=@List.length_zip
abbrev Z1I:=@List.foldl_cons
abbrev Z1J:=@List.getElem?_set_ne
abbrev Z1K:=@Bool.eq_iff_iff
abbrev Z1L:=@Nat.lt_succ_self
abbrev Z1M:=@Nat.le_of_succ_le
abbrev Z1N:=@List.nodup_nil
abbrev Z1O:=@List.contains_cons
abbrev Z1P:=@List.nil_append
abbrev Z1Q:=@List.eq_nil_of_length_eq_zero
abbrev Z1R:=@Nat.gcd_dvd_right
abbrev Z1S:=@List.any_eq_true
abbrev Z1T:=@List.take_length
abbrev Z1U:=@Option.getD_some
abbrev Z1V:=@Nat.div_le_self
abbrev Z1W:=@Nat.mul_lt_mul_of_pos_right
abbrev Z1X:=@Nat.mul_div_mul_left
abbrev Z1Y:=@List.take_of_length_le
abbrev Z1Z:=@Array.length_toList
abbrev Z2a:=@Option.map_eq_some_iff
abbrev Z2b:=@PySem.W.plainGet_of
abbrev Z2c:=@PySem.W.looks_findIn
abbrev Z2d:=@PySem.W.methodCall_KW
abbrev Z2e:=@List.length_replicate
abbrev Z2f:=@List.length_singleton
abbrev Z2g:=@PySem.F.store_Exception
abbrev Z2h:=@Int.mul_le_mul_of_nonneg_left
abbrev Z2i:=@List.mem_of_mem_drop
abbrev Z2j:=@Nat.mul_le_mul_right
abbrev Z2k:=@Nat.mul_le_mul_left
section
namespace HT
open PySem PySem.W
def runT(tb:String→Option Builtin)(p:Program)(w:World)(n₀:Nat)(ann:Option Value):Nat→SharedT→Thread→Option SharedT
 |0,_,_=>none
 |n+1,s,t=>match through t with
  |true=>some s
  |false=>match stepOk n₀ ann t with
   |false=>none
   |true=>match stepT (denote tb) p w s t with
    |some (s',t')=>runT tb p w n₀ ann n s' t'
    |none=>none
theorem Zaa{tb:String→Option Builtin}{p:Program}{w:World}{n₀:Nat}{ann:Option Value}:∀ {n:Nat}{s s':SharedT}{t:Thread},runT tb p w n₀ ann n s t=some s'→topRun tb p w n₀ ann n s.abs t=some s'.abs
 |0,_,_,_,h=>by cases h
 |n+1,s,s',t,h=>by
  unfold runT at h
  unfold topRun
  cases ht:through t with
  |true=>rw [ht]at h;cases h;rfl
  |false =>
   rw [ht]at h
   cases hk:stepOk n₀ ann t with
   |false=>rw [hk]at h;cases h
   |true =>
    rw [hk]at h
    cases hs:stepT (denote tb) p w s t with
    |none=>rw [hs]at h;cases h
    |some r=>obtain⟨s₂,t₂⟩:=r;rw [hs]at h;rw [stepT_spec hs];exact Zaa h
def Z5k:List Obj→Nat→BT→BT
 |[],_,t=>t
 |o::l,n,t=>Z5k l (n+1) (t.ins n o)
def insOk:List Obj→Nat→BT→Bool
 |[],_,_=>true
 |o::l,n,t=>((t.ins n o).get n).isSome&&insOk l (n+1) (t.ins n o)
theorem Z7C{life:Life}:∀ (l:List Obj)(n:Nat)(t:BT),insOk l n t=true→absHeap (Z5k l n t) (n+l.length) life=l.foldl Heap.push (absHeap t n life)
 |[],n,t,_=>rfl
 |o::l,n,t,h=>by
  unfold insOk at h
  obtain⟨h1,h2⟩:=Z1h.mp h
  have e:=Z7C (life:=life) l (n+1) (t.ins n o) h2
  rw [absHeap_ins h1]at e
  show absHeap (Z5k l (n+1) (t.ins n o)) (n+(l.length+1)) life=_
  rw [show n+(l.length+1)=n+1+l.length by omega,e]
  rfl
theorem Z8V{life:Life}:∀ (l:List Obj)(a:Array Obj),l.foldl Heap.push ⟨a,life⟩=⟨a++l.toArray,life⟩
 |[],a=>by simp
 |o::l,a=>by
  rw [Z1I]
  show l.foldl Heap.push ⟨a.push o,life⟩=_
  rw [Z8V l (a.push o)]
  simp
def toT(s:Shared):SharedT:=⟨Z5k s.heap.objs.toList 0 .nil,s.heap.objs.size,s.heap.life,s.gens,s.drawn,s.toks,s.os⟩
theorem toT_abs{s:Shared}(h:insOk s.heap.objs.toList 0 .nil=true):(toT s).abs=s:=by
 have e:=Z7C (life:=s.heap.life) s.heap.objs.toList 0 .nil h
 rw [Nat.zero_add,Z1Z]at e
 have e2:absHeap .nil 0 s.heap.life=⟨#[],s.heap.life⟩:=rfl
 rw [e2,Z8V]at e
 obtain⟨⟨objs,life⟩,g,d,t,o⟩:=s
 have e3:absHeap (Z5k objs.toList 0 .nil) objs.size life=⟨objs,life⟩:=by
  have e':absHeap (Z5k objs.toList 0 .nil) objs.size life=⟨#[]++objs.toList.toArray,life⟩:=e
  rw [e'];simp
 show(⟨absHeap (Z5k objs.toList 0 .nil) objs.size life,g,d,t,o⟩:Shared)=_
 rw [e3]
def endsT(p:Program)(w:World)(N:Nat):Option (Shared×SharedT):=(fencedOpening treeTable p w N).bind fun s₀ =>
 match (s₀.heap.isNs mainGlobals&&s₀.gens.size==0)&&insOk s₀.heap.objs.toList 0 .nil with
 |true=>(runT treeTable p w s₀.heap.objs.size (s₀.heap.nsMap mainGlobals "__annotations__") N (toT s₀) (topStub p)).map fun s=>(s₀,s)
 |false=>none
def getT(s:SharedT)(a:Addr):Option Obj:=match Nat.blt a s.n with
 |true=>match s.tree.get a with
  |some o=>alive o
  |none=>none
 |false=>none
theorem getT_get{s:SharedT}{a:Addr}{o:Obj}(h:getT s a=some o):s.abs.heap.get? a=some o:=by
 unfold getT at h
 cases hb:Nat.blt a s.n with
 |false=>rw [hb]at h;cases h
 |true =>
  rw [hb]at h
  have lt:a<s.n:=Nat.ble_eq.mp hb
  cases hg:s.tree.get a with
  |none=>rw [hg]at h;cases h
  |some x =>
   rw [hg]at h
   exact(abs_get lt hg).trans h
def chkT(p:Program)(x:Shared×SharedT):Bool:=staticsOk (importedModules p.main.body) x.1.heap x.2.abs.heap&&namesBound p x.2.abs.heap&&gensDone x.2.abs&&laidKept x.1.heap x.2.abs.heap
def seen1(q:Program)(loose mods:List Str)(Xt:Shared→Bool)(s:Shared):=match openSeen q loose mods Xt true s with |(a,_)=>a
def seen2(q:Program)(loose mods:List Str)(Xt:Shared→Bool)(s:Shared):=match openSeen q loose mods Xt true s with |(_,a,_,c,_)=>(a,c)
def seen5(q:Program)(loose mods:List Str)(Xt:Shared→Bool)(s:Shared):=match openSeen q loose mods Xt true s with |(_,_,b,_)=>b
def seen3(q:Program)(loose mods:List Str)(Xt:Shared→Bool)(s:Shared):=match openSeen q loose mods Xt true s with |(_,_,_,_,a,b,_)=>(a,b)
def seen4(q:Program)(loose mods:List Str)(Xt:Shared→Bool)(s:Shared):=match openSeen q loose mods Xt true s with |(_,_,_,_,_,_,c)=>c
theorem seen_all{q:Program}{loose mods:List Str}{Xt:Shared→Bool}{s:Shared}(h1:seen1 q loose mods Xt s=(openGood q loose).1)(h2:seen2 q loose mods Xt s=((openGood q loose).2.1,true))(h5:seen5 q loose mods Xt s=true)(h3:seen3 q loose mods Xt s=((openGood q loose).2.2.2.2.1,(openGood q loose).2.2.2.2.2.1))
  (h4:seen4 q loose mods Xt s=(openGood q loose).2.2.2.2.2.2):openSeen q loose mods Xt true s=openGood q loose:=by
 have a:=congrArg Prod.fst h2
 have c:=congrArg Prod.snd h2
 have d:=congrArg Prod.fst h3
 have e:=congrArg Prod.snd h3
 exact Prod.ext h1 (Prod.ext a (Prod.ext h5 (Prod.ext c (Prod.ext d (Prod.ext e h4)))))
theorem Zag{s:SharedT}:∀ {as:List Addr}{K:Frag},as.map (getT s)=K.map (fun p=>some p.2)→as.map s.abs.heap.get?=K.map (fun p=>some p.2)
 |[],[],_=>rfl
 |[],_::_,h=>by cases h
 |_::_,[],h=>by cases h
 |a::as,k::K,h=>by
  rw [Z0D,Z0D]at h
  injection h with h1 h2
  rw [Z0D,Z0D,getT_get h1,Zag h2]
theorem left_of{p q:Program}{loose:List Str}{Xt:Shared→Bool}{as:List Addr}{K:Params→Frag}{e:∀ P,as=(K P).map (·.1)}{N:Nat}
  (hA:∀ w:World,(endsT p w N).map (fun x=>(chkT p x,as.map (getT x.2)))=some (true,(K w.params).map fun p=>some p.2))(hB:∀ w:World,(endsT p w N).map (fun x=>seen1 q loose (importedModules p.main.body) Xt x.2.abs)=some (openGood q loose).1)(hD:∀ w:World,(endsT p w N).map (fun x=>seen2 q loose (importedModules p.main.body) Xt x.2.abs)=some ((openGood q loose).2.1,true))(hG:∀ w:World,(endsT p w N).map (fun x=>seen5 q loose (importedModules p.main.body) Xt x.2.abs)=some true)
  (hE:∀ w:World,(endsT p w N).map (fun x=>seen3 q loose (importedModules p.main.body) Xt x.2.abs)=some ((openGood q loose).2.2.2.2.1,(openGood q loose).2.2.2.2.2.1))(hF:∀ w:World,(endsT p w N).map (fun x=>seen4 q loose (importedModules p.main.body) Xt x.2.abs)=some (openGood q loose).2.2.2.2.2.2):LeftO p q loose Xt (kHook K as e).obs (kHook K as e).val N:=fun w=>by
 obtain⟨⟨s₀,sT⟩,h1,g0⟩:=Z2a.mp (hA w)
 have g2:=hB w
 have g4:=hD w
 have g5:=hE w
 have g6:=hF w
 have g7:=hG w
 rw [h1]at g2 g4 g5 g6 g7
 have g1:(staticsOk (importedModules p.main.body) s₀.heap sT.abs.heap&&namesBound p sT.abs.heap&&gensDone sT.abs&&laidKept s₀.heap sT.abs.heap)=true:=congrArg Prod.fst g0
 have g2:=seen_all (Option.some.inj g2) (Option.some.inj g4) (Option.some.inj g7) (Option.some.inj g5) (Option.some.inj g6)
 have g3:=congrArg Prod.snd g0
 unfold endsT at h1
 obtain⟨s₁,h3,h4⟩:=Option.bind_eq_some_iff.mp h1
 cases hc:(s₁.heap.isNs mainGlobals&&s₁.gens.size==0)&&insOk s₁.heap.objs.toList 0 .nil with
 |false=>rw [hc]at h4;cases h4
 |true =>
  rw [hc]at h4
  obtain⟨c1,c2⟩:=Z1h.mp hc
  obtain⟨s₂,h5,h6⟩:=Z2a.mp h4
  cases h6
  have r:=Zaa h5
  rw [toT_abs c2]at r
  unfold openEnds
  rw [h3]
  show(topFrom treeTable p w N s₀).map _=_
  unfold topFrom
  rw [c1,r]
  show((match staticsOk (importedModules p.main.body) s₀.heap sT.abs.heap&&namesBound p sT.abs.heap&&gensDone sT.abs&&laidKept s₀.heap sT.abs.heap with |true=>some sT.abs |false=>none):Option Shared).map _=_
  rw [g1]
  exact congrArg some (Prod.ext g2 (Zag g3))
end HT
end
section
namespace BK
open PySem PySem.Spec PyProof.Rows
def tp(i:Nat):Stmt:=PySem.Challenge.pw_wholeamounts_s10_most.main.body.getD i (.Pass ⟨0,0,0,0⟩)
def tc(i j:Nat):Stmt:=match tp i with
 |.ClassDef _ _ _ b _ _ _ _ _ _ _=>b.getD j (.Pass ⟨0,0,0,0⟩)
 |s=>s
noncomputable def fo(n q:Str)(st:Stmt)(dV kV dc pm:Value)(an:Option Addr)(cd ct:Value):Data:=match st with
 |.FunctionDef _ a b _ _ _ sc _ _ _=>.func (PySem.W.fnOf n q a b sc dV kV dc pm an cd ct)
 |_=>.plain
noncomputable def qV:Program:={ PySem.Challenge.pw_wholeamounts_s10_most with main:={ PySem.Challenge.pw_wholeamounts_s10_most.main with body:=[tp 1,tp 2,tp 3,tp 4,tp 6,tp 7,tp 8,tp 9,tp 10,tp 11,tp 12,tp 13,tp 14,tp 16,tp 17,tp 19,tp 21,tp 22,tp 23,tp 24,tp 25,tp 26,tp 27,tp 28,tp 29,tp 30,tp 32,tp 33,tp 34,tp 35,tp 36,tp 37,tp 38,tp 39,tp 41,tp 42,tp 43,tp 44,tp 45,tp 46,tp 47,tp 48,tp 49,tp 50,tp 51,tp 52,tp 53,tp 54,tp 55,tp 56,tp 57,tp 58,tp 59,tp 60,tp 61,tp 62,tp 63,tp 64,tp 65,tp 67,tp 68,tp 69,tp 70,tp 71,tp 72,tp 73,tp 75,tp 76,tp 77,tp 78,tp 79,tp 80,tp 81,tp 82,tp 83,tp 84] } }
end BK
namespace HD
open PySem BK
noncomputable def d(P:Params)(k:Str)(t:Tok)(v:Value):DictEntry:=⟨PyData.keyHash P k,.str k t,v⟩
abbrev i(z:Int):Value:=.int z 0
abbrev r:Addr→Value:=.ref
abbrev s:Str→Tok→Value:=.str
abbrev u:Tok→Value:=.str "/claim/cut.py"
abbrev n:Value:=.none
abbrev t(a:Addr)(l:Array Value):Addr×Obj:=(a,⟨.type "tuple",none,.seq l 0,#[]⟩)
abbrev c(a:Addr)(l:Array Value):Addr×Obj:=(a,⟨.type "code",none,.fields l,#[]⟩)
noncomputable abbrev f(a:Addr)(x q:Str)(st:Stmt)(v:Value)(m:Str)(k:Tok)(c:Addr):Addr×Obj:=(a,⟨.type "function",none,fo x q st v .none .none (.str m k) none (.ref c) .none,#[]⟩)
noncomputable def KF(P:Params):Z0a:=[
(3,⟨(.type "dict"),none,(.dict #[d P "__name__" 165 (s "wholeamounts.desk" 965),d P "__doc__" 166 n,d P "__package__" 167 n,d P "__loader__" 168 (.builtin "__main__.__loader__#opaque"),d P "__spec__" 169 n,d P "__annotations__" 170 (r 6),d P "__builtins__" 171 (r 4),d P "__file__" 173 (u 172),d P "__cached__" 174 n,d P "Fault" 222 (r 32),d P "WrongNumbers" 242 (r 45),d P "NotThere" 262 (r 58),d P "TooGreat" 282 (r 71),d P "MOST_TOLD" 286 (.int 18446744073709551615 285),d P "common_divisor" 295 (r 81),d P "lowest" 304 (r 88),d P "is_below" 312 (r 95),d P "minus" 320 (r 102),d P "times" 328 (r 109),d P "over" 336 (r 116),d P "paired" 345 (r 123),d P "refuse_above" 354 (r 130),d P "most_row" 362 (r 135),d P "first_least" 372 (r 142),d P "refuse_numbers" 382 (r 149),d P "WRONG_MARK" 386 (.int 1 385),d P "OUT_OF_BOUNDS" 388 (.int 2 387),d P "NOT_BEHIND" 390 (.int 3 389),d P "WRONG_HAND" 392 (.int 4 391),d P "ENDS_EARLY" 394 (.int 5 393),d P "WRONG_SIDE" 396 (.int 6 395),d P "LEFT_OVER" 398 (.int 7 397),d P "MOST_ELEMENT" 400 (.int 118 399),d P "MOST_ISOTOPE" 402 (.int 500 401),d P "Reader" 471 (r 194),d P "UP" 475 (.int 1 474),d P "DOWN" 478 (.int (-1) 477),d P "MIDDLE" 481 (.int (-1) 480),d P "Way" 514 (r 215),d P "Search" 647 (r 306),d P "ways_at" 653 (r 315),d P "is_fixed_double" 662 (r 322),d P "can_go" 673 (r 329),d P "MARK_molecules" 680 (r 330),d P "MOST_ATOMS" 682 (.int 128 681),d P "MOST_BONDS" 684 (.int 192 683),d P "MOST_CHARGE" 686 (.int 4 685),d P "MOST_HYDROGENS" 688 (.int 7 687),d P "MOST_HAND" 690 (.int 2 689),d P "MOST_ORDER" 692 (.int 3 691),d P "MOST_SIDE" 694 (.int 2 693),d P "HEAD_SIZE" 696 (.int 6 695),d P "ATOM_SIZE" 698 (.int 6 697),d P "BOND_SIZE" 700 (.int 4 699),d P "BEFORE_ALL" 703 (r 331),d P "Atom" 740 (r 348),d P "Bond" 775 (r 369),d P "Molecule" 806 (r 390),d P "read_molecule" 815 (r 401),d P "read_parts" 821 (r 406),d P "read_atom" 833 (r 413),d P "read_bond" 847 (r 420),d P "neighbour_counts" 853 (r 425),d P "refuse_wrong_hands" 863 (r 432),d P "may_have_hand" 871 (r 439),d P "refuse_wrong_sides" 883 (r 446),d P "may_have_side" 895 (r 453),d P "may_end_a_side" 903 (r 460),d P "MARK_equations" 910 (r 461),d P "MOST_ON_A_SIDE" 912 (.int 8 911),d P "MOST_SIZE" 914 (.int 65535 913),d P "WITHIN_MOLECULE" 916 (.int 16 915),d P "Equation" 947 (r 478),d P "read_equation" 953 (r 487),d P "read_member" 964 (r 494),d P "ANSWERED" 968 (.int 0 967),d P "WRONG_NUMBERS" 971 (.int (-1) 970),d P "NOT_THERE" 974 (.int (-2) 973),d P "FAULTY_FORM" 977 (.int (-5) 976),d P "TOO_GREAT" 980 (.int (-6) 979),d P "most" 992 (r 501),d P "tell_most" 1002 (r 508),d P "answer" 1010 (r 515),d P "row" 1017 (r 522),d P "fraction_row" 1026 (r 529)] 85),#[]⟩),
t 22 #[(.int 0 201)],
c 28 #[(s "__init__" 202),(s "Fault.__init__" 203),(u 204),(i 4),(i 4),(i 0),(i 0),(i 3),(r 23),(.bool true),(i 181),(r 24),n,(r 25),(r 26),(r 27),(i 209),(i 4),(u 210)],
f 29 "__init__" "Fault.__init__" (tc 1 0) (r 22) "wholeamounts.refusals" 187 28,
(31,⟨(.type "dict"),none,(.dict #[d P "__module__" 196 (s "wholeamounts.refusals" 187),d P "__firstlineno__" 200 (.int 2 199),d P "__init__" 211 (r 29),d P "__static_attributes__" 215 (r 30),d P "__weakref__" 217 (r 33),d P "__doc__" 218 n] 3),#[]⟩),
(32,⟨(.type "type"),none,(.cls ⟨"Fault",[(.type "Exception")],[(r 32),(.type "Exception"),(.type "BaseException"),(.type "object")],31,"Fault",true,[],[],false,none,false⟩),#[(some (r 15)),none,(some (s "Fault" 189)),(some (s "Fault" 197)),(some (.builtin "Exception.__new__")),(some (.bool true))]⟩),
(44,⟨(.type "dict"),none,(.dict #[d P "__module__" 230 (s "wholeamounts.refusals" 187),d P "__firstlineno__" 234 (.int 8 233),d P "__static_attributes__" 235 (r 43),d P "__weakref__" 237 (r 46),d P "__doc__" 238 n] 3),#[]⟩),
(45,⟨(.type "type"),none,(.cls ⟨"WrongNumbers",[(.type "Exception")],[(r 45),(.type "Exception"),(.type "BaseException"),(.type "object")],44,"WrongNumbers",true,[],[],false,none,false⟩),#[(some (r 36)),none,(some (s "WrongNumbers" 223)),(some (s "WrongNumbers" 231)),(some (.builtin "Exception.__new__")),(some (.bool true))]⟩),
(57,⟨(.type "dict"),none,(.dict #[d P "__module__" 250 (s "wholeamounts.refusals" 187),d P "__firstlineno__" 254 (.int 10 253),d P "__static_attributes__" 255 (r 56),d P "__weakref__" 257 (r 59),d P "__doc__" 258 n] 3),#[]⟩),
(58,⟨(.type "type"),none,(.cls ⟨"NotThere",[(.type "Exception")],[(r 58),(.type "Exception"),(.type "BaseException"),(.type "object")],57,"NotThere",true,[],[],false,none,false⟩),#[(some (r 49)),none,(some (s "NotThere" 243)),(some (s "NotThere" 251)),(some (.builtin "Exception.__new__")),(some (.bool true))]⟩),
(70,⟨(.type "dict"),none,(.dict #[d P "__module__" 270 (s "wholeamounts.refusals" 187),d P "__firstlineno__" 274 (.int 12 273),d P "__static_attributes__" 275 (r 69),d P "__weakref__" 277 (r 72),d P "__doc__" 278 n] 3),#[]⟩),
(71,⟨(.type "type"),none,(.cls ⟨"TooGreat",[(.type "Exception")],[(r 71),(.type "Exception"),(.type "BaseException"),(.type "object")],70,"TooGreat",true,[],[],false,none,false⟩),#[(some (r 62)),none,(some (s "TooGreat" 263)),(some (s "TooGreat" 271)),(some (.builtin "Exception.__new__")),(some (.bool true))]⟩),
c 80 #[(s "common_divisor" 287),(s "common_divisor" 288),(u 289),(i 16),(i 2),(i 0),(i 0),(i 3),(r 75),(.bool true),(i 181),(r 76),n,(r 77),(r 78),(r 79),(i 293),(i 16),(u 294)],
f 81 "common_divisor" "common_divisor" (tp 7) n "wholeamounts.terms" 283 80,
c 87 #[(s "lowest" 296),(s "lowest" 297),(u 298),(i 22),(i 2),(i 0),(i 0),(i 3),(r 82),(.bool true),(i 181),(r 83),n,(r 84),(r 85),(r 86),(i 302),(i 22),(u 303)],
f 88 "lowest" "lowest" (tp 8) n "wholeamounts.terms" 283 87,
c 94 #[(s "is_below" 305),(s "is_below" 306),(u 307),(i 25),(i 2),(i 0),(i 0),(i 3),(r 89),(.bool true),(i 181),(r 90),n,(r 91),(r 92),(r 93),(i 310),(i 25),(u 311)],
f 95 "is_below" "is_below" (tp 9) n "wholeamounts.terms" 283 94,
c 101 #[(s "minus" 313),(s "minus" 314),(u 315),(i 27),(i 2),(i 0),(i 0),(i 3),(r 96),(.bool true),(i 181),(r 97),n,(r 98),(r 99),(r 100),(i 318),(i 27),(u 319)],
f 102 "minus" "minus" (tp 10) n "wholeamounts.terms" 283 101,
c 108 #[(s "times" 321),(s "times" 322),(u 323),(i 29),(i 2),(i 0),(i 0),(i 3),(r 103),(.bool true),(i 181),(r 104),n,(r 105),(r 106),(r 107),(i 326),(i 29),(u 327)],
f 109 "times" "times" (tp 11) n "wholeamounts.terms" 283 108,
c 115 #[(s "over" 329),(s "over" 330),(u 331),(i 31),(i 2),(i 0),(i 0),(i 3),(r 110),(.bool true),(i 181),(r 111),n,(r 112),(r 113),(r 114),(i 334),(i 31),(u 335)],
f 116 "over" "over" (tp 12) n "wholeamounts.terms" 283 115,
c 122 #[(s "paired" 337),(s "paired" 338),(u 339),(i 33),(i 1),(i 0),(i 0),(i 3),(r 117),(.bool true),(i 181),(r 118),n,(r 119),(r 120),(r 121),(i 343),(i 33),(u 344)],
f 123 "paired" "paired" (tp 13) n "wholeamounts.terms" 283 122,
c 129 #[(s "refuse_above" 346),(s "refuse_above" 347),(u 348),(i 42),(i 2),(i 0),(i 0),(i 3),(r 124),(.bool true),(i 181),(r 125),n,(r 126),(r 127),(r 128),(i 352),(i 42),(u 353)],
f 130 "refuse_above" "refuse_above" (tp 14) n "wholeamounts.terms" 283 129,
c 134 #[(s "most_row" 357),(s "most_row" 358),(u 359),(i 47),(i 3),(i 0),(i 0),(i 3),(r 131),(.bool true),(i 181),(r 132),n,n,n,(r 133),(i 360),(i 47),(u 361)],
f 135 "most_row" "most_row" (tp 16) n "wholeamounts.amounts" 355 134,
c 141 #[(s "first_least" 363),(s "first_least" 364),(u 365),(i 57),(i 1),(i 0),(i 0),(i 3),(r 136),(.bool true),(i 181),(r 137),n,(r 138),(r 139),(r 140),(i 370),(i 57),(u 371)],
f 142 "first_least" "first_least" (tp 17) n "wholeamounts.amounts" 355 141,
c 148 #[(s "refuse_numbers" 375),(s "refuse_numbers" 376),(u 377),(i 64),(i 2),(i 0),(i 0),(i 3),(r 143),(.bool true),(i 181),(r 144),n,(r 145),(r 146),(r 147),(i 380),(i 64),(u 381)],
f 149 "refuse_numbers" "refuse_numbers" (tp 19) n "wholeamounts.balance" 373 148,
c 162 #[(s "__init__" 415),(s "Reader.__init__" 416),(u 417),(i 79),(i 2),(i 0),(i 0),(i 3),(r 157),(.bool true),(i 181),(r 158),n,(r 159),(r 160),(r 161),(i 420),(i 79),(u 421)],
f 163 "__init__" "Reader.__init__" (tc 30 0) n "wholeamounts.reading" 383 162,
c 169 #[(s "expect_mark" 423),(s "Reader.expect_mark" 424),(u 425),(i 83),(i 2),(i 0),(i 0),(i 3),(r 164),(.bool true),(i 181),(r 165),n,(r 166),(r 167),(r 168),(i 429),(i 83),(u 430)],
f 170 "expect_mark" "Reader.expect_mark" (tc 30 1) n "wholeamounts.reading" 383 169,
c 176 #[(s "take" 432),(s "Reader.take" 433),(u 434),(i 91),(i 2),(i 0),(i 0),(i 3),(r 171),(.bool true),(i 181),(r 172),n,(r 173),(r 174),(r 175),(i 439),(i 91),(u 440)],
f 177 "take" "Reader.take" (tc 30 2) n "wholeamounts.reading" 383 176,
c 183 #[(s "number" 442),(s "Reader.number" 443),(u 444),(i 99),(i 4),(i 0),(i 0),(i 3),(r 178),(.bool true),(i 181),(r 179),n,(r 180),(r 181),(r 182),(i 452),(i 99),(u 453)],
f 184 "number" "Reader.number" (tc 30 3) n "wholeamounts.reading" 383 183,
c 190 #[(s "finish" 455),(s "Reader.finish" 456),(u 457),(i 108),(i 1),(i 0),(i 0),(i 3),(r 185),(.bool true),(i 181),(r 186),n,(r 187),(r 188),(r 189),(i 459),(i 108),(u 460)],
f 191 "finish" "Reader.finish" (tc 30 4) n "wholeamounts.reading" 383 190,
(193,⟨(.type "dict"),none,(.dict #[d P "__module__" 410 (s "wholeamounts.reading" 383),d P "__firstlineno__" 414 (.int 77 413),d P "__init__" 422 (r 163),d P "expect_mark" 431 (r 170),d P "take" 441 (r 177),d P "number" 454 (r 184),d P "finish" 461 (r 191),d P "__static_attributes__" 464 (r 192),d P "__dict__" 466 (r 195),d P "__weakref__" 468 (r 196),d P "__doc__" 469 n] 4),#[]⟩),
(194,⟨(.type "type"),none,(.cls ⟨"Reader",[(.type "object")],[(r 194),(.type "object")],193,"Reader",true,[],[],false,none,false⟩),#[none,none,(some (s "Reader" 403)),(some (s "Reader" 411)),(some (.builtin "object.__new__")),(some (.bool true))]⟩),
c 211 #[(s "__init__" 494),(s "Way.__init__" 495),(u 496),(i 117),(i 4),(i 0),(i 0),(i 3),(r 206),(.bool true),(i 181),(r 207),n,(r 208),(r 209),(r 210),(i 501),(i 117),(u 502)],
f 212 "__init__" "Way.__init__" (tc 35 0) n "wholeamounts.redrawing" 472 211,
(214,⟨(.type "dict"),none,(.dict #[d P "__module__" 489 (s "wholeamounts.redrawing" 472),d P "__firstlineno__" 493 (.int 115 492),d P "__init__" 503 (r 212),d P "__static_attributes__" 507 (r 213),d P "__dict__" 509 (r 216),d P "__weakref__" 511 (r 217),d P "__doc__" 512 n] 4),#[]⟩),
(215,⟨(.type "type"),none,(.cls ⟨"Way",[(.type "object")],[(r 215),(.type "object")],214,"Way",true,[],[],false,none,false⟩),#[none,none,(some (s "Way" 482)),(some (s "Way" 490)),(some (.builtin "object.__new__")),(some (.bool true))]⟩),
c 232 #[(s "__init__" 527),(s "Search.__init__" 528),(u 529),(i 123),(i 3),(i 0),(i 0),(i 3),(r 227),(.bool true),(i 181),(r 228),n,(r 229),(r 230),(r 231),(i 533),(i 123),(u 534)],
f 233 "__init__" "Search.__init__" (tc 36 0) n "wholeamounts.redrawing" 472 232,
c 239 #[(s "reach" 536),(s "Search.reach" 537),(u 538),(i 132),(i 5),(i 0),(i 0),(i 3),(r 234),(.bool true),(i 181),(r 235),n,(r 236),(r 237),(r 238),(i 544),(i 132),(u 545)],
f 240 "reach" "Search.reach" (tc 36 1) n "wholeamounts.redrawing" 472 239,
c 246 #[(s "allow" 547),(s "Search.allow" 548),(u 549),(i 138),(i 3),(i 0),(i 0),(i 3),(r 241),(.bool true),(i 181),(r 242),n,(r 243),(r 244),(r 245),(i 553),(i 138),(u 554)],
f 247 "allow" "Search.allow" (tc 36 2) n "wholeamounts.redrawing" 472 246,
c 253 #[(s "comes_back" 556),(s "Search.comes_back" 557),(u 558),(i 143),(i 1),(i 0),(i 0),(i 3),(r 248),(.bool true),(i 181),(r 249),n,(r 250),(r 251),(r 252),(i 561),(i 143),(u 562)],
f 254 "comes_back" "Search.comes_back" (tc 36 3) n "wholeamounts.redrawing" 472 253,
c 260 #[(s "goes_on" 564),(s "Search.goes_on" 565),(u 566),(i 150),(i 3),(i 0),(i 0),(i 3),(r 255),(.bool true),(i 181),(r 256),n,(r 257),(r 258),(r 259),(i 571),(i 150),(u 572)],
f 261 "goes_on" "Search.goes_on" (tc 36 4) n "wholeamounts.redrawing" 472 260,
c 267 #[(s "closes" 574),(s "Search.closes" 575),(u 576),(i 156),(i 4),(i 0),(i 0),(i 3),(r 262),(.bool true),(i 181),(r 263),n,(r 264),(r 265),(r 266),(i 585),(i 156),(u 586)],
f 268 "closes" "Search.closes" (tc 36 5) n "wholeamounts.redrawing" 472 267,
c 274 #[(s "base_of" 588),(s "Search.base_of" 589),(u 590),(i 173),(i 2),(i 0),(i 0),(i 3),(r 269),(.bool true),(i 181),(r 270),n,(r 271),(r 272),(r 273),(i 593),(i 173),(u 594)],
f 275 "base_of" "Search.base_of" (tc 36 6) n "wholeamounts.redrawing" 472 274,
c 281 #[(s "base_before" 596),(s "Search.base_before" 597),(u 598),(i 179),(i 2),(i 0),(i 0),(i 3),(r 276),(.bool true),(i 181),(r 277),n,(r 278),(r 279),(r 280),(i 601),(i 179),(u 602)],
f 282 "base_before" "Search.base_before" (tc 36 7) n "wholeamounts.redrawing" 472 281,
c 288 #[(s "meeting_of" 604),(s "Search.meeting_of" 605),(u 606),(i 182),(i 3),(i 0),(i 0),(i 3),(r 283),(.bool true),(i 181),(r 284),n,(r 285),(r 286),(r 287),(i 612),(i 182),(u 613)],
f 289 "meeting_of" "Search.meeting_of" (tc 36 8) n "wholeamounts.redrawing" 472 288,
c 295 #[(s "fold" 615),(s "Search.fold" 616),(u 617),(i 193),(i 3),(i 0),(i 0),(i 3),(r 290),(.bool true),(i 181),(r 291),n,(r 292),(r 293),(r 294),(i 622),(i 193),(u 623)],
f 296 "fold" "Search.fold" (tc 36 9) n "wholeamounts.redrawing" 472 295,
c 302 #[(s "allow_both" 625),(s "Search.allow_both" 626),(u 627),(i 200),(i 2),(i 0),(i 0),(i 3),(r 297),(.bool true),(i 181),(r 298),n,(r 299),(r 300),(r 301),(i 630),(i 200),(u 631)],
f 303 "allow_both" "Search.allow_both" (tc 36 10) n "wholeamounts.redrawing" 472 302,
(305,⟨(.type "dict"),none,(.dict #[d P "__module__" 522 (s "wholeamounts.redrawing" 472),d P "__firstlineno__" 526 (.int 121 525),d P "__init__" 535 (r 233),d P "reach" 546 (r 240),d P "allow" 555 (r 247),d P "comes_back" 563 (r 254),d P "goes_on" 573 (r 261),d P "closes" 587 (r 268),d P "base_of" 595 (r 275),d P "base_before" 603 (r 282),d P "meeting_of" 614 (r 289),d P "fold" 624 (r 296),d P "allow_both" 632 (r 303),d P "__static_attributes__" 640 (r 304),d P "__dict__" 642 (r 307),d P "__weakref__" 644 (r 308),d P "__doc__" 645 n] 4),#[]⟩),
(306,⟨(.type "type"),none,(.cls ⟨"Search",[(.type "object")],[(r 306),(.type "object")],305,"Search",true,[],[],false,none,false⟩),#[none,none,(some (s "Search" 515)),(some (s "Search" 523)),(some (.builtin "object.__new__")),(some (.bool true))]⟩),
c 314 #[(s "ways_at" 648),(s "ways_at" 649),(u 650),(i 203),(i 2),(i 0),(i 0),(i 3),(r 311),(.bool true),(i 181),(r 312),n,n,n,(r 313),(i 651),(i 203),(u 652)],
f 315 "ways_at" "ways_at" (tp 37) n "wholeamounts.redrawing" 472 314,
c 321 #[(s "is_fixed_double" 654),(s "is_fixed_double" 655),(u 656),(i 209),(i 3),(i 0),(i 0),(i 3),(r 316),(.bool true),(i 181),(r 317),n,(r 318),(r 319),(r 320),(i 660),(i 209),(u 661)],
f 322 "is_fixed_double" "is_fixed_double" (tp 38) n "wholeamounts.redrawing" 472 321,
c 328 #[(s "can_go" 663),(s "can_go" 664),(u 665),(i 211),(i 4),(i 0),(i 0),(i 3),(r 323),(.bool true),(i 181),(r 324),n,(r 325),(r 326),(r 327),(i 671),(i 211),(u 672)],
f 329 "can_go" "can_go" (tp 39) n "wholeamounts.redrawing" 472 328,
t 330 #[(.int 70 676),(.int 75 677),(.int 77 678),(.int 49 679)],
t 331 #[(.int 0 701),(.int 0 702)],
c 344 #[(s "__init__" 716),(s "Atom.__init__" 717),(u 718),(i 231),(i 6),(i 0),(i 0),(i 3),(r 339),(.bool true),(i 181),(r 340),n,(r 341),(r 342),(r 343),(i 725),(i 231),(u 726)],
f 345 "__init__" "Atom.__init__" (tc 53 0) n "wholeamounts.molecules" 674 344,
(347,⟨(.type "dict"),none,(.dict #[d P "__module__" 711 (s "wholeamounts.molecules" 674),d P "__firstlineno__" 715 (.int 229 714),d P "__init__" 727 (r 345),d P "__static_attributes__" 733 (r 346),d P "__dict__" 735 (r 349),d P "__weakref__" 737 (r 350),d P "__doc__" 738 n] 4),#[]⟩),
(348,⟨(.type "type"),none,(.cls ⟨"Atom",[(.type "object")],[(r 348),(.type "object")],347,"Atom",true,[],[],false,none,false⟩),#[none,none,(some (s "Atom" 704)),(some (s "Atom" 712)),(some (.builtin "object.__new__")),(some (.bool true))]⟩),
c 365 #[(s "__init__" 753),(s "Bond.__init__" 754),(u 755),(i 239),(i 5),(i 0),(i 0),(i 3),(r 360),(.bool true),(i 181),(r 361),n,(r 362),(r 363),(r 364),(i 761),(i 239),(u 762)],
f 366 "__init__" "Bond.__init__" (tc 54 0) n "wholeamounts.molecules" 674 365,
(368,⟨(.type "dict"),none,(.dict #[d P "__module__" 748 (s "wholeamounts.molecules" 674),d P "__firstlineno__" 752 (.int 237 751),d P "__init__" 763 (r 366),d P "__static_attributes__" 768 (r 367),d P "__dict__" 770 (r 370),d P "__weakref__" 772 (r 371),d P "__doc__" 773 n] 4),#[]⟩),
(369,⟨(.type "type"),none,(.cls ⟨"Bond",[(.type "object")],[(r 369),(.type "object")],368,"Bond",true,[],[],false,none,false⟩),#[none,none,(some (s "Bond" 741)),(some (s "Bond" 749)),(some (.builtin "object.__new__")),(some (.bool true))]⟩),
c 386 #[(s "__init__" 788),(s "Molecule.__init__" 789),(u 790),(i 246),(i 3),(i 0),(i 0),(i 3),(r 381),(.bool true),(i 181),(r 382),n,(r 383),(r 384),(r 385),(i 794),(i 246),(u 795)],
f 387 "__init__" "Molecule.__init__" (tc 55 0) n "wholeamounts.molecules" 674 386,
(389,⟨(.type "dict"),none,(.dict #[d P "__module__" 783 (s "wholeamounts.molecules" 674),d P "__firstlineno__" 787 (.int 244 786),d P "__init__" 796 (r 387),d P "__static_attributes__" 799 (r 388),d P "__dict__" 801 (r 391),d P "__weakref__" 803 (r 392),d P "__doc__" 804 n] 4),#[]⟩),
(390,⟨(.type "type"),none,(.cls ⟨"Molecule",[(.type "object")],[(r 390),(.type "object")],389,"Molecule",true,[],[],false,none,false⟩),#[none,none,(some (s "Molecule" 776)),(some (s "Molecule" 784)),(some (.builtin "object.__new__")),(some (.bool true))]⟩),
c 400 #[(s "read_molecule" 807),(s "read_molecule" 808),(u 809),(i 249),(i 1),(i 0),(i 0),(i 3),(r 395),(.bool true),(i 181),(r 396),n,(r 397),(r 398),(r 399),(i 813),(i 249),(u 814)],
f 401 "read_molecule" "read_molecule" (tp 56) n "wholeamounts.molecules" 674 400,
c 405 #[(s "read_parts" 816),(s "read_parts" 817),(u 818),(i 255),(i 1),(i 0),(i 0),(i 3),(r 402),(.bool true),(i 181),(r 403),n,n,n,(r 404),(i 819),(i 255),(u 820)],
f 406 "read_parts" "read_parts" (tp 57) n "wholeamounts.molecules" 674 405,
c 412 #[(s "read_atom" 822),(s "read_atom" 823),(u 824),(i 269),(i 1),(i 0),(i 0),(i 3),(r 407),(.bool true),(i 181),(r 408),n,(r 409),(r 410),(r 411),(i 831),(i 269),(u 832)],
f 413 "read_atom" "read_atom" (tp 58) n "wholeamounts.molecules" 674 412,
c 419 #[(s "read_bond" 834),(s "read_bond" 835),(u 836),(i 276),(i 3),(i 0),(i 0),(i 3),(r 414),(.bool true),(i 181),(r 415),n,(r 416),(r 417),(r 418),(i 845),(i 276),(u 846)],
f 420 "read_bond" "read_bond" (tp 59) n "wholeamounts.molecules" 674 419,
c 424 #[(s "neighbour_counts" 848),(s "neighbour_counts" 849),(u 850),(i 285),(i 1),(i 0),(i 0),(i 3),(r 421),(.bool true),(i 181),(r 422),n,n,n,(r 423),(i 851),(i 285),(u 852)],
f 425 "neighbour_counts" "neighbour_counts" (tp 60) n "wholeamounts.molecules" 674 424,
c 431 #[(s "refuse_wrong_hands" 854),(s "refuse_wrong_hands" 855),(u 856),(i 291),(i 2),(i 0),(i 0),(i 3),(r 426),(.bool true),(i 181),(r 427),n,(r 428),(r 429),(r 430),(i 861),(i 291),(u 862)],
f 432 "refuse_wrong_hands" "refuse_wrong_hands" (tp 61) n "wholeamounts.molecules" 674 431,
c 438 #[(s "may_have_hand" 864),(s "may_have_hand" 865),(u 866),(i 295),(i 2),(i 0),(i 0),(i 3),(r 433),(.bool true),(i 181),(r 434),n,(r 435),(r 436),(r 437),(i 869),(i 295),(u 870)],
f 439 "may_have_hand" "may_have_hand" (tp 62) n "wholeamounts.molecules" 674 438,
c 445 #[(s "refuse_wrong_sides" 872),(s "refuse_wrong_sides" 873),(u 874),(i 297),(i 2),(i 0),(i 0),(i 3),(r 440),(.bool true),(i 181),(r 441),n,(r 442),(r 443),(r 444),(i 881),(i 297),(u 882)],
f 446 "refuse_wrong_sides" "refuse_wrong_sides" (tp 63) n "wholeamounts.molecules" 674 445,
c 452 #[(s "may_have_side" 884),(s "may_have_side" 885),(u 886),(i 303),(i 4),(i 0),(i 0),(i 3),(r 447),(.bool true),(i 181),(r 448),n,(r 449),(r 450),(r 451),(i 893),(i 303),(u 894)],
f 453 "may_have_side" "may_have_side" (tp 64) n "wholeamounts.molecules" 674 452,
c 459 #[(s "may_end_a_side" 896),(s "may_end_a_side" 897),(u 898),(i 311),(i 2),(i 0),(i 0),(i 3),(r 454),(.bool true),(i 181),(r 455),n,(r 456),(r 457),(r 458),(i 901),(i 311),(u 902)],
f 460 "may_end_a_side" "may_end_a_side" (tp 65) n "wholeamounts.molecules" 674 459,
t 461 #[(.int 70 906),(.int 75 907),(.int 81 908),(.int 49 909)],
c 474 #[(s "__init__" 929),(s "Equation.__init__" 930),(u 931),(i 320),(i 3),(i 0),(i 0),(i 3),(r 469),(.bool true),(i 181),(r 470),n,(r 471),(r 472),(r 473),(i 935),(i 320),(u 936)],
f 475 "__init__" "Equation.__init__" (tc 71 0) n "wholeamounts.equations" 904 474,
(477,⟨(.type "dict"),none,(.dict #[d P "__module__" 924 (s "wholeamounts.equations" 904),d P "__firstlineno__" 928 (.int 318 927),d P "__init__" 937 (r 475),d P "__static_attributes__" 940 (r 476),d P "__dict__" 942 (r 479),d P "__weakref__" 944 (r 480),d P "__doc__" 945 n] 4),#[]⟩),
(478,⟨(.type "type"),none,(.cls ⟨"Equation",[(.type "object")],[(r 478),(.type "object")],477,"Equation",true,[],[],false,none,false⟩),#[none,none,(some (s "Equation" 917)),(some (s "Equation" 925)),(some (.builtin "object.__new__")),(some (.bool true))]⟩),
c 486 #[(s "read_equation" 948),(s "read_equation" 949),(u 950),(i 323),(i 1),(i 0),(i 0),(i 3),(r 483),(.bool true),(i 181),(r 484),n,n,n,(r 485),(i 951),(i 323),(u 952)],
f 487 "read_equation" "read_equation" (tp 72) n "wholeamounts.equations" 904 486,
c 493 #[(s "read_member" 954),(s "read_member" 955),(u 956),(i 332),(i 1),(i 0),(i 0),(i 3),(r 488),(.bool true),(i 181),(r 489),n,(r 490),(r 491),(r 492),(i 962),(i 332),(u 963)],
f 494 "read_member" "read_member" (tp 73) n "wholeamounts.equations" 904 493,
c 500 #[(s "most" 981),(s "most" 982),(u 983),(i 346),(i 3),(i 0),(i 0),(i 3),(r 495),(.bool true),(i 181),(r 496),n,(r 497),(r 498),(r 499),(i 990),(i 346),(u 991)],
f 501 "most" "most" (tp 80) n "wholeamounts.desk" 965 500,
c 507 #[(s "tell_most" 993),(s "tell_most" 994),(u 995),(i 348),(i 3),(i 0),(i 0),(i 3),(r 502),(.bool true),(i 181),(r 503),n,(r 504),(r 505),(r 506),(i 1000),(i 348),(u 1001)],
f 508 "tell_most" "tell_most" (tp 81) n "wholeamounts.desk" 965 507,
c 514 #[(s "answer" 1003),(s "answer" 1004),(u 1005),(i 352),(i 1),(i 0),(i 0),(i 3),(r 509),(.bool true),(i 181),(r 510),n,(r 511),(r 512),(r 513),(i 1008),(i 352),(u 1009)],
f 515 "answer" "answer" (tp 82) n "wholeamounts.desk" 965 514,
c 521 #[(s "row" 1011),(s "row" 1012),(u 1013),(i 363),(i 1),(i 0),(i 0),(i 3),(r 516),(.bool true),(i 181),(r 517),n,(r 518),(r 519),(r 520),(i 1015),(i 363),(u 1016)],
f 522 "row" "row" (tp 83) n "wholeamounts.desk" 965 521,
c 528 #[(s "fraction_row" 1018),(s "fraction_row" 1019),(u 1020),(i 365),(i 1),(i 0),(i 0),(i 3),(r 523),(.bool true),(i 181),(r 524),n,(r 525),(r 526),(r 527),(i 1024),(i 365),(u 1025)],
f 529 "fraction_row" "fraction_row" (tp 84) n "wholeamounts.desk" 965 528]
end HD
namespace BK
open PySem PySem.Spec PyProof.Rows
open HD (KF)
def aK:List Addr:=[3,22,28,29,31,32,44,45,57,58,70,71,80,81,87,88,94,95,101,102,108,109,115,116,122,123,129,130,134,135,141,142,148,149,162,163,169,170,176,177,183,184,190,191,193,194,211,212,214,215,232,233,239,240,246,247,253,254,260,261,267,268,274,275,281,282,288,289,295,296,302,303,305,306,314,315,321,322,328,329,330,331,344,345,347,348,365,366,368,369,386,387,389,390,400,401,405,406,412,413,419,420,424,425,431,432,438,439,445,446,452,453,459,460,461,474,475,477,478,486,487,493,494,500,501,507,508,514,515,521,522,528,529]
theorem aK_eq:∀ P,aK=(KF P).map (·.1):=fun _=>by kernel_rfl
abbrev lO:List Str:=["Fault"]
noncomputable abbrev HK:PySem.W.Hook:=PySem.W.kHook KF aK aK_eq
noncomputable abbrev XT:Shared→Bool:=fun s=>PySem.W.xlAt qV [] s&&PySem.W.recOk [] s
theorem leftA:∀ w:World,(HT.endsT PySem.Challenge.pw_wholeamounts_s10_most w 8642).map (fun x=>(HT.chkT PySem.Challenge.pw_wholeamounts_s10_most x,aK.map (HT.getT x.2)))=some (true,(KF w.params).map fun p=>some p.2):=fun w=>by kernel_rfl
theorem leftB:∀ w:World,(HT.endsT PySem.Challenge.pw_wholeamounts_s10_most w 8642).map (fun x=>HT.seen1 qV lO (importedModules PySem.Challenge.pw_wholeamounts_s10_most.main.body) XT x.2.abs)=some ((PySem.W.openGood qV lO).1):=fun w=>by kernel_rfl
theorem leftD:∀ w:World,(HT.endsT PySem.Challenge.pw_wholeamounts_s10_most w 8642).map (fun x=>HT.seen2 qV lO (importedModules PySem.Challenge.pw_wholeamounts_s10_most.main.body) XT x.2.abs)=some ((PySem.W.openGood qV lO).2.1,true):=fun w=>by kernel_rfl
theorem leftG:∀ w:World,(HT.endsT PySem.Challenge.pw_wholeamounts_s10_most w 8642).map (fun x=>HT.seen5 qV lO (importedModules PySem.Challenge.pw_wholeamounts_s10_most.main.body) XT x.2.abs)=some (true):=fun w=>by kernel_rfl
theorem leftE:∀ w:World,(HT.endsT PySem.Challenge.pw_wholeamounts_s10_most w 8642).map (fun x=>HT.seen3 qV lO (importedModules PySem.Challenge.pw_wholeamounts_s10_most.main.body) XT x.2.abs)=some ((PySem.W.openGood qV lO).2.2.2.2.1,(PySem.W.openGood qV lO).2.2.2.2.2.1):=fun w=>by kernel_rfl
theorem leftF:∀ w:World,(HT.endsT PySem.Challenge.pw_wholeamounts_s10_most w 8642).map (fun x=>HT.seen4 qV lO (importedModules PySem.Challenge.pw_wholeamounts_s10_most.main.body) XT x.2.abs)=some ((PySem.W.openGood qV lO).2.2.2.2.2.2):=fun w=>by kernel_rfl
theorem left:PySem.W.LeftO PySem.Challenge.pw_wholeamounts_s10_most qV lO XT HK.obs HK.val 8642:=HT.left_of leftA leftB leftD leftG leftE leftF
end BK
end
section
namespace L2
open PySem PySem.Spec PyProof.Rows
abbrev Key:=Sum Int Str
def keyIs:Key→Value→Bool
 |.inl k,v=>Value.isInt k v
 |.inr x,v=>Value.isStrOf x v
def keyH(w:World):Key→Int
 |.inl k=>hashInt k
 |.inr x=>hashStr w x
theorem Z3d:∀ {k:Key}{v:Value},keyIs k v=true→(∃ i t,k=Sum.inl i∧v=Value.int i t)∨(∃ x t,k=Sum.inr x∧v=Value.str x t)
 |.inl i,v,h=>by
  obtain⟨t,e⟩:=Value.isInt_shape (k:=i) (v:=v) h
  exact .inl ⟨i,t,rfl,e⟩
 |.inr x,v,h=>by
  obtain⟨t,e⟩:=Value.isStrOf_shape (x:=x) (v:=v) h
  exact .inr ⟨x,t,rfl,e⟩
theorem ZaM(i:Int)(t:Tok):keyIs (.inl i) (.int i t)=true:=by simp [keyIs,Value.isInt]
theorem Zbd(x:Str)(t:Tok):keyIs (.inr x) (.str x t)=true:=by simp [keyIs,Value.isStrOf]
theorem key_ll(a b:Int):decide ((Sum.inl a:Key)=Sum.inl b)=(a==b):=by
 by_cases e:a=b
 ·subst e;simp
 ·have h:¬ (Sum.inl a:Key)=Sum.inl b:=fun q=>e (Sum.inl.inj q)
  rw [decide_eq_false h]
  exact(beq_eq_false_iff_ne.mpr e).symm
theorem key_rr(a b:Str):decide ((Sum.inr a:Key)=Sum.inr b)=decide (a=b):=by
 by_cases e:a=b
 ·subst e;simp
 ·have h:¬ (Sum.inr a:Key)=Sum.inr b:=fun q=>e (Sum.inr.inj q)
  rw [decide_eq_false h,decide_eq_false e]
theorem key_lr(a:Int)(b:Str):decide ((Sum.inl a:Key)=Sum.inr b)=false:=decide_eq_false (fun q=>nomatch q)
theorem key_rl(a:Str)(b:Int):decide ((Sum.inr a:Key)=Sum.inl b)=false:=decide_eq_false (fun q=>nomatch q)
def Z2V(prog:Program)(w:World):PySem.KeyKind prog w Key where
 is:=keyIs
 hash:=keyH w
 inj:=fun v a b ha hb=>by
  rcases Z3d ha with⟨i,t,rfl,rfl⟩ |⟨x,t,rfl,rfl⟩
  ·rcases Z3d hb with⟨j,u,rfl,e⟩ |⟨y,u,rfl,e⟩
   ·injection e with e1 _;rw [e1]
   ·exact nomatch e
  ·rcases Z3d hb with⟨j,u,rfl,e⟩ |⟨y,u,rfl,e⟩
   ·exact nomatch e
   ·injection e with e1 _;rw [e1]
 byValue:=fun k v h=>by
  rcases Z3d h with⟨i,t,rfl,rfl⟩ |⟨x,t,rfl,rfl⟩<;>rfl
 pyHash:=fun hv h=>by
  rcases Z3d hv with⟨i,t,rfl,rfl⟩ |⟨x,t,rfl,rfl⟩
  ·exact wpAny_pyHash_int h
  ·exact wpAny_pyHash_str h
 eqBool:=fun hu hv h=>by
  rcases Z3d hu with⟨i,t,rfl,rfl⟩ |⟨x,t,rfl,rfl⟩
  ·rcases Z3d hv with⟨j,u,rfl,rfl⟩ |⟨y,u,rfl,rfl⟩
   ·rw [key_ll]at h;exact wpAny_eqBool_int h
   ·rw [key_lr]at h;exact SeqAt.EqAt.int_str i t y u _ _ _ _ h
  ·rcases Z3d hv with⟨j,u,rfl,rfl⟩ |⟨y,u,rfl,rfl⟩
   ·rw [key_rl]at h;exact SeqAt.EqAt.str_int x t j u _ _ _ _ h
   ·rw [key_rr]at h;exact wpAny_eqBool_str h
 «strs»:=fun k x t v h=>by
  rcases Z3d h with⟨i,u,rfl,e⟩ |⟨y,u,rfl,e⟩
  ·exact nomatch e
  ·injection e with e1 _
   subst e1
   cases v<;>rfl
theorem Z9D(prog:Program)(w:World)(i:Int)(t:Tok):(Z2V prog w).is (.inl i) (.int i t)=true:=ZaM i t
theorem Z9I(prog:Program)(w:World)(x:Str)(t:Tok):(Z2V prog w).is (.inr x) (.str x t)=true:=Zbd x t
end L2
namespace L2
open PySem PySem.Spec PyProof.Rows
inductive V where
 |non |bl (b:Bool) |int (i:Int) |str (x:Str) |byt (b:Array UInt8) |flt (b:UInt64) |ref (a:Addr) |ty (n:String)
 deriving DecidableEq
def RelV:V→Value→Prop
 |.non,u=>u=Value.none
 |.bl b,u=>u=Value.bool b
 |.int i,u=>∃ t,u=Value.int i t
 |.str x,u=>∃ t,u=Value.str x t
 |.byt b,u=>∃ t,u=Value.bytes b t
 |.flt b,u=>∃ t,u=Value.float b t
 |.ref a,u=>u=Value.ref a
 |.ty n,u=>u=Value.type n
abbrev Vals:List V→List Value→Prop:=Paired RelV
theorem Vals.length{xs:List V}{us:List Value}(r:Vals xs us):xs.length=us.length:=Paired.length r
theorem Vals.get:∀ {xs:List V}{us:List Value}{i:Nat}{x:V},Vals xs us→xs[i]?=some x→∃ u,us[i]?=some u∧RelV x u
 |_,_,_,_,.nil,e=>by simp at e
 |_,_,0,_,.cons r _,e=>by simp at e;subst e;exact⟨_,rfl,r⟩
 |_,_,i+1,x,.cons _ t,e=>by
  obtain⟨u,h1,h2⟩:=Vals.get (i:=i) (x:=x) t (by simpa using e)
  exact⟨u,by simpa using h1,h2⟩
theorem Vals.set{x:V}{u:Value}(r:RelV x u):∀ {xs:List V}{us:List Value}(i:Nat),Vals xs us→Vals (xs.set i x) (us.set i u)
 |_,_,_,.nil=>.nil
 |_,_,0,.cons _ t=>.cons r t
 |_,_,i+1,.cons q t=>.cons q (Vals.set r i t)
theorem Vals.append:∀ {xs ys:List V}{us ws:List Value},Vals xs us→Vals ys ws→Vals (xs++ys) (us++ws)
 |_,_,_,_,.nil,s=>s
 |_,_,_,_,.cons r t,s=>.cons r (Vals.append t s)
theorem Vals.take:∀ {xs:List V}{us:List Value}(n:Nat),Vals xs us→Vals (xs.take n) (us.take n)
 |_,_,0,_=>.nil
 |_,_,_+1,.nil=>.nil
 |_,_,n+1,.cons r t=>.cons r (Vals.take n t)
theorem Vals.drop:∀ {xs:List V}{us:List Value}(n:Nat),Vals xs us→Vals (xs.drop n) (us.drop n)
 |_,_,0,r=>r
 |_,_,_+1,.nil=>.nil
 |_,_,n+1,.cons _ t=>Vals.drop n t
def RelO:Option V→Option Value→Prop
 |some v,some u=>RelV v u
 |none,none=>True
 |_,_=>False
def KV{κ:Type}:List (κ×V)→List (κ×Value)→Prop:=Paired fun(p:κ×V)(q:κ×Value)=>p.1=q.1∧RelV p.2 q.2
def kV:Key→V
 |.inl i=>.int i
 |.inr x=>.str x
inductive HO where
 |lst (xs:List V)
 |tup (xs:List V)
 |dK (kvs:List (Key×V)) |dT (kvs:List (List Key×V))
 |set (S:Int→Bool)(n:Nat)
 |ins (C dx:Addr)(fs:List (Str×V))
 |own (x:Addr)
 |xd (fs:List (Str×V))
 |met (f x:Addr)
 |rng (lo hi:Int)
 |frz (o:Obj)(u:HO)
 |tbl (ps:Array Value)
 |ext (φ:Heap→Prop)
abbrev Hp:=Addr→Option HO
def upd(H:Hp)(a:Addr)(o:HO):Hp:=fun b=>if b=a then some o else H b
theorem Z2n{H:Hp}{a:Addr}{o:HO}:upd H a o a=some o:=by unfold upd;rw [if_pos rfl]
theorem Z2m{H:Hp}{a b:Addr}{o:HO}(h:b≠a):upd H a o b=H b:=by unfold upd;rw [if_neg h]
theorem Z3a{H:Hp}{a:Addr}{o u:HO}:upd (upd H a o) a u=upd H a u:=by
 funext b;unfold upd;split<;>rfl
theorem ne_of{H:Hp}{a b:Addr}{o u:HO}(h:H a=some o)(h':H b=some u)(d:o≠u):a≠b:=by
 intro e;subst e;rw [h]at h';exact d (Option.some.inj h')
theorem Z2p{H:Hp}{a b:Addr}{o:HO}(h:H a=some o)(h':H b=none):a≠b:=by
 intro e;subst e;rw [h]at h';cases h'
section
variable(P:Program)(w:World)
def ObjOk(H:Hp)(h:Heap)(a:Addr):HO→Prop
 |.lst xs=>xs.length≤sizeLine∧∃ (its:List Value)(n:Nat),Vals xs its∧h.get? a=some { cls:=.type "list",data:=.seq its.toArray n }
 |.tup xs=>xs.length≤sizeLine∧∃ its:List Value,Vals xs its∧IsTup h a its.toArray
 |.dK kvs=>kvs.length≤sizeLine∧(a==sysModules)=false∧∃ vs,KV kvs vs∧h.DictOf (Z2V P w) a vs
 |.dT kvs=>kvs.length≤sizeLine∧(a==sysModules)=false∧∃ xs:List (List Key×Addr×Value),
   Paired (fun(p:List Key×V)(q:List Key×Addr×Value)=>p.1=q.1∧H q.2.1=some (.tup (p.1.map kV))∧RelV p.2 q.2.2) kvs xs ∧
   ∃ o es ep,h.get? a=some o∧o.ExactDict∧o.data=.dict es ep∧es.toList=xs.map (entryOfKey (tupleKind (Z2V P w)))∧(xs.map (·.1)).Nodup
 |.set S n=>h.SetOf (intKind P w) a S n
 |.ins C dx fs=>H dx=some (.own a)∧fs.length≤1000∧dx≠a∧h.get? a=some (PySem.W.instObj C dx) ∧
   ∃ mA,h.Ns1 dx mA∧(∀ f,RelO (fs.lookup f) (mA f))∧PySem.Within mA (fs.map (·.1))
 |.own _=>∃ o,h.get? a=some o
 |.xd fs=>∃ mA,h.Ns1 a mA∧∀ f,RelO (fs.lookup f) (mA f)
 |.rng lo hi=>∃ t u v,h.get? a=some { cls:=.type "range",data:=.fields #[.int lo t,.int hi u,.int 1 v] }
 |.frz o u=>h.get? a=some o∧ObjOk H h a u
 |.tbl ps=>h.get? a=some { cls:=.none,data:=.fields ps }
 |.met f x=>h.get? a=some (PySem.W.methodObj (.ref f) (.ref x))
 |.ext φ=>φ h∧(∃ o,h.get? a=some o)∧∀ h1 h2:Heap,φ h1→(∀ o,h1.get? a=some o→h2.get? a=some o)→φ h2
def HOk(H:Hp)(h:Heap):Prop:=∀ a o,H a=some o→ObjOk P w H h a o
end
section
variable{P:Program}{w:World}{H H':Hp}{h h':Heap}{a:Addr}{o:HO}
theorem ObjOk.lt(x:ObjOk P w H h a o):a<h.objs.size:=by
 cases o with
 |lst xs=>obtain⟨_,_,_,_,e⟩:=x;exact Z0f e
 |tup xs=>obtain⟨_,_,_,p⟩:=x;exact p.lt
 |dK kvs=>obtain⟨_,_,_,_,o,_,_,e,_⟩:=x;exact Z0f e
 |dT kvs=>obtain⟨_,_,_,_,o,_,_,e,_⟩:=x;exact Z0f e
 |set S n=>obtain⟨o,_,_,_,e,_⟩:=x;exact Z0f e
 |ins C dx fs=>obtain⟨_,_,_,e,_⟩:=x;exact Z0f e
 |own y=>obtain⟨_,e⟩:=x;exact Z0f e
 |xd fs=>obtain⟨_,⟨_,_,_,e,_⟩,_⟩:=x;exact Z0f e
 |rng lo hi=>obtain⟨_,_,_,e⟩:=x;exact Z0f e
 |frz ob u=>obtain⟨e,_⟩:=x;exact Z0f e
 |tbl ps=>exact Z0f (show h.get? a=some _ from x)
 |met f y=>exact Z0f (show h.get? a=some _ from x)
 |ext φ=>obtain⟨_,⟨_,e⟩,_⟩:=x;exact Z0f e
theorem Paired.mapP{α β:Type}{F G:α→β→Prop}:∀ {l₁:List α}{l₂:List β},Paired F l₁ l₂→(∀ a b,F a b→G a b)→Paired G l₁ l₂
 |_,_,.nil,_=>.nil
 |_,_,.cons r t,f=>.cons (f _ _ r) (Paired.mapP t f)
theorem ObjOk.stay(x:ObjOk P w H h a o)(k:∀ b u,(b=a∨H b=some (.own a))→h.get? b=some u→h'.get? b=some u)
  (ho:∀ b,H b=some (.own a)→H' b=some (.own a))(ht:∀ b xs,H b=some (.tup xs)→H' b=some (.tup xs)):ObjOk P w H' h' a o:=by
 induction o with
 |lst xs=>obtain⟨z,its,n,r,e⟩:=x;exact⟨z,its,n,r,k _ _ (.inl rfl) e⟩
 |tup xs=>obtain⟨z,its,r,ob,e,c⟩:=x;exact⟨z,its,r,ob,k _ _ (.inl rfl) e,c⟩
 |dK kvs=>obtain⟨z,y,vs,r,ob,es,ep,e,c⟩:=x;exact⟨z,y,vs,r,ob,es,ep,k _ _ (.inl rfl) e,c⟩
 |dT kvs =>
  obtain⟨z,y,xs,r,ob,es,ep,e,c⟩:=x
  exact⟨z,y,xs,Paired.mapP r fun p q z=>⟨z.1,ht _ _ z.2.1,z.2.2⟩,ob,es,ep,k _ _ (.inl rfl) e,c⟩
 |set S n=>obtain⟨ob,es,ep,t,e,c⟩:=x;exact⟨ob,es,ep,t,k _ _ (.inl rfl) e,c⟩
 |ins C dx fs =>
  obtain⟨d,z,ne,e,mA,⟨od,es,ep,e2,c⟩,r⟩:=x
  exact⟨ho _ d,z,ne,k _ _ (.inl rfl) e,mA,⟨od,es,ep,k _ _ (.inr d) e2,c⟩,r⟩
 |own y=>obtain⟨ob,e⟩:=x;exact⟨ob,k _ _ (.inl rfl) e⟩
 |xd fs=>obtain⟨mA,⟨od,es,ep,e,c⟩,r⟩:=x;exact⟨mA,⟨od,es,ep,k _ _ (.inl rfl) e,c⟩,r⟩
 |rng lo hi=>obtain⟨t,u,v,e⟩:=x;exact⟨t,u,v,k _ _ (.inl rfl) e⟩
 |frz ob u ih=>obtain⟨e,q⟩:=x;exact⟨k _ _ (.inl rfl) e,ih q⟩
 |tbl ps =>
  have e:h.get? a=some { cls:=.none,data:=.fields ps }:=x
  show h'.get? a=some { cls:=.none,data:=.fields ps }
  exact k a _ (.inl rfl) e
 |met f y =>
  have e:h.get? a=some (PySem.W.methodObj (.ref f) (.ref y)):=x
  show h'.get? a=some (PySem.W.methodObj (.ref f) (.ref y))
  exact k a _ (.inl rfl) e
 |ext φ=>obtain⟨p,⟨o,e⟩,st⟩:=x;exact⟨st _ _ p fun o q=>k _ _ (.inl rfl) q,⟨o,k _ _ (.inl rfl) e⟩,st⟩
theorem HOk.lt(x:HOk P w H h)(e:H a=some o):a<h.objs.size:=(x a o e).lt
theorem HOk.fresh(x:HOk P w H h)(e:h.objs.size≤a):H a=none:=by
 cases q:H a with
 |none=>rfl
 |some u=>exact absurd (Z0w (x.lt q) e) (Z0v _)
theorem HOk.kept(x:HOk P w H h)(k:∀ b u,h.get? b=some u→h'.get? b=some u):HOk P w H h':=fun a o e =>
 (x a o e).stay (fun b u _ q=>k b u q) (fun _ q=>q) fun _ _ q=>q
theorem HOk.laid(x:HOk P w H h)(k:∀ b u,h.get? b=some u→h'.get? b=some u)(hp:h.objs.size≤a)(new:ObjOk P w (upd H a o) h' a o):HOk P w (upd H a o) h':=fun b u e=>by
 have hn:=x.fresh hp
 by_cases hb:b=a
 ·subst hb;rw [Z2n]at e;cases e;exact new
 ·rw [Z2m hb]at e
  exact(x b u e).stay (fun c v _ q=>k c v q) (fun c q=>by rw [Z2m (Z2p q hn)];exact q) fun c xs q=>by rw [Z2m (Z2p q hn)];exact q
end
def Rd(H:Hp)(a:Addr)(u:HO):Prop:=H a=some u∨∃ o,H a=some (.frz o u)
theorem Rd.ok{P:Program}{w:World}{H:Hp}{h:Heap}{a:Addr}{u:HO}(r:Rd H a u)(x:HOk P w H h):ObjOk P w H h a u:=by
 rcases r with r |⟨o,r⟩
 ·exact x a u r
 ·obtain⟨_,q⟩:=x a _ r
  exact q
def Mut:Option HO→Prop
 |some (.lst _)=>True
 |some (.dK _)=>True
 |some (.dT _)=>True
 |some (.set _ _)=>True
 |some (.ins _ _ _)=>True
 |some (.ext _)=>True
 |_=>False
section
variable{P:Program}{w:World}{H:Hp}{h h':Heap}{x e:Addr}{o':HO}
theorem HOk.write(ok:HOk P w H h)(mu:Mut (H x))(he:e=x∨H e=some (.own x))(k:∀ b u,b≠e→h.get? b=some u→h'.get? b=some u)(heo:∃ u,h'.get? e=some u)
  (new:ObjOk P w (upd H x o') h' x o'):HOk P w (upd H x o') h':=fun b u q=>by
 have nown:∀ c y,H c=some (.own y)→c≠x:=fun c y r z=>by subst z;rw [r]at mu;exact mu
 have ntup:∀ c xs,H c=some (.tup xs)→c≠x:=fun c xs r z=>by subst z;rw [r]at mu;exact mu
 by_cases hb:b=x
 ·subst hb;rw [Z2n]at q;cases q;exact new
 ·rw [Z2m hb]at q
  by_cases hbe:b=e
  ·have q':H b=some (.own x):=by
    rcases he with z |z
    ·exact absurd (hbe.trans z) hb
    ·rw [hbe];exact z
   rw [q]at q';cases q'
   obtain⟨v,hv⟩:=heo
   exact⟨v,by rw [hbe];exact hv⟩
  ·refine(ok b u q).stay (fun c v hc r=>k c v ?_ r) (fun c r=>by rw [Z2m (nown c b r)];exact r) fun c xs r=>by rw [Z2m (ntup c xs r)];exact r
   rcases hc with rfl |hc
   ·exact hbe
   ·rintro rfl
    rcases he with z |z
    ·exact nown c b hc z
    ·rw [hc]at z;cases z;exact hb rfl
end
structure Un(fs ex:List Addr)(H H':Hp)(h h':Heap):Prop where
 keep:∀ b o,h.get? b=some o→H b=none→b∉fs→b∉ex→h'.get? b=some o
 slot:∀ b o,h.get? b=some o→H b=none→b∈fs→b∉ex→∃ sl,h'.get? b=some { o with slots:=sl }
 free:∀ b o,h.get? b=some o→H b=none→b∉ex→H' b=none
 there:∀ b o,h.get? b=some o→b∉ex→∃ o',h'.get? b=some o'
 tups:∀ b xs,H b=some (.tup xs)→H' b=some (.tup xs)
 frzs:∀ b o u,H b=some (.frz o u)→H' b=some (.frz o u)
 tbls:∀ b ps,H b=some (.tbl ps)→∃ more,H' b=some (.tbl (ps++more))
section
variable{fs fs' ex ex':List Addr}{H H1 H2:Hp}{h h1 h2 h':Heap}{a x e:Addr}{o:HO}
theorem Un.any(u:Un fs ex H H1 h h1){b:Addr}{ob:Obj}(q:h.get? b=some ob)(n:H b=none)(hx:b∉ex):∃ sl,h1.get? b=some { ob with slots:=sl }:=by
 by_cases hb:b∈fs
 ·exact u.slot b ob q n hb hx
 ·exact⟨ob.slots,u.keep b ob q n hb hx⟩
theorem Un.kept(k:∀ b u,h.get? b=some u→h'.get? b=some u):Un fs ex H H h h' :=
 ⟨fun b ob q _ _ _=>k b ob q,fun b ob q _ _ _=>⟨ob.slots,k b ob q⟩,fun _ _ _ n _=>n,fun b ob q _=>⟨ob,k b ob q⟩,fun _ _ q=>q,fun _ _ _ q=>q,fun _ ps q=>⟨#[],by rw [q];simp⟩⟩
theorem Un.refl:Un fs ex H H h h:=Un.kept fun _ _ q=>q
theorem Un.laid(k:∀ b u,h.get? b=some u→h'.get? b=some u)(hp:h.objs.size≤a)(hn:H a=none):Un fs ex H (upd H a o) h h' where
 keep:=fun b u q _ _ _=>k b u q
 slot:=fun b u q _ _ _=>⟨u.slots,k b u q⟩
 free:=fun b u q n _=>by rw [Z2m (Z0o (Z0w (Z0f q) hp))];exact n
 there:=fun b u q _=>⟨u,k b u q⟩
 tups:=fun b xs q=>by rw [Z2m (Z2p q hn)];exact q
 frzs:=fun b u xs q=>by rw [Z2m (Z2p q hn)];exact q
 tbls:=fun b ps q=>⟨#[],by rw [Z2m (Z2p q hn),q];simp⟩
theorem Un.write(mu:Mut (H x))(he:e=x∨H e=some (.own x))(k:∀ b u,b≠e→h.get? b=some u→h'.get? b=some u)(heo:∃ u,h'.get? e=some u):Un fs ex H (upd H x o) h h':=by
 have hx:∀ b,H b=none→b≠x:=fun b n z=>by subst z;rw [n]at mu;exact mu
 have hb:∀ b,H b=none→b≠e:=fun b n z=>by
  subst z
  rcases he with r |r
  ·exact hx b n r
  ·rw [n]at r;cases r
 have hm:∀ b u,H b=some u→¬ Mut (some u)→b≠x:=fun b u q nm z=>by subst z;rw [q]at mu;exact nm mu
 refine⟨fun b u q n _ _=>k b u (hb b n) q,fun b u q n _ _=>⟨u.slots,k b u (hb b n) q⟩,fun b u q n _=>by rw [Z2m (hx b n)];exact n,fun b u q _=>?_,
  fun b xs q=>by rw [Z2m (hm b _ q fun z=>z)];exact q,fun b u xs q=>by rw [Z2m (hm b _ q fun z=>z)];exact q,fun b ps q=>⟨#[],by rw [Z2m (hm b _ q fun z=>z),q];simp⟩⟩
 by_cases hbe:b=e
 ·subst hbe;exact heo
 ·exact⟨u,k b u hbe q⟩
end
def trk(h:Heap)(H:Hp):List Addr:=(List.range h.objs.size).filter fun a=>(H a).isSome
def hidT(h:Heap)(H:Hp):Heap:=PySem.W.hideAll h (trk h H)
theorem Z8f(h:Heap)(H:Hp):(hidT h H).objs.size=h.objs.size:=PySem.W.hideAll_size _ _
theorem Z8Z{h:Heap}{H:Hp}{b:Addr}{o:Obj}(e:h.get? b=some o)(n:H b=none):(hidT h H).get? b=some o :=
 PySem.W.hideAll_get _ e fun hm=>by
  have q:(H b).isSome=true:=(List.mem_filter.mp hm).2
  rw [n]at q;simp at q
theorem Z6K{h:Heap}{H:Hp}{b:Addr}{o:Obj}(e:(hidT h H).get? b=some o):h.get? b=some o∧H b=none:=by
 have e':h.get? b=some o:=PySem.W.of_hideAll (trk h H) e
 refine⟨e',?_⟩
 cases q:H b with
 |none=>rfl
 |some x =>
  have hm:b∈trk h H:=List.mem_filter.mpr ⟨Z1t.mpr (Z0f e'),by simp [q]⟩
  have z:(hidT h H).get? b=none:=PySem.W.hideAll_none (trk h H) hm
  rw [z]at e;cases e
end L2
namespace L2
open PySem PySem.Spec PyProof.Rows
structure Mod(K:Z0a)(mg:Str→Option Value)(base:Heap):Prop where
 kin:K.In base
 glob:base.Ns mainGlobals mg
 blt:∃ mb,base.Ns builtinsNs mb∧∀ x:Str,x≠"__name__"→mb x=bootBuiltins x
 nolimit:base.NoLimit
structure Cx where
 prog:Program
 w:World
 K:Z0a
 mg:Str→Option Value
 base:Heap
 A:Around
 N:List Str
 s_0:Shared
 H_0:Hp
 env:Env
 outer:List Env
 stack:List Env
 ex:List Addr
 fn:Str→Bool
 calm:Bool
 pn:List (Addr×Obj)
 xe:Value→Shared→Prop
def frs(l:List Env):List Addr:=l.filterMap (·.frame)
abbrev Cx.fs(X:Cx):List Addr:=frs X.outer
def Vis(sc:Scope)(x:Str):Prop:=sc.names.lookup x=some .local∨sc.names.lookup x=some .cell∨sc.names.lookup x=some .free
def Loc(sc:Scope)(x:Str):Prop:=sc.names.lookup x=some .local∨sc.names.lookup x=some .cell
def Look(env:Env)(h:Heap)(m:Str→Option Value)(x:Str)(u:Value):Prop :=
 (env.kindOf x=some .local∧m x=some u)∨((env.kindOf x=some .cell∨env.kindOf x=some .free)∧∃ c,env.cells.lookup x=some c∧h.IsCell c (some u))
structure Cx.Ok(X:Cx):Prop where
 mod:Mod X.K X.mg X.base
 kind:X.env.scope.kind=.function
 glob:X.env.globals=mainGlobals
 blt:X.env.builtins=builtinsNs
 above:X.s_0.heap.objs.size≤X.env.locals
 inj:∀ x y c,X.env.cells.lookup x=some c→X.env.cells.lookup y=some c→x=y
 has:∀ x,(X.env.kindOf x=some .cell∨X.env.kindOf x=some .free)→∃ c,X.env.cells.lookup x=some c
 cab:∀ x c,X.fn x=true→X.env.cells.lookup x=some c→X.s_0.heap.objs.size≤c
 hd:X.calm=true→X.A.handled=none
 frames:X.A.frames=some X.stack
 stk:X.stack=X.outer∨(X.stack=X.env::X.outer∧X.env.frame=some X.env.locals)
 exf:∀ b∈X.ex,b≠X.env.locals∧∀ x c,X.env.cells.lookup x=some c→c≠b
 bs:∀ b o,X.base.get? b=some o→X.s_0.heap.get? b=some o∧X.H_0 b=none
 bsz:X.base.objs.size≤X.s_0.heap.objs.size
 noex:∀ b o,X.base.get? b=some o→b∉X.ex
 exfs:∀ b∈X.ex,b∉X.fs
 funs:X.s_0.heap.FunFrames X.base X.outer
 frf:∀ b∈X.fs,X.H_0 b=none
structure Inv(X:Cx)(pins:List (Addr×Obj))(σ:List (Option V))(H:Hp)(s:Shared):Prop where
 ok:X.Ok
 os:s.os=X.s_0.os
 bare:AllBare s.gens
 base:Un X.fs X.ex X.H_0 H X.s_0.heap s.heap
 loc:∃ m,s.heap.Ns X.env.locals m∧∀ (i:Nat)(x:Str)(v:V),X.N[i]?=some x→σ[i]?=some (some v)→Vis X.env.scope x→∃ u,RelV v u∧Look X.env s.heap m x u
 cell:∀ x c,X.env.cells.lookup x=some c→∃ v,s.heap.IsCell c v
 free:H X.env.locals=none
 freeC:∀ x c,X.env.cells.lookup x=some c→H c=none
 pin:∀ p∈X.pn++pins,s.heap.get? p.1=some p.2∧H p.1=none∧p.1≠X.env.locals∧p.1∉X.fs∧∀ v,p.2.data≠.cell v
 hok:HOk X.prog X.w H s.heap
 len:σ.length=X.N.length
section
variable{X:Cx}{pins:List (Addr×Obj)}{σ:List (Option V)}{H H':Hp}{s:Shared}{h':Heap}
theorem Cx.Ok.nofr(ok:X.Ok){b:Addr}{o:Obj}(e:X.base.get? b=some o):b∉X.fs:=fun hb=>by
 have:=(ok.funs.mem hb).1
 rw [e]at this;cases this
theorem Inv.bs(I:Inv X pins σ H s):∀ b o,X.base.get? b=some o→s.heap.get? b=some o∧H b=none:=fun b o e =>
 ⟨I.base.keep b o (I.ok.bs b o e).1 (I.ok.bs b o e).2 (I.ok.nofr e) (I.ok.noex b o e),I.base.free b o (I.ok.bs b o e).1 (I.ok.bs b o e).2 (I.ok.noex b o e)⟩
theorem Inv.bk(I:Inv X pins σ H s):∀ b o,X.base.get? b=some o→s.heap.get? b=some o:=fun b o e=>(I.bs b o e).1
theorem Inv.mod(I:Inv X pins σ H s):Mod X.K X.mg X.base:=I.ok.mod
theorem Inv.kIn(I:Inv X pins σ H s):X.K.In s.heap:=I.ok.mod.kin.keeps I.bk
theorem Inv.nolimit(I:Inv X pins σ H s):s.heap.NoLimit:=I.ok.mod.nolimit.keeps I.bk
theorem Inv.fr(I:Inv X pins σ H s):∃ m,Fr X.base X.env.locals s.heap m :=
 let ⟨m,hn,_⟩:=I.loc
 ⟨m,hn,I.bk,Z0A I.ok.bsz I.ok.above⟩
theorem Inv.lt(I:Inv X pins σ H s):X.env.locals<s.heap.objs.size:=let ⟨_,hn,_⟩:=I.loc;hn.lt
theorem Inv.sz(I:Inv X pins σ H s):X.s_0.heap.objs.size≤s.heap.objs.size:=Z0A I.ok.above (Z1u I.lt)
theorem Inv.nofs(I:Inv X pins σ H s){a:Addr}(h:s.heap.objs.size≤a):a∉X.fs:=fun hb=>by
 obtain⟨_,o,ho,_⟩:=I.ok.funs.mem hb
 exact absurd (Z0w (Z0f ho) (Z0A I.sz h)) (Z0v _)
theorem Inv.cne(I:Inv X pins σ H s):∀ x c,X.env.cells.lookup x=some c→c≠X.env.locals:=fun x c e z=>by
 obtain⟨v,o,ho,hd⟩:=I.cell x c e
 obtain⟨m,⟨o',es,ep,ho',hd',_⟩,_⟩:=I.loc
 rw [z,ho']at ho;cases ho;rw [hd']at hd;cases hd
theorem Inv.funs(I:Inv X pins σ H s):s.heap.FunFrames X.base X.outer:=by
 have all:∀ (l:List Env),(∀ b∈frs l,b∈X.fs)→X.s_0.heap.FunFrames X.base l→s.heap.FunFrames X.base l:=by
  intro l
  induction l with
  |nil=>intro _ _;trivial
  |cons env r ih =>
   intro hs hl
   obtain⟨hk,⟨L,o,hf,hn,ho,hd⟩,hr⟩:=hl
   have hL:L∈X.fs:=hs L (by unfold frs;rw [Z1i,hf];exact Z0h)
   obtain⟨sl,e⟩:=I.base.slot L o ho (I.ok.frf L hL) hL fun z=>I.ok.exfs L z hL
   exact⟨hk,⟨L,_,hf,hn,e,hd⟩,ih (fun b hb=>hs b (by unfold frs;rw [Z1i,hf];exact Z0g _ hb)) hr⟩
 exact all X.outer (fun _ hb=>hb) I.ok.funs
theorem Inv.stack(I:Inv X pins σ H s):s.heap.FunFrames X.base X.stack:=by
 rcases I.ok.stk with e |⟨e,hf⟩
 ·rw [e];exact I.funs
 ·rw [e]
  obtain⟨m,hn,_⟩:=I.loc
  refine .cons (by rw [I.ok.kind];decide) hf hn ?_ I.funs
  exact Z1v (Z0A I.ok.bsz I.ok.above)
theorem Inv.stkSub(I:Inv X pins σ H s):∀ b∈frs X.stack,b∈X.env.locals::X.fs:=fun b hb=>by
 rcases I.ok.stk with e |⟨e,hf⟩
 ·rw [e]at hb;exact Z0g _ hb
 ·rw [e]at hb
  unfold frs at hb
  rw [Z1i,hf]at hb
  exact hb
theorem Inv.stkFree(I:Inv X pins σ H s):∀ b∈frs X.stack,H b=none:=fun b hb=>by
 rcases Z0e.mp (I.stkSub b hb)with e |hb
 ·rw [e];exact I.free
 ·obtain⟨_,o,ho,_⟩:=I.ok.funs.mem hb
  exact I.base.free b o ho (I.ok.frf b hb) fun z=>I.ok.exfs b z hb
theorem Inv.step{g':Array GenState}{t':Nat}{d':Drawn}{ch:List Addr}(I:Inv X pins σ H s)
  (hch:∀ b∈ch,(b∈X.ex∨X.s_0.heap.objs.size≤b)∧b≠X.env.locals∧(∀ x c,X.env.cells.lookup x=some c→c≠b)∧∀ p∈X.pn++pins,p.1≠b)
  (keep:∀ b o,b≠X.env.locals→b∉X.fs→b∉ch→s.heap.get? b=some o→H b=none→h'.get? b=some o)
  (slot:∀ b o,b≠X.env.locals→b∈X.fs→b∉ch→s.heap.get? b=some o→H b=none→∃ sl,h'.get? b=some { o with slots:=sl })(free:∀ b o,b∉ch→s.heap.get? b=some o→H b=none→H' b=none)
  (there:∀ b o,b∉ch→s.heap.get? b=some o→∃ o',h'.get? b=some o')
  (tups:∀ b xs,H b=some (.tup xs)→H' b=some (.tup xs))(frzs:∀ b o u,H b=some (.frz o u)→H' b=some (.frz o u))(tbls:∀ b ps,H b=some (.tbl ps)→∃ more,H' b=some (.tbl (ps++more)))
  (ns:∀ m,s.heap.Ns X.env.locals m→h'.Ns X.env.locals m)(hok:HOk X.prog X.w H' h')(hg:AllBare g') :
  Inv X pins σ H' { s with heap:=h',gens:=g',drawn:=d',toks:=t' }:=by
 have neL:∀ b o,X.s_0.heap.get? b=some o→b≠X.env.locals:=fun b o e=>Z0o (Z0w (Z0f e) I.ok.above)
 have neC:∀ b o,X.s_0.heap.get? b=some o→b∉X.ex→b∉ch:=fun b o e hx hb=>by
  rcases(hch b hb).1 with z |z
  ·exact hx z
  ·exact absurd (Z0w (Z0f e) z) (Z0v _)
 have cellK:∀ x c,X.env.cells.lookup x=some c→∀ v,s.heap.IsCell c v→h'.IsCell c v:=fun x c e v ⟨o,ho,hd⟩=>by
  have nch:c∉ch:=fun z=>(hch c z).2.2.1 x c e rfl
  by_cases hc:c∈X.fs
  ·obtain⟨sl,q⟩:=slot c o (I.cne x c e) hc nch ho (I.freeC x c e)
   exact⟨_,q,hd⟩
  ·exact⟨o,keep c o (I.cne x c e) hc nch ho (I.freeC x c e),hd⟩
 refine⟨I.ok,I.os,hg,⟨fun b o e n hb hx=>?_,fun b o e n hb hx=>?_,fun b o e n hx=>?_,fun b o e hx=>?_,fun b xs e=>tups b xs (I.base.tups b xs e),fun b o xs e=>frzs b o xs (I.base.frzs b o xs e),fun b ps e=>?_⟩,?_,fun x c e=>?_,?_,fun x c e=>?_,fun p hp=>?_,hok,I.len⟩
 ·exact keep b o (neL b o e) hb (neC b o e hx) (I.base.keep b o e n hb hx) (I.base.free b o e n hx)
 ·obtain⟨sl,e1⟩:=I.base.slot b o e n hb hx
  obtain⟨sl',e2⟩:=slot b _ (neL b o e) hb (neC b o e hx) e1 (I.base.free b o e n hx)
  exact⟨sl',e2⟩
 ·obtain⟨o',e1⟩:=I.base.there b o e hx
  exact free b o' (neC b o e hx) e1 (I.base.free b o e n hx)
 ·obtain⟨o',e1⟩:=I.base.there b o e hx
  exact there b o' (neC b o e hx) e1
 ·obtain⟨m1,e1⟩:=I.base.tbls b ps e
  obtain⟨m2,e2⟩:=tbls b _ e1
  exact⟨m1++m2,by rw [e2,Array.append_assoc]⟩
 ·obtain⟨m,hn,hl⟩:=I.loc
  refine⟨m,ns m hn,fun i x v e1 e2 e3=>?_⟩
  obtain⟨u,r,l⟩:=hl i x v e1 e2 e3
  refine⟨u,r,?_⟩
  rcases l with l |⟨k,c,e,z⟩
  ·exact .inl l
  ·exact .inr ⟨k,c,e,cellK x c e _ z⟩
 ·obtain⟨v,z⟩:=I.cell x c e
  exact⟨v,cellK x c e v z⟩
 ·obtain⟨m,⟨o,_,_,ho,_⟩,_⟩:=I.loc
  exact free _ o (fun z=>(hch _ z).2.1 rfl) ho I.free
 ·obtain⟨v,o,ho,hd⟩:=I.cell x c e
  exact free c o (fun z=>(hch c z).2.2.1 x c e rfl) ho (I.freeC x c e)
 ·obtain⟨e,n,ne,nf,d⟩:=I.pin p hp
  have nch:p.1∉ch:=fun z=>(hch p.1 z).2.2.2 p hp rfl
  exact⟨keep p.1 p.2 ne nf nch e n,free p.1 p.2 nch e n,ne,nf,d⟩
theorem Inv.un{t':Nat}(I:Inv X pins σ H s)(u:Un X.fs [] H H' s.heap h')(hok:HOk X.prog X.w H' h'):Inv X pins σ H' { s with heap:=h',toks:=t' }:=by
 obtain⟨m,⟨o,es,ep,ho,r⟩,_⟩:=id I.loc
 obtain⟨sl,hL⟩:=u.any ho I.free (by simp)
 exact I.step (g':=s.gens) (d':=s.drawn) (ch:=[]) (fun _ z=>nomatch z) (fun b o _ hb _ e n=>u.keep b o e n hb (by simp)) (fun b o _ hb _ e n=>u.slot b o e n hb (by simp)) (fun b o _ e n=>u.free b o e n (by simp)) (fun b o _ e=>u.there b o e (by simp)) u.tups u.frzs u.tbls (fun m' hm=>by
  obtain⟨o',es',ep',ho',r'⟩:=hm
  rw [ho]at ho';cases ho'
  exact⟨_,es',ep',hL,r'⟩) hok I.bare
theorem Inv.call{g':Array GenState}{t':Nat}{d':Drawn}{ch:List Addr}(I:Inv X pins σ H s)(u:Un (frs X.stack) ch H H' s.heap h')(hok:HOk X.prog X.w H' h')(hg:AllBare g')
  (hch:∀ b∈ch,(b∈X.ex∨X.s_0.heap.objs.size≤b)∧b≠X.env.locals∧(∀ x c,X.env.cells.lookup x=some c→c≠b)∧∀ p∈X.pn++pins,p.1≠b) :
  Inv X pins σ H' { s with heap:=h',gens:=g',drawn:=d',toks:=t' }:=by
 obtain⟨m,⟨o,es,ep,ho,r⟩,_⟩:=id I.loc
 obtain⟨sl,hL⟩:=u.any ho I.free fun z=>(hch _ z).2.1 rfl
 exact I.step (ch:=ch) hch (fun b o hL hb hc e n=>u.keep b o e n (fun z=>(Z0e.mp (I.stkSub b z)).elim hL hb) hc) (fun b o _ _ hc e n=>u.any e n hc) (fun b o hc e n=>u.free b o e n hc) (fun b o hc e=>u.there b o e hc) u.tups u.frzs u.tbls (fun m' hm=>by
  obtain⟨o',es',ep',ho',r'⟩:=hm
  rw [ho]at ho';cases ho'
  exact⟨_,es',ep',hL,r'⟩) hok hg
theorem Inv.turned{t':Nat}{it:Addr}(I:Inv X pins σ H s)(k:∀ b o,b≠it→s.heap.get? b=some o→h'.get? b=some o)(hn:H it=none)(hL:it≠X.env.locals)
  (h1:it∈X.ex∨X.s_0.heap.objs.size≤it)(h2:∀ x c,X.env.cells.lookup x=some c→c≠it)(h3:∀ p∈X.pn++pins,p.1≠it):Inv X pins σ H { s with heap:=h',toks:=t' }:=by
 have nit:∀ b u,H b=some u→b≠it:=fun b u e z=>by rw [z,hn]at e;cases e
 refine I.step (g':=s.gens) (d':=s.drawn) (ch:=[it]) (fun b hb=>?_) (fun b o _ _ hc e _=>k b o (fun z=>hc (by simp [z])) e) (fun b o _ _ hc e _=>⟨o.slots,k b o (fun z=>hc (by simp [z])) e⟩) (fun _ _ _ _ n=>n)
  (fun b o hc e=>⟨o,k b o (fun z=>hc (by simp [z])) e⟩) (fun _ _ e=>e) (fun _ _ _ e=>e) (fun b ps e=>⟨#[],by rw [e];simp⟩) (fun m hm=>?_) (fun b u e=>?_) I.bare
 ·have e:b=it:=by simpa using hb
  subst e
  exact⟨h1,hL,h2,h3⟩
 ·obtain⟨o,es,ep,ho,r⟩:=hm
  exact⟨o,es,ep,k _ o (Ne.symm hL) ho,r⟩
 ·refine(I.hok b u e).stay (fun c v hc q=>k c v ?_ q) (fun _ q=>q) fun _ _ q=>q
  rcases hc with z |z
  ·rw [z];exact nit b u e
  ·exact nit c _ z
theorem Inv.tok(I:Inv X pins σ H s)(t:Nat):Inv X pins σ H { s with toks:=t }:=I.un (h':=s.heap) (t':=t) Un.refl I.hok
theorem Inv.kept{t':Nat}(I:Inv X pins σ H s)(k:∀ b u,s.heap.get? b=some u→h'.get? b=some u):Inv X pins σ H { s with heap:=h',toks:=t' }:=I.un (Un.kept k) (I.hok.kept k)
theorem Inv.laid{a:Addr}{o:HO}{t':Nat}(I:Inv X pins σ H s)(k:∀ b u,s.heap.get? b=some u→h'.get? b=some u)(hp:s.heap.objs.size≤a)(new:ObjOk X.prog X.w (upd H a o) h' a o) :
  Inv X pins σ (upd H a o) { s with heap:=h',toks:=t' }:=I.un (Un.laid k hp (I.hok.fresh hp)) (I.hok.laid k hp new)
theorem Inv.write{x e:Addr}{o:HO}{t':Nat}(I:Inv X pins σ H s)(mu:Mut (H x))(he:e=x∨H e=some (.own x))(k:∀ b u,b≠e→s.heap.get? b=some u→h'.get? b=some u)(heo:∃ u,h'.get? e=some u)
  (new:ObjOk X.prog X.w (upd H x o) h' x o):Inv X pins σ (upd H x o) { s with heap:=h',toks:=t' }:=I.un (Un.write mu he k heo) (I.hok.write mu he k heo new)
theorem Inv.weak{σ':List (Option V)}(I:Inv X pins σ H s)(hl:σ'.length=σ.length)(w:∀ (i:Nat) v,σ'[i]?=some (some v)→σ[i]?=some (some v)):Inv X pins σ' H s :=
 ⟨I.ok,I.os,I.bare,I.base,let ⟨m,hn,hl'⟩:=I.loc;⟨m,hn,fun i x v e1 e2 e3=>hl' i x v e1 (w i v e2) e3⟩,I.cell,I.free,I.freeC,I.pin,I.hok,hl.trans I.len⟩
theorem Inv.pins_of{pins':List (Addr×Obj)}(I:Inv X pins σ H s)(h:∀ p∈pins',s.heap.get? p.1=some p.2∧H p.1=none∧p.1≠X.env.locals∧p.1∉X.fs∧∀ v,p.2.data≠.cell v):Inv X pins' σ H s :=
 ⟨I.ok,I.os,I.bare,I.base,I.loc,I.cell,I.free,I.freeC,fun p hp=>(Z0m.mp hp).elim (fun z=>I.pin p (Z0M _ z)) (h p),I.hok,I.len⟩
theorem Z7e{N:List Str}(hN:N.Nodup){i j:Nat}{x:Str}(a:N[i]?=some x)(b:N[j]?=some x):i=j:=by
 obtain⟨h1,e1⟩:=Z0r.mp a
 obtain⟨h2,e2⟩:=Z0r.mp b
 exact(List.getElem_inj hN).mp (e1.trans e2.symm)
theorem Z6r{M:Model}{A:Around}{E:Value→Shared→Prop}{i:Nat}{x:Str}{v:V}{u:Value}{Q:Unit→Shared→Prop}(I:Inv X pins σ H s)(hN:X.N.Nodup)(hi:X.N[i]?=some x)(hx:Loc X.env.scope x)(r:RelV v u)
  (h:∀ s',Inv X pins (σ.set i (some v)) H s'→(∃ a,Heap.SameBut a s.heap s'.heap∧(a=X.env.locals∨X.env.cells.lookup x=some a))→Q () s')(hf:X.fn x=true∨X.env.scope.names.lookup x=some .local:=by first |exact .inl rfl |exact .inr rfl |assumption):wpAny M A (storeName X.env x u) Q E s:=by
 obtain⟨m,hn,hl⟩:=id I.loc
 have hcls:(X.env.scope.kind==.class ||(X.env.scope.kind==.module&&X.env.locals != X.env.globals))=false:=by rw [I.ok.kind];rfl
 have hiσ:i<σ.length:=by rw [I.len];exact(Z0r.mp hi).1
 have cne:=I.cne
 have tracked:∀ {a:Addr}{h':Heap},(∃ o,s.heap.get? a=some o∧H a=none)→Heap.SameBut a s.heap h'→HOk X.prog X.w H h':=fun{a h'} ha hs b ob e=>by
  obtain⟨_,_,hfree⟩:=ha
  refine(I.hok b ob e).stay (fun c w' hc q=>(hs.2 c ?_).trans q) (fun _ q=>q) fun _ _ q=>q
  rintro rfl
  rcases hc with rfl |hc
  ·rw [hfree]at e;cases e
  ·rw [hfree]at hc;cases hc
 rcases hx with hk |hk
 ·refine wpAny_storeName_local hk hn (fun h' hn' hs=>?_) hcls
  obtain⟨oL,_,_,hoL,_⟩:=id hn
  refine h _ ⟨I.ok,I.os,I.bare,⟨fun b o e n hb hx=>?_,fun b o e n hb hx=>?_,I.base.free,fun b o e hx=>?_,I.base.tups,I.base.frzs,I.base.tbls⟩,⟨_,hn',fun j y v' e1 e2 e3=>?_⟩,fun y c e=>?_,I.free,I.freeC,fun p hp=>?_,tracked ⟨oL,hoL,I.free⟩ hs,by simpa using I.len⟩ ⟨_,hs,.inl rfl⟩
  ·exact(hs.2 b (Z0o (Z0w (Z0f e) I.ok.above))).trans (I.base.keep b o e n hb hx)
  ·obtain⟨sl,e1⟩:=I.base.slot b o e n hb hx
   exact⟨sl,(hs.2 b (Z0o (Z0w (Z0f e) I.ok.above))).trans e1⟩
  ·obtain⟨o',e1⟩:=I.base.there b o e hx
   exact⟨o',(hs.2 b (Z0o (Z0w (Z0f e) I.ok.above))).trans e1⟩
  ·by_cases hj:j=i
   ·subst hj
    rw [hi]at e1;cases e1
    rw [Z1w hiσ]at e2
    cases e2
    exact⟨u,r,.inl ⟨hk,by simp⟩⟩
   ·rw [Z1J (Ne.symm hj)]at e2
    obtain⟨u',r',q⟩:=hl j y v' e1 e2 e3
    refine⟨u',r',?_⟩
    rcases q with⟨k,e⟩ |⟨k,c,e,z⟩
    ·refine .inl ⟨k,?_⟩
     have:y≠x:=fun e=>hj (Z7e hN e1 (e ▸ hi))
     simp [this,e]
    ·exact .inr ⟨k,c,e,z.sameBut hs (cne y c e)⟩
  ·obtain⟨w',z⟩:=I.cell y c e
   exact⟨w',z.sameBut hs (cne y c e)⟩
  ·obtain⟨e,n,ne,nf,d⟩:=I.pin p hp
   exact⟨(hs.2 p.1 ne).trans e,n,ne,nf,d⟩
 ·have hfn:X.fn x=true:=by
   rcases hf with z |z
   ·exact z
   ·rw [z]at hk;cases hk
  obtain⟨c,hc⟩:=I.ok.has x (.inl hk)
  obtain⟨w',z⟩:=I.cell x c hc
  refine wpAny_storeName_cell I.ok.kind hk hc z (fun h' hc' hs=>?_)
  obtain⟨oc,hoc,hocd⟩:=id z
  refine h { s with heap:=h' } ⟨I.ok,I.os,I.bare,⟨fun b o e n hb hx=>?_,fun b o e n hb hx=>?_,I.base.free,fun b o e hx=>?_,I.base.tups,I.base.frzs,I.base.tbls⟩,⟨m,hn.sameBut hs (Ne.symm (cne x c hc)),fun j y v' e1 e2 e3=>?_⟩,fun y c' e=>?_,I.free,I.freeC,fun p hp=>?_,tracked ⟨oc,hoc,I.freeC x c hc⟩ hs,by simpa using I.len⟩ ⟨c,hs,.inr hc⟩
  ·exact(hs.2 b (Z0o (Z0w (Z0f e) (I.ok.cab x c hfn hc)))).trans (I.base.keep b o e n hb hx)
  ·obtain⟨sl,e1⟩:=I.base.slot b o e n hb hx
   exact⟨sl,(hs.2 b (Z0o (Z0w (Z0f e) (I.ok.cab x c hfn hc)))).trans e1⟩
  ·obtain⟨o',e1⟩:=I.base.there b o e hx
   exact⟨o',(hs.2 b (Z0o (Z0w (Z0f e) (I.ok.cab x c hfn hc)))).trans e1⟩
  ·by_cases hj:j=i
   ·subst hj
    rw [hi]at e1;cases e1
    rw [Z1w hiσ]at e2
    cases e2
    exact⟨u,r,.inr ⟨.inl hk,c,hc,hc'⟩⟩
   ·rw [Z1J (Ne.symm hj)]at e2
    obtain⟨u',r',q⟩:=hl j y v' e1 e2 e3
    refine⟨u',r',?_⟩
    rcases q with q |⟨k,c',e,z'⟩
    ·exact .inl q
    ·refine .inr ⟨k,c',e,z'.sameBut hs ?_⟩
     rintro rfl
     exact hj (Z7e hN e1 (I.ok.inj _ _ _ e hc ▸ hi))
  ·by_cases hcc:c'=c
   ·subst hcc;exact⟨_,hc'⟩
   ·obtain⟨w2,z2⟩:=I.cell y c' e
    exact⟨w2,z2.sameBut hs hcc⟩
  ·obtain⟨e,n,ne,nf,d⟩:=I.pin p hp
   refine⟨(hs.2 p.1 ?_).trans e,n,ne,nf,d⟩
   intro q
   rw [q,hoc]at e
   have q':oc=p.2:=Option.some.inj e
   exact d w' (by rw [←q'];exact hocd)
theorem Z5X{M:Model}{A:Around}{E:Value→Shared→Prop}{i:Nat}{x:Str}{v:V}{u:Value}{Q:Unit→Shared→Prop}(I:Inv X pins σ H s)(hN:X.N.Nodup)(hi:X.N[i]?=some x)(hx:Loc X.env.scope x)(r:RelV v u)
  (h:∀ s',Inv X pins (σ.set i (some v)) H s'→Q () s')(hf:X.fn x=true∨X.env.scope.names.lookup x=some .local:=by first |exact .inl rfl |exact .inr rfl |assumption):wpAny M A (storeName X.env x u) Q E s :=
 Z6r I hN hi hx r (fun s' I' _=>h s' I') hf
theorem Inv.call'{s':Shared}{ch:List Addr}(I:Inv X pins σ H s)(ho:s'.os=s.os)(u:Un (frs X.stack) ch H H' s.heap s'.heap)(hok:HOk X.prog X.w H' s'.heap)(hg:AllBare s'.gens)
  (hch:∀ b∈ch,(b∈X.ex∨X.s_0.heap.objs.size≤b)∧b≠X.env.locals∧(∀ x c,X.env.cells.lookup x=some c→c≠b)∧∀ p∈X.pn++pins,p.1≠b):Inv X pins σ H' s':=by
 obtain⟨h',g',d',t',o'⟩:=s'
 have e:o'=s.os:=ho
 subst e
 exact I.call (g':=g') (t':=t') (d':=d') u hok hg hch
end
abbrev XK:=Value→Option Addr→Hp→Prop
abbrev St:=List (Option V)
abbrev VK:=V→Hp→Prop
abbrev TE:=St→Hp→VK→Prop
abbrev TT:=St→Hp→(Bool→Hp→Prop)→Prop
abbrev TA:=St→Hp→(List V→Hp→Prop)→Prop
structure Ends where
 nx:St→Hp→Prop
 rt:VK
 bk:St→Hp→Prop:=fun _ _=>False
 ct:St→Hp→Prop:=fun _ _=>False
abbrev TS:=Ends→St→Hp→Prop
def EP(X:Cx)(pins:List (Addr×Obj))(σ:St)(Q:VK)(u:Value)(s':Shared):Prop:=∃ v H',Inv X pins σ H' s'∧RelV v u∧Q v H'
def TP(X:Cx)(pins:List (Addr×Obj))(σ:St)(Q:Bool→Hp→Prop)(b:Bool)(s':Shared):Prop:=∃ H',Inv X pins σ H' s'∧Q b H'
def AP(X:Cx)(pins:List (Addr×Obj))(σ:St)(Q:List V→Hp→Prop)(us:List Value)(s':Shared):Prop:=∃ vs H',Inv X pins σ H' s'∧Vals vs us∧Q vs H'
def SP(X:Cx)(pins:List (Addr×Obj))(D:Ends)(f:Flow)(s':Shared):Prop :=
 match f with
 |.next=>∃ σ' H',Inv X pins σ' H' s'∧D.nx σ' H'
 |.brk=>∃ σ' H',Inv X pins σ' H' s'∧D.bk σ' H'
 |.cont=>∃ σ' H',Inv X pins σ' H' s'∧D.ct σ' H'
 |.ret u=>∃ v σ' H',Inv X pins σ' H' s'∧RelV v u∧D.rt v H'
def PE(X:Cx)(e:Expr)(t:TE):Prop :=
 ∀ (pins:List (Addr×Obj))(s:Shared)(σ:St)(H:Hp)(Q:VK),Inv X pins σ H s→t σ H Q→wpAny (model X.prog X.w) X.A (eval e X.env) (EP X pins σ Q) X.xe s
def PT(X:Cx)(e:Expr)(t:TT):Prop :=
 ∀ (pins:List (Addr×Obj))(s:Shared)(σ:St)(H:Hp)(Q:Bool→Hp→Prop),Inv X pins σ H s→t σ H Q→wpAny (model X.prog X.w) X.A (isTrue e X.env (eval e X.env)) (TP X pins σ Q) X.xe s
def PW(X:Cx)(e:Expr)(t:TT):Prop :=
 ∀ (whole:Sem Value)(pins:List (Addr×Obj))(s:Shared)(σ:St)(H:Hp)(Q:Bool→Hp→Prop),Inv X pins σ H s→t σ H Q→wpAny (model X.prog X.w) X.A (isTrue e X.env whole) (TP X pins σ Q) X.xe s
theorem PW.pt{X:Cx}{e:Expr}{t:TT}(h:PW X e t):PT X e t:=h _
def PA(X:Cx)(es:List Expr)(t:TA):Prop :=
 ∀ (pos:Pos)(pins:List (Addr×Obj))(s:Shared)(σ:St)(H:Hp)(Q:List V→Hp→Prop),Inv X pins σ H s→t σ H Q→wpAny (model X.prog X.w) X.A (spliced (backTo pos (starEach es X.env))) (AP X pins σ Q) X.xe s
def PS(X:Cx)(st:Stmt)(t:TS):Prop :=
 ∀ (pins:List (Addr×Obj))(s:Shared)(σ:St)(H:Hp)(D:Ends),Inv X pins σ H s→t D σ H→wpAny (model X.prog X.w) X.A (exec st X.env) (SP X pins D) X.xe s
def PSs(X:Cx)(st:List Stmt)(t:TS):Prop :=
 ∀ (pins:List (Addr×Obj))(s:Shared)(σ:St)(H:Hp)(D:Ends),Inv X pins σ H s→t D σ H→wpAny (model X.prog X.w) X.A (execs st X.env) (SP X pins D) X.xe s
theorem thn{α:Type}{t:Sem α}{Q Q':α→Shared→Prop}{M:Model}{A:Around}{E:Value→Shared→Prop}{s:Shared}(h:wpAny M A t Q E s)(hQ:∀ a s,Q a s→Q' a s):wpAny M A t Q' E s:=wpAny_mono h hQ fun _ _ x=>x
end L2
namespace L2
open PySem PySem.Spec PyProof.Rows
section
variable{X:Cx}
theorem bin{a b:Expr}{ta tb:TE}(ha:PE X a ta)(hb:PE X b tb){pins:List (Addr×Obj)}{s:Shared}{σ:St}{H:Hp}{R:V→V→Hp→Prop}(I:Inv X pins σ H s)(h:ta σ H fun x H1=>tb σ H1 fun y H2=>R x y H2)
  {α:Type}{Q:α→Shared→Prop}{f:Value→Value→Sem α}
  (hf:∀ v u s2 x y H2,Inv X pins σ H2 s2→RelV x v→RelV y u→R x y H2→wpAny (model X.prog X.w) X.A (f v u) Q X.xe s2) :
  wpAny (model X.prog X.w) X.A (eval a X.env) (fun v s₁=>wpAny (model X.prog X.w) X.A (eval b X.env) (fun u s₂=>wpAny (model X.prog X.w) X.A (f v u) Q X.xe s₂) X.xe s₁) X.xe s:=by
 refine thn (ha pins s σ H _ I h) fun v s1 ⟨x,H1,I1,r1,q1⟩=>?_
 refine thn (hb pins s1 σ H1 _ I1 q1) fun u s2 ⟨y,H2,I2,r2,q2⟩=>?_
 exact hf v u s2 x y H2 I2 r1 r2 q2
def tVar(i:Nat):TE:=fun σ H Q=>∃ v,σ[i]?=some (some v)∧Q v H
def tC(v:V):TE:=fun _ H Q=>Q v H
theorem pe_var{i:Nat}{x:Str}{pos:Pos}(hN:X.N[i]?=some x)(hv:Vis X.env.scope x)(hd:(x==("__debug__" : Str))=false:=by decide)(hcd:(x==("__classdict__" : Str))=false:=by decide):PE X (.Name x pos) (tVar i):=by
 intro pins s σ H Q I h
 obtain⟨v,e,h⟩:=h
 obtain⟨m,hn,hl⟩:=I.loc
 obtain⟨u,r,l⟩:=hl i x v hN e hv
 have fin:EP X pins σ Q u s:=⟨v,H,I,r,h⟩
 rcases l with⟨hk,hm⟩ |⟨hk,c,hc,hcell⟩
 ·exact wpAny_Name (wpAny_loadName_local I.ok.kind hk hn hm fin) hd
 ·rcases hk with hk |hk
  ·exact wpAny_Name (wpAny_loadName_cell I.ok.kind hk hc hcell fin) hd
  ·exact wpAny_Name (wpAny_loadName_free I.ok.kind hk hc hcell fin hcd) hd
theorem Z2t{i j pos}:PE X (.Constant (.int i) j pos) (tC (.int i)):=fun _ _ _ H _ I h=>wpAny_Constant_int ⟨.int i,H,I.tok _,⟨_,rfl⟩,h⟩
theorem pe_bl{b j pos}:PE X (.Constant (.bool b) j pos) (tC (.bl b)):=fun _ _ _ H _ I h=>Constant_bool ⟨.bl b,H,I,rfl,h⟩
def Gl(X:Cx)(x:Str):Prop:=X.env.kindOf x=some .globalImplicit
theorem Z3r{E:Value→Shared→Prop}{pins:List (Addr×Obj)}{s:Shared}{σ:St}{H:Hp}{x:Str}{u:Value}{pos:Pos}{Q:Value→Shared→Prop}(I:Inv X pins σ H s)(hg:Gl X x)(hm:X.mg x=some u)(h:Q u s)
  (hd:(x==("__debug__" : Str))=false:=by decide):wpAny (model X.prog X.w) X.A (eval (.Name x pos) X.env) Q E s :=
 Calls.Name_function_global I.ok.kind hg (Calls.loadGlobal_global (by rw [I.ok.glob];exact I.mod.glob.keeps I.bk) hm h) hd
theorem Z5J{E:Value→Shared→Prop}{pins:List (Addr×Obj)}{s:Shared}{σ:St}{H:Hp}{x:Str}{u:Value}{pos:Pos}{Q:Value→Shared→Prop}(I:Inv X pins σ H s)(hg:Gl X x)(hm:X.mg x=none)(hv:bootBuiltins x=some u)(h:Q u s)
  (hn:x≠"__name__":=by decide)(hd:(x==("__debug__" : Str))=false:=by decide):wpAny (model X.prog X.w) X.A (eval (.Name x pos) X.env) Q E s:=by
 obtain⟨mb,h1,h2⟩:=I.mod.blt
 exact Calls.Name_function_global I.ok.kind hg (Calls.loadGlobal_builtin (by rw [I.ok.glob];exact I.mod.glob.keeps I.bk) hm (by rw [I.ok.blt];exact h1.keeps I.bk) ((h2 x hn).trans hv) h) hd
theorem Z6F{x:Str}{v:V}{u:Value}{pos:Pos}(hg:Gl X x)(hm:X.mg x=some u)(r:RelV v u)(hd:(x==("__debug__" : Str))=false:=by decide):PE X (.Name x pos) (tC v) :=
 fun _ _ _ H _ I h=>Z3r I hg hm ⟨v,H,I,r,h⟩ hd
variable{a b:Expr}{ta tb:TE}{pos:Pos}
def PC(X:Cx)(op:CmpOp)(a b:Expr)(t:TE):Prop :=
 ∀ (pins:List (Addr×Obj))(s:Shared)(σ:St)(H:Hp)(Q:VK),Inv X pins σ H s→t σ H Q →
  wpAny (model X.prog X.w) X.A (eval a X.env) (fun v s₁=>wpAny (model X.prog X.w) X.A (eval b X.env) (fun u s₂=>wpAny (model X.prog X.w) X.A (compareOp op v u) (EP X pins σ Q) X.xe s₂) X.xe s₁) X.xe s
def tB(t:TE):TT:=fun σ H Q=>t σ H fun x H1=>∃ c,x=.bl c∧Q c H1
theorem Z7h{op:CmpOp}{t:TE}(h:PC X op a b t)(h1:behindInMarks op b=false:=by first |exact nobehind _ (by decide) (by decide) |rfl):PT X (.Compare a [op] [b] pos) (tB t):=by
 intro pins s σ H Q I hw
 refine wpAny_isTrue_Compare1 (thn (h pins s σ H _ I hw) fun v s1 h1=>thn h1 fun u s2 h2=>thn h2 fun c s3 ⟨x,H1,I1,r1,q1⟩=>?_) h1
 obtain⟨d,rfl,q⟩:=q1
 cases r1
 exact wpAny_truthy_bool ⟨H1,I1,q⟩
theorem Z4Y{e:Expr}{t:TE}(h:PE X e t)(he:∀ whole,isTrue e X.env whole=(do let v ←whole;standAt e.pos;holding [v] (truthy v)):=by intro _;rfl):PT X e (tB t):=by
 intro pins s σ H Q I hw
 refine isTrue_plain (thn (h pins s σ H _ I hw) fun v s1 ⟨x,H1,I1,r1,q1⟩=>?_) (he _)
 obtain⟨d,rfl,q⟩:=q1
 cases r1
 exact wpAny_truthy_bool ⟨H1,I1,q⟩
variable{tA tB':TT}{rest:List Expr}
def tAnd(t u:TT):TT:=fun σ H Q=>t σ H fun c H1=>if c=true then u σ H1 Q else Q false H1
def tOr(t u:TT):TT:=fun σ H Q=>t σ H fun c H1=>if c=true then Q true H1 else u σ H1 Q
def tNot(t:TT):TT:=fun σ H Q=>t σ H fun c H1=>Q (!c) H1
theorem Z6D(ha:PT X a tA):PW X (.BoolOp .And [a] pos) tA:=by
 intro wh pins s σ H Q I h
 refine isTrue_and (thn (ha pins s σ H Q I h) fun c s1 e=>?_)
 cases c with
 |true=>exact isTrue_and_nil e
 |false=>exact e
theorem Z7k(ha:PT X a tA):PW X (.BoolOp .Or [a] pos) tA:=by
 intro wh pins s σ H Q I h
 refine isTrue_or (thn (ha pins s σ H Q I h) fun c s1 e=>?_)
 cases c with
 |false=>exact isTrue_or_nil e
 |true=>exact e
theorem Z6w(ha:PT X a tA)(hb:PW X (.BoolOp .And (b::rest) pos) tB'):PW X (.BoolOp .And (a::b::rest) pos) (tAnd tA tB'):=by
 intro wh pins s σ H Q I h
 refine isTrue_and (thn (ha pins s σ H _ I h) fun c s1 ⟨H1,I1,q1⟩=>?_)
 cases c with
 |true=>exact hb wh pins s1 σ H1 Q I1 q1
 |false=>exact⟨H1,I1,q1⟩
theorem pw_or(ha:PT X a tA)(hb:PW X (.BoolOp .Or (b::rest) pos) tB'):PW X (.BoolOp .Or (a::b::rest) pos) (tOr tA tB'):=by
 intro wh pins s σ H Q I h
 refine isTrue_or (thn (ha pins s σ H _ I h) fun c s1 ⟨H1,I1,q1⟩=>?_)
 cases c with
 |true=>exact⟨H1,I1,q1⟩
 |false=>exact hb wh pins s1 σ H1 Q I1 q1
theorem Z8F(ha:PT X a tA):PT X (.UnaryOp .Not a pos) (tNot tA):=by
 intro pins s σ H Q I h
 exact isTrue_not (ha pins s σ H (fun c H1=>Q (!c) H1) I h)
def tAndV(ta tb:TE):TE:=fun σ H Q=>ta σ H fun x H1=>∃ c,x=.bl c∧if c=true then tb σ H1 Q else Q (.bl false) H1
def tNotV(ta:TE):TE:=fun σ H Q=>ta σ H fun x H1=>∃ c,x=.bl c∧Q (.bl (!c)) H1
theorem Z7D{op}{t:TE}(h:PE X a t):PE X (.BoolOp op [a] pos) t:=fun pins s σ H Q I hw=>BoolOp_one (h pins s σ H Q I hw)
theorem Z6y(ha:PE X a ta)(hb:PE X (.BoolOp .And (b::rest) pos) tb):PE X (.BoolOp .And (a::b::rest) pos) (tAndV ta tb):=by
 intro pins s σ H Q I h
 refine BoolOp_and (thn (ha pins s σ H _ I h) fun v s1 ⟨x,H1,I1,r1,q1⟩=>?_)
 obtain⟨c,rfl,q1⟩:=q1
 cases r1
 refine wpAny_truthy_bool ?_
 cases c with
 |true=>exact hb pins s1 σ H1 Q I1 q1
 |false=>exact⟨.bl false,H1,I1,rfl,q1⟩
theorem pe_not(ha:PE X a ta):PE X (.UnaryOp .Not a pos) (tNotV ta):=by
 intro pins s σ H Q I h
 refine UnaryOp_ (thn (ha pins s σ H _ I h) fun v s1 ⟨x,H1,I1,r1,q1⟩=>?_)
 obtain⟨c,rfl,q1⟩:=q1
 cases r1
 exact not_of (wpAny_truthy_bool ⟨.bl (!c),H1,I1,rfl,q1⟩)
def tIf(t:TT)(ta tb:TE):TE:=fun σ H Q=>t σ H fun c H1=>if c=true then ta σ H1 Q else tb σ H1 Q
theorem pe_ifExp{c:Expr}(hc:PT X c tA)(ha:PE X a ta)(hb:PE X b tb):PE X (.IfExp c a b pos) (tIf tA ta tb):=by
 intro pins s σ H Q I h
 refine wpAny_IfExp (thn (hc pins s σ H _ I h) fun d s1 ⟨H1,I1,q1⟩=>?_)
 cases d with
 |true=>exact ha pins s1 σ H1 Q I1 q1
 |false=>exact hb pins s1 σ H1 Q I1 q1
end
end L2
namespace L2
open PySem PySem.Spec PyProof.Rows
def SqL(K:Z0a)(H:Hp)(a:Addr)(xs:List V):Prop :=
 Rd H a (.lst xs) ∨
  ∃ (o:Obj)(its:Array Value)(n:Nat),K.lookup a=some o∧o.cls=.type "list"∧o.dict=none∧o.data=.seq its n∧its.size≤sizeLine∧Vals xs its.toList
def SqT(K:Z0a)(H:Hp)(a:Addr)(xs:List V):Prop :=
 Rd H a (.tup xs) ∨
  ∃ (o:Obj)(its:Array Value)(n:Nat),K.lookup a=some o∧o.cls=.type "tuple"∧o.data=.seq its n∧its.size≤sizeLine∧Vals xs its.toList
def absV:Value→Option V
 |.none=>some .non
 |.bool b=>some (.bl b)
 |.int i _=>some (.int i)
 |.str x _=>some (.str x)
 |.bytes b _=>some (.byt b)
 |.float b _=>some (.flt b)
 |.ref a=>some (.ref a)
 |.type n=>some (.ty n)
 |_=>none
theorem RelV.abs{x:V}{u:Value}(r:RelV x u):absV u=some x:=by
 cases x with
 |non=>cases r;rfl
 |bl _=>cases r;rfl
 |int _=>obtain⟨t,rfl⟩:=r;rfl
 |str _=>obtain⟨t,rfl⟩:=r;rfl
 |byt _=>obtain⟨t,rfl⟩:=r;rfl
 |flt _=>obtain⟨t,rfl⟩:=r;rfl
 |ref _=>cases r;rfl
 |ty _=>cases r;rfl
theorem RelV.inj{x y:V}{u:Value}(r:RelV x u)(q:RelV y u):x=y:=Option.some.inj (r.abs.symm.trans q.abs)
theorem Vals.inj:∀ {xs ys:List V}{us:List Value},Vals xs us→Vals ys us→xs=ys
 |_,_,_,.nil,.nil=>rfl
 |_,_,_,.cons r t,.cons r' t'=>by rw [r.inj r',Vals.inj t t']
section
variable{X:Cx}{pins:List (Addr×Obj)}{σ:St}{H:Hp}{s:Shared}{a:Addr}{xs ys:List V}
theorem SqL.of{K:Z0a}(h:H a=some (.lst xs)):SqL K H a xs:=.inl (.inl h)
theorem SqT.of{K:Z0a}(h:H a=some (.tup xs)):SqT K H a xs:=.inl (.inl h)
theorem Inv.list(I:Inv X pins σ H s)(h:SqL X.K H a xs):∃ its:List Value,Vals xs its∧PlainL s.heap a its.toArray∧xs.length≤sizeLine:=by
 rcases h with h |⟨o,its,n,hk,hc,hd,hs,hz,r⟩
 ·obtain⟨z,its,n,r,e⟩:=h.ok I.hok
  exact⟨its,r,⟨_,n,e,rfl,rfl,rfl⟩,z⟩
 ·refine⟨its.toList,r,⟨o,n,I.kIn a o hk,hc,hd,by simpa using hs⟩,?_⟩
  have e:=r.length
  simp only [Z1Z]at e
  omega
theorem Inv.tuple(I:Inv X pins σ H s)(h:SqT X.K H a xs):∃ its:List Value,Vals xs its∧IsTup s.heap a its.toArray∧xs.length≤sizeLine:=by
 rcases h with h |⟨o,its,n,hk,hc,hs,hz,r⟩
 ·obtain⟨z,its,r,p⟩:=h.ok I.hok
  exact⟨its,r,p,z⟩
 ·refine⟨its.toList,r,⟨o,I.kIn a o hk,hc,n,by simpa using hs⟩,?_⟩
  have e:=r.length
  simp only [Z1Z]at e
  omega
theorem Inv.list_inj(I:Inv X pins σ H s)(h:SqL X.K H a xs)(h':SqL X.K H a ys):xs=ys:=by
 obtain⟨its,r,⟨o,n,e,_,_,d⟩,_⟩:=I.list h
 obtain⟨its',r',⟨o',n',e',_,_,d'⟩,_⟩:=I.list h'
 rw [e]at e';cases e'
 rw [d]at d'
 injection d' with d1 _
 have:its=its':=by simpa using congrArg Array.toList d1
 subst this
 exact r.inj r'
theorem Inv.tuple_inj(I:Inv X pins σ H s)(h:SqT X.K H a xs)(h':SqT X.K H a ys):xs=ys:=by
 obtain⟨its,r,⟨o,e,_,n,d⟩,_⟩:=I.tuple h
 obtain⟨its',r',⟨o',e',_,n',d'⟩,_⟩:=I.tuple h'
 rw [e]at e';cases e'
 rw [d]at d'
 injection d' with d1 _
 have:its=its':=by simpa using congrArg Array.toList d1
 subst this
 exact r.inj r'
end
abbrev Cx.wish(X:Cx)(E:Value→Shared→Prop):Cx:={ X with xe:=E }
abbrev Cx.nox(X:Cx):Cx:=X.wish fun _ _=>False
theorem Cx.Ok.wish{X:Cx}(ok:X.Ok)(E:Value→Shared→Prop):(X.wish E).Ok :=
 ⟨ok.mod,ok.kind,ok.glob,ok.blt,ok.above,ok.inj,ok.has,ok.cab,ok.hd,ok.frames,ok.stk,ok.exf,ok.bs,ok.bsz,ok.noex,ok.exfs,ok.funs,ok.frf⟩
theorem Cx.Ok.unwish{X:Cx}{E:Value→Shared→Prop}(ok:(X.wish E).Ok):X.Ok :=
 ⟨ok.mod,ok.kind,ok.glob,ok.blt,ok.above,ok.inj,ok.has,ok.cab,ok.hd,ok.frames,ok.stk,ok.exf,ok.bs,ok.bsz,ok.noex,ok.exfs,ok.funs,ok.frf⟩
section
variable{X:Cx}{pins:List (Addr×Obj)}{σ:St}{H:Hp}{s:Shared}{E:Value→Shared→Prop}
theorem Inv.wish(I:Inv X pins σ H s)(E:Value→Shared→Prop):Inv (X.wish E) pins σ H s:=⟨I.ok.wish E,I.os,I.bare,I.base,I.loc,I.cell,I.free,I.freeC,I.pin,I.hok,I.len⟩
theorem Inv.unwish(I:Inv (X.wish E) pins σ H s):Inv X pins σ H s:=⟨I.ok.unwish,I.os,I.bare,I.base,I.loc,I.cell,I.free,I.freeC,I.pin,I.hok,I.len⟩
theorem SP.unwish{D:Ends}{f:Flow}{s':Shared}(h:SP (X.wish E) pins D f s'):SP X pins D f s':=by
 cases f with
 |next=>obtain⟨σ',H',I,q⟩:=h;exact⟨σ',H',I.unwish,q⟩
 |brk=>obtain⟨σ',H',I,q⟩:=h;exact⟨σ',H',I.unwish,q⟩
 |cont=>obtain⟨σ',H',I,q⟩:=h;exact⟨σ',H',I.unwish,q⟩
 |ret u=>obtain⟨v,σ',H',I,r,q⟩:=h;exact⟨v,σ',H',I.unwish,r,q⟩
theorem PSs.nox{st:List Stmt}{t:TS}(h:PSs X.nox st t):PSs X st t:=fun pins s σ H D I hw =>
 wpAny_mono (h pins s σ H D (I.wish _) hw) (fun _ _ q=>q.unwish) fun _ _ z=>False.elim z
end
section
variable{X:Cx}{st:Stmt}{rest:List Stmt}{t u:TS}{e:Expr}{te:TE}{pos:Pos}
def tNext:TS:=fun D σ H=>D.nx σ H
def tSeq(t u:TS):TS:=fun D σ H=>t { D with nx:=u D } σ H
theorem Z2L:PSs X [] tNext:=fun _ _ σ H _ I h=>wpAny_execs_nil ⟨σ,H,I,h⟩
theorem Z2o(h1:PS X st t)(h2:PSs X rest u):PSs X (st::rest) (tSeq t u):=by
 intro pins s σ H D I h
 refine wpAny_execs_cons (thn (h1 pins s σ H { D with nx:=u D } I h) fun f s1 q=>?_)
 cases f with
 |next =>
  obtain⟨σ',H',I',q⟩:=q
  exact h2 pins s1 σ' H' D I' q
 |ret v=>exact q
 |brk=>exact q
 |cont=>exact q
theorem Z2s(h1:PS X st t):PSs X [st] t:=by
 intro pins s σ H D I h
 refine wpAny_execs_cons (thn (h1 pins s σ H D I h) fun f s1 q=>?_)
 cases f with
 |next=>exact wpAny_execs_nil q
 |ret v=>exact q
 |brk=>exact q
 |cont=>exact q
theorem Inv.quiet{pins:List (Addr×Obj)}{σ:St}{H:Hp}{s:Shared}(I:Inv X pins σ H s):interactive X.env=false:=by simp [interactive,I.ok.kind]
def tDrop(te:TE):TS:=fun D σ H=>te σ H fun _ H1=>D.nx σ H1
theorem Z2K(he:PE X e te)(hs:swapsWith e none pos.line X.env=pure false:=by rfl):PS X (.Expr e pos) (tDrop te):=by
 intro pins s σ H D I h
 exact wpAny_Expr_any (thn (he pins s σ H _ I h) fun v s1 ⟨x,H1,I1,r1,q1⟩=>⟨σ,H1,I1,q1⟩) I.quiet hs
def tRet(te:TE):TS:=fun D σ H=>te σ H D.rt
theorem Z2y(he:PE X e te):PS X (.Return (some e) pos) (tRet te):=by
 intro pins s σ H D I h
 exact wpAny_Return_some (thn (he pins s σ H _ I h) fun v s1 ⟨x,H1,I1,r1,q1⟩=>⟨x,σ,H1,I1,r1,q1⟩)
def tIfS(c:TT)(t u:TS):TS:=fun D σ H=>c σ H fun b H1=>if b=true then t D σ H1 else u D σ H1
theorem ps_if{c:Expr}{a b:List Stmt}{tc:TT}(hc:PT X c tc)(ha:PSs X a t)(hb:PSs X b u):PS X (.If c a b pos) (tIfS tc t u):=by
 intro pins s σ H D I h
 refine wpAny_If (thn (hc pins s σ H _ I h) fun d s1 ⟨H1,I1,q1⟩=>?_)
 cases d with
 |true=>exact ha pins s1 σ H1 D I1 q1
 |false=>exact hb pins s1 σ H1 D I1 q1
end
abbrev TG:=V→St→Hp→(St→Hp→Prop)→Prop
abbrev TGs:=List V→St→Hp→(St→Hp→Prop)→Prop
def PG(X:Cx)(target:Expr)(t:TG):Prop :=
 ∀ (pins:List (Addr×Obj))(s:Shared)(σ:St)(H:Hp)(v:V)(u:Value)(Q:St→Hp→Prop),Inv X pins σ H s→RelV v u→t v σ H Q →
  wpAny (model X.prog X.w) X.A (assign target X.env u) (fun _ s'=>∃ σ' H',Inv X pins σ' H' s'∧Q σ' H') X.xe s
def PGs(X:Cx)(ts:List Expr)(t:TGs):Prop :=
 ∀ (pins:List (Addr×Obj))(s:Shared)(σ:St)(H:Hp)(vs:List V)(us:List Value)(Q:St→Hp→Prop),Inv X pins σ H s→Vals vs us→t vs σ H Q →
  wpAny (model X.prog X.w) X.A (assignInOrder ((assignEach ts X.env).map (·.2)) us) (fun _ s'=>∃ σ' H',Inv X pins σ' H' s'∧Q σ' H') X.xe s
abbrev TSet:=V→V→V→Hp→(Hp→Prop)→Prop
def PSet(X:Cx)(t:TSet):Prop :=
 ∀ (pins:List (Addr×Obj))(s:Shared)(σ:St)(H:Hp)(o i v:V)(ov iv u:Value)(Q:Hp→Prop),Inv X pins σ H s→RelV o ov→RelV i iv→RelV v u→t o i v H Q →
  wpAny (model X.prog X.w) X.A (setItem ov iv u) (fun _ s'=>∃ H',Inv X pins σ H' s'∧Q H') X.xe s
abbrev TIp:=V→V→Hp→VK→Prop
def PIp(X:Cx)(op:Operator)(t:TIp):Prop :=
 ∀ (pins:List (Addr×Obj))(s:Shared)(σ:St)(H:Hp)(x y:V)(v u:Value)(Q:VK),Inv X pins σ H s→RelV x v→RelV y u→t x y H Q →
  wpAny (model X.prog X.w) X.A (inplaceOp op v u) (EP X pins σ Q) X.xe s
section
variable{X:Cx}{pos:Pos}
def gName(i:Nat):TG:=fun v σ H Q=>Q (σ.set i (some v)) H
theorem Z2H{i:Nat}{x:Str}(hN:X.N.Nodup)(hi:X.N[i]?=some x)(hx:Loc X.env.scope x)(hf:X.fn x=true∨X.env.scope.names.lookup x=some .local:=by first |exact .inl rfl |exact .inr rfl |assumption):PG X (.Name x pos) (gName i):=by
 intro pins s σ H v u Q I r h
 exact wpAny_assign_Name (Z5X I hN hi hx r (fun s' I'=>⟨_,H,I',h⟩) hf)
def gNil:TGs:=fun vs σ H Q=>vs=[]∧Q σ H
def gCons(t:TG)(u:TGs):TGs:=fun vs σ H Q=>∃ v r,vs=v::r∧t v σ H fun σ' H'=>u r σ' H' Q
theorem Z4V:PGs X [] gNil:=by
 intro pins s σ H vs us Q I r h
 obtain⟨e,h⟩:=h
 subst e
 cases r
 exact assignInOrder_nil ⟨σ,H,I,h⟩
theorem Z3i{e:Expr}{es:List Expr}{t:TG}{u:TGs}(h1:PG X e t)(h2:PGs X es u)
  (hs:(assignEach (e::es) X.env).map (·.2)=assign e X.env::(assignEach es X.env).map (·.2):=by rfl):PGs X (e::es) (gCons t u):=by
 intro pins s σ H vs us Q I r h
 obtain⟨v,vr,e1,h⟩:=h
 subst e1
 cases r with
 |cons r rr =>
  rw [hs]
  refine assignInOrder_cons (thn (h1 pins s σ H _ _ _ I r h) fun _ s1 ⟨σ1,H1,I1,q1⟩=>?_)
  exact h2 pins s1 σ1 H1 _ _ Q I1 rr q1
def gTup(K:Z0a)(n:Nat)(t:TGs):TG:=fun v σ H Q=>∃ a xs,v=.ref a∧SqT K H a xs∧xs.length=n∧t xs σ H Q
theorem Z6C{es:List Expr}{k:Nat}{t:TGs}{n:Nat}(hc:X.calm=true)(h:PGs X es t)
  (hn:(assignEach es X.env).length=n:=by rfl)(hst:(assignEach es X.env).findIdx? (·.1)=none:=by rfl):PG X (.Tuple es k pos) (gTup X.K n t):=by
 intro pins s σ H v u Q I r hw
 obtain⟨a,xs,e1,hq,hl,hw⟩:=hw
 subst e1
 cases r
 obtain⟨its,rv,ht,hz⟩:=I.tuple hq
 refine assign_Tuple_tuple (I.ok.hd hc) ht (by simp [hn,←hl,rv.length]) hst fun h' hx=>?_
 have I1:Inv X pins σ H { s with heap:=h' }:=I.kept (t':=s.toks) fun b o e=>hx b o (Z0o (Z0f e)) e
 exact h pins _ σ H xs _ Q I1 (by simpa using rv) hw
def tAsg(te:TE)(g:TG):TS:=fun D σ H=>te σ H fun x H1=>g x σ H1 D.nx
theorem Z2w{i:Nat}{x:Str}{e:Expr}{te:TE}{pos':Pos}(hN:X.N.Nodup)(hi:X.N[i]?=some x)(hx:Loc X.env.scope x)(he:PE X e te)(hs:swapsWith e (some (.Name x pos')) pos.line X.env=pure false:=by rfl)(hf:X.fn x=true∨X.env.scope.names.lookup x=some .local:=by first |exact .inl rfl |exact .inr rfl |assumption) :
  PS X (.Assign [.Name x pos'] e pos) (tAsg te (gName i)):=by
 intro pins s σ H D I h
 refine wpAny_Assign_Name (thn (he pins s σ H _ I h) fun v s1 ⟨y,H1,I1,r1,q1⟩=>?_) hs
 exact Z5X I1 hN hi hx r1 (fun s2 I2=>⟨_,H1,I2,q1⟩) hf
def tAugS(to ti te:TE)(tget:V→V→Hp→VK→Prop)(tip:TIp)(tset:TSet):TS:=fun D σ H=>to σ H fun o H1=>ti σ H1 fun i H2=>tget o i H2 fun x H3=>te σ H3 fun y H4=>tip x y H4 fun z H5=>tset o i z H5 fun H6=>D.nx σ H6
def PGet(X:Cx)(t:V→V→Hp→VK→Prop):Prop :=
 ∀ (pins:List (Addr×Obj))(s:Shared)(σ:St)(H:Hp)(o i:V)(ov iv:Value)(Q:VK),Inv X pins σ H s→RelV o ov→RelV i iv→t o i H Q →
  wpAny (model X.prog X.w) X.A (getItem ov iv) (EP X pins σ Q) X.xe s
theorem Zae{o i e:Expr}{to ti te:TE}{tget:V→V→Hp→VK→Prop}{tip:TIp}{tset:TSet}{op:Operator}{tpos:Pos}(ho:PE X o to)(hi:PE X i ti)(hg:PGet X tget)(he:PE X e te)(hp:PIp X op tip)(hs:PSet X tset)
  (ha:∀ ov iv new,augStore i ov iv new=(do holding [new,ov,iv] (setItem ov iv new);release [new,ov,iv] [];pure .next):=by intros;rfl):PS X (.AugAssign (.Subscript o i tpos) op e pos) (tAugS to ti te tget tip tset):=by
 intro pins s σ H D I h
 refine wpAny_AugAssign_SubscriptAny (thn (ho pins s σ H _ I h) fun ov s1 ⟨x1,H1,I1,r1,q1⟩=>?_) ha
 refine thn (hi pins s1 σ H1 _ I1 q1) fun iv s2 ⟨x2,H2,I2,r2,q2⟩=>?_
 refine thn (hg pins s2 σ H2 x1 x2 ov iv _ I2 r1 r2 q2) fun old s3 ⟨x3,H3,I3,r3,q3⟩=>?_
 refine thn (he pins s3 σ H3 _ I3 q3) fun v s4 ⟨x4,H4,I4,r4,q4⟩=>?_
 refine thn (hp pins s4 σ H4 x3 x4 old v _ I4 r3 r4 q4) fun new s5 ⟨x5,H5,I5,r5,q5⟩=>?_
 exact thn (hs pins s5 σ H5 x1 x2 x5 ov iv new _ I5 r1 r2 r5 q5) fun _ s6 ⟨H6,I6,q6⟩=>⟨σ,H6,I6,q6⟩
def ipI(f:Int→Int→Int):TIp:=fun x y H Q=>∃ i j,x=.int i∧y=.int j∧Q (.int (f i j)) H
theorem ip_add:PIp X .Add (ipI fun i j=>i+j):=by
 intro pins s σ H x y v u Q I r1 r2 h
 obtain⟨i,j,e1,e2,q⟩:=h
 subst e1;subst e2
 obtain⟨t,rfl⟩:=r1
 obtain⟨t',rfl⟩:=r2
 exact iadd_int ⟨.int _,H,I.tok _,⟨_,rfl⟩,q⟩
end
section
variable{X:Cx}{pos:Pos}
def Z9x(c:TT)(tb:TS):TS:=fun D σ H=>∃ W:Nat→St→Hp→Prop,(∃ m,W m σ H)∧∀ m σ H,W m σ H →
 c σ H fun b H1=>if b=true then ∃ N:St→Hp→Prop,(∀ σ' H',N σ' H'→∃ m',m' < m∧W m' σ' H')∧tb { D with nx:=N,ct:=N,bk:=D.nx } σ H1 else D.nx σ H1
theorem Z5f{c:Expr}{body:List Stmt}{tc:TT}{tb:TS}(hp:PassesOwn (model X.prog X.w) X.A X.env X.xe)(hc:PT X c tc)(hb:PSs X body tb):PS X (.While c body [] pos) (Z9x tc tb):=by
 intro pins s σ H D I h
 obtain⟨W,⟨m0,w0⟩,turn⟩:=h
 refine wpAny_While (codeAny_whileLoop (fun n s'=>∃ σ' H',Inv X pins σ' H' s'∧W n σ' H') ?_ m0 ⟨σ,H,I,w0⟩)
 rintro n s1 ⟨σ1,H1,I1,w1⟩
 refine wpAny_passesOwn hp (thn (hc pins s1 σ1 H1 _ I1 (turn n σ1 H1 w1)) fun b s2 ⟨H2,I2,q2⟩=>?_)
 cases b with
 |true =>
  obtain⟨N,hN,q2⟩:=q2
  rw [if_pos rfl]
  refine wpAny_passesOwn hp (thn (hb pins s2 σ1 H2 _ I2 q2) fun f s3 q3=>?_)
  cases f with
  |next =>
   obtain⟨σ3,H3,I3,n3⟩:=q3
   obtain⟨m',hm,w3⟩:=hN σ3 H3 n3
   exact⟨m',hm,σ3,H3,I3,w3⟩
  |cont =>
   obtain⟨σ3,H3,I3,n3⟩:=q3
   obtain⟨m',hm,w3⟩:=hN σ3 H3 n3
   exact⟨m',hm,σ3,H3,I3,w3⟩
  |brk=>exact q3
  |ret v=>exact q3
 |false =>
  rw [if_neg Z0t]
  exact wpAny_execs_nil ⟨σ1,H2,I2,q2⟩
end
structure It where
 go:Nat→Hp→Prop
 yld:Nat→Hp→V→Hp→Prop
 stop:Nat→Hp→Prop
def FpOk(X:Cx)(pins:List (Addr×Obj))(H:Hp)(b:Addr):Prop :=
 H b=none∧b≠X.env.locals∧b∉X.fs∧(b∈X.ex∨X.s_0.heap.objs.size≤b)∧(∀ x c,X.env.cells.lookup x=some c→c≠b)∧∀ p∈X.pn++pins,p.1≠b
theorem Inv.fpOk{X:Cx}{pins:List (Addr×Obj)}{σ:St}{H H':Hp}{s:Shared}{b:Addr}(I:Inv X pins σ H s)(hb:s.heap.objs.size≤b)(hn:H' b=none):FpOk X pins H' b:=by
 refine⟨hn,Z1j (Z0w I.lt hb),I.nofs hb,.inr (Z0A I.sz hb),fun x c e z=>?_,fun p hp z=>?_⟩
 ·obtain⟨v,q⟩:=I.cell x c e
  exact absurd (Z0w q.lt (by rw [z];exact hb)) (Z0v _)
 ·exact absurd (Z0w (Z0f (I.pin p hp).1) (by rw [z];exact hb)) (Z0v _)
structure Turn(P:Program)(w:World)(K:Z0a)(tg:Expr)(J:It)(fp:List Addr)(it:Addr)(tn:Nat→Heap→Prop):Prop where
 mem:it∈fp
 obj:∀ i h,tn i h→∀ b∈fp,∃ o,h.get? b=some o∧∀ v,o.data≠.cell v
 keep:∀ i h h',tn i h→(∀ b∈fp,∀ o,h.get? b=some o→h'.get? b=some o)→tn i h'
 item:∀ (X:Cx),X.prog=P→X.w=w→X.K=K→X.calm=true→∀ (i:Nat)(pins:List (Addr×Obj))(s:Shared)(σ:St)(H:Hp)(E:Value→Shared→Prop),Inv X pins σ H s→(∀ b∈fp,FpOk X pins H b)→tn i s.heap→J.go i H →
  wpAny (model P w) X.A (pyNext (.ref it)) (fun r s1=>∃ u,r=some u ∧
   wpAny (model P w) X.A (letOwnedTupleGo tg (.ref it) u) (fun _ s2=>∃ x H',Inv X pins σ H' s2∧RelV x u∧J.yld i H x H'∧tn (i+1) s2.heap∧∀ b∈fp,H' b=none) E s1) E s
 done:∀ (X:Cx),X.prog=P→X.w=w→X.K=K→X.calm=true→∀ (i:Nat)(pins:List (Addr×Obj))(s:Shared)(σ:St)(H:Hp)(E:Value→Shared→Prop),Inv X pins σ H s→(∀ b∈fp,FpOk X pins H b)→tn i s.heap→J.stop i H →
  wpAny (model P w) X.A (pyNext (.ref it)) (fun r s1=>r=none∧Inv X pins σ H s1) E s
 self:∀ (A:Around)(i:Nat)(s:Shared)(Q:Value→Shared→Prop)(E:Value→Shared→Prop),tn i s.heap→Q (.ref it) s→wpAny (model P w) A (pyIter (.ref it)) Q E s
abbrev TI:=St→Hp→(It→Hp→Prop)→Prop
def PIE(X:Cx)(pins:List (Addr×Obj))(σ:St)(tg:Expr)(R:It→Hp→Prop)(itv:Value)(s2:Shared):Prop :=
 ∃ (it:Addr)(fp:List Addr)(tn:Nat→Heap→Prop)(J:It)(H':Hp),itv=.ref it∧Inv X pins σ H' s2∧Turn X.prog X.w X.K tg J fp it tn∧tn 0 s2.heap∧(∀ b∈fp,FpOk X pins H' b)∧R J H'
def PI(X:Cx)(tg iter:Expr)(wi:TI):Prop :=
 ∀ (pins:List (Addr×Obj))(s:Shared)(σ:St)(H:Hp)(R:It→Hp→Prop),Inv X pins σ H s→wi σ H R →
  wpAny (model X.prog X.w) X.A (eval iter X.env) (fun v s1=>wpAny (model X.prog X.w) X.A (pyIter v) (PIE X pins σ tg R) X.xe s1) X.xe s
theorem go_of{M:Model}{A:Around}{E:Value→Shared→Prop}{s:Shared}{tg:Expr}{it:Addr}{u:Value}{o:Obj}{n:String}{vs:Array Value}{Q:Unit→Shared→Prop}(ho:s.heap.get? it=some o)(hc:o.cls=.type n)(hd:o.data=.fields vs)
  (hn:["enumerate","zip","dict_itemiterator","dict_reverseitemiterator","odict_iterator","itertools.zip_longest","itertools.pairwise"].contains n=false)(hQ:Q () s):wpAny M A (letOwnedTupleGo tg (.ref it) u) Q E s:=by
 unfold letOwnedTupleGo
 cases tg<;>first
  |exact wpAny_pure hQ
  |(cases u<;>first
     |exact wpAny_pure hQ
     |(refine wpAny_bind (wpAny_load ho ?_)
       rw [hc,hd]
       show wpAny M A (if (["enumerate","zip","dict_itemiterator","dict_reverseitemiterator","odict_iterator","itertools.zip_longest","itertools.pairwise"].contains n&&vs[0]?==some (rawInt _))=true then _ else _) Q E s
       rw [if_neg (by intro h;rw [hn,Bool.false_and]at h;cases h)]
       exact wpAny_pure hQ))
def Itl(K:Z0a)(a:Addr):It :=
 ⟨fun i H=>∃ xs x,SqL K H a xs∧xs[i]?=some x,fun i H x H'=>H'=H∧∀ xs,SqL K H a xs→xs[i]?=some x,fun i H=>∃ xs,SqL K H a xs∧xs.length≤i⟩
def Itt(K:Z0a)(a:Addr):It :=
 ⟨fun i H=>∃ xs x,SqT K H a xs∧xs[i]?=some x,fun i H x H'=>H'=H∧∀ xs,SqT K H a xs→xs[i]?=some x,fun i H=>∃ xs,SqT K H a xs∧xs.length≤i⟩
def Itr(lo:Int)(n:Nat):It:=⟨fun i _=>i<n,fun i H x H'=>H'=H∧x=.int (lo+i),fun i _=>n≤i⟩
theorem ZaO{P:Program}{w:World}{K:Z0a}{tg:Expr}(a it:Addr):Turn P w K tg (Itl K a) [it] it (fun i h=>h.IsListIter it a i) where
 mem:=by simp
 obj:=fun i h st b hb=>by
  have e:b=it:=by simpa using hb
  subst e
  obtain⟨o,e,c,d⟩:=st
  exact⟨o,e,fun v z=>by rw [d]at z;cases z⟩
 keep:=fun i h h' st k=>st.at fun o e=>k it (by simp) o e
 item:=by
  intro X hP hw hK hc i pins s σ H E I hf st hg
  subst hP hw hK
  obtain⟨xs,x,hq,hx⟩:=hg
  obtain⟨its,rv,p,hz⟩:=I.list hq
  obtain⟨u,hu,ru⟩:=rv.get hx
  obtain⟨f0,f1,f2,f3,f4,f5⟩:=hf it (by simp)
  refine wpAny_pyNext_list_item st p.isList (x:=u) (by simpa using hu) fun h' st' sb=>?_
  have I1:Inv X pins σ H { s with heap:=h' }:=I.turned (t':=s.toks) (fun b o hb e=>(sb.2 b hb).trans e) f0 f1 f3 f4 f5
  obtain⟨o,e,c,d⟩:=id st'
  exact⟨u,rfl,go_of (s:={ s with heap:=h' }) e c d (by decide) ⟨x,H,I1,ru,⟨rfl,fun ys hy=>by rw [I.list_inj hy hq];exact hx⟩,st',fun b hb=>(hf b hb).1⟩⟩
 done:=by
  intro X hP hw hK hc i pins s σ H E I hf st hg
  subst hP hw hK
  obtain⟨xs,hq,hx⟩:=hg
  obtain⟨its,rv,p,hz⟩:=I.list hq
  obtain⟨f0,f1,f2,f3,f4,f5⟩:=hf it (by simp)
  have hl:=rv.length
  exact wpAny_pyNext_list_end (I.ok.hd hc) st p.isList (by simp;omega) fun h' eb=>⟨rfl,I.turned (t':=s.toks) (fun b o hb e=>eb b o hb e) f0 f1 f3 f4 f5⟩
 self:=fun _ _ _ _ _ st h=>wpAny_pyIter_listiter st h
theorem Zaw{P:Program}{w:World}{K:Z0a}{tg:Expr}(a it:Addr):Turn P w K tg (Itt K a) [it] it (fun i h=>h.IsTupleIter it a i) where
 mem:=by simp
 obj:=fun i h st b hb=>by
  have e:b=it:=by simpa using hb
  subst e
  obtain⟨o,e,c,d⟩:=st
  exact⟨o,e,fun v z=>by rw [d]at z;cases z⟩
 keep:=fun i h h' st k=>st.at fun o e=>k it (by simp) o e
 item:=by
  intro X hP hw hK hc i pins s σ H E I hf st hg
  subst hP hw hK
  obtain⟨xs,x,hq,hx⟩:=hg
  obtain⟨its,rv,p,hz⟩:=I.tuple hq
  obtain⟨u,hu,ru⟩:=rv.get hx
  obtain⟨f0,f1,f2,f3,f4,f5⟩:=hf it (by simp)
  refine wpAny_pyNext_tuple_item st (show s.heap.IsTuple a its.toArray from p) (x:=u) (by simpa using hu) fun h' st' sb=>?_
  have I1:Inv X pins σ H { s with heap:=h' }:=I.turned (t':=s.toks) (fun b o hb e=>(sb.2 b hb).trans e) f0 f1 f3 f4 f5
  obtain⟨o,e,c,d⟩:=id st'
  exact⟨u,rfl,go_of (s:={ s with heap:=h' }) e c d (by decide) ⟨x,H,I1,ru,⟨rfl,fun ys hy=>by rw [I.tuple_inj hy hq];exact hx⟩,st',fun b hb=>(hf b hb).1⟩⟩
 done:=by
  intro X hP hw hK hc i pins s σ H E I hf st hg
  subst hP hw hK
  obtain⟨xs,hq,hx⟩:=hg
  obtain⟨its,rv,p,hz⟩:=I.tuple hq
  obtain⟨f0,f1,f2,f3,f4,f5⟩:=hf it (by simp)
  have hl:=rv.length
  exact wpAny_pyNext_tuple_end (I.ok.hd hc) st (show s.heap.IsTuple a its.toArray from p) (by simp;omega) fun h' eb=>⟨rfl,I.turned (t':=s.toks) (fun b o hb e=>eb b o hb e) f0 f1 f3 f4 f5⟩
 self:=fun _ _ _ _ _ st h=>wpAny_pyIter_tupleiter st h
theorem ZaF{P:Program}{w:World}{K:Z0a}{tg:Expr}(it:Addr)(lo:Int)(n:Nat):Turn P w K tg (Itr lo n) [it] it (fun i h=>IsRangeIter h it (lo+(i:Nat)*1) ((n:Int)-(i:Nat)) 1) where
 mem:=by simp
 obj:=fun i h st b hb=>by
  have e:b=it:=by simpa using hb
  subst e
  exact⟨_,st,fun v z=>by
   have z':Data.fields _=Data.cell v:=z
   cases z'⟩
 keep:=fun i h h' st k=>k it (by simp) _ st
 item:=by
  intro X hP hw hK hc i pins s σ H E I hf st hg
  subst hP hw hK
  obtain⟨f0,f1,f2,f3,f4,f5⟩:=hf it (by simp)
  have W:=Walks.range (prog:=X.prog) (w:=X.w) (I.ok.hd hc) it lo 1 n
  refine W.item i s _ _ hg st fun v h' tk hv st' kk=>?_
  obtain⟨t,rfl⟩:=hv
  have I1:Inv X pins σ H { s with heap:=h',toks:=tk }:=I.turned (fun b o hb e=>kk b o (by simpa using hb) e) f0 f1 f3 f4 f5
  refine⟨_,rfl,go_of (s:={ s with heap:=h',toks:=tk }) (n:="range_iterator") st' rfl rfl (by decide) ⟨.int (lo+i),H,I1,⟨t,?_⟩,⟨rfl,rfl⟩,st',fun b hb=>(hf b hb).1⟩⟩
  rw [Int.mul_one]
 done:=by
  intro X hP hw hK hc i pins s σ H E I hf st hg
  subst hP hw hK
  obtain⟨f0,f1,f2,f3,f4,f5⟩:=hf it (by simp)
  exact wpAny_pyNext_range_end (I.ok.hd hc) st (by have:n≤i:=hg;omega) fun h' eb=>⟨rfl,I.turned (t':=s.toks) (fun b o hb e=>eb b o hb e) f0 f1 f3 f4 f5⟩
 self:=fun _ _ _ _ _ st h=>wpAny_pyIter_rangeiter st h
end L2
namespace L2
open PySem PySem.Spec PyProof.Rows
section
variable{X:Cx}{tg:Expr}
def iList(K:Z0a)(tl:TE):TI:=fun σ H R=>tl σ H fun x H1=>∃ a,x=.ref a∧(∃ xs,SqL K H1 a xs)∧R (Itl K a) H1
def iTup(K:Z0a)(tl:TE):TI:=fun σ H R=>tl σ H fun x H1=>∃ a,x=.ref a∧(∃ xs,SqT K H1 a xs)∧R (Itt K a) H1
theorem Z4W{l:Expr}{tl:TE}(hl:PE X l tl):PI X tg l (iList X.K tl):=by
 intro pins s σ H R I h
 refine thn (hl pins s σ H _ I h) fun v s1 ⟨x,H1,I1,r1,q1⟩=>?_
 obtain⟨a,e,⟨xs,hq⟩,q⟩:=q1
 subst e
 cases r1
 obtain⟨its,rv,p,hz⟩:=I1.list hq
 refine wpAny_pyIter_list p.isList ?_
 refine⟨s1.heap.objs.size,[s1.heap.objs.size],_,_,H1,rfl,I1.kept (t':=s1.toks) fun b o e=>Z0n _ e,ZaO a _,⟨_,Z0E _ rfl,rfl,rfl⟩,fun b hb=>?_,q⟩
 have e:b=s1.heap.objs.size:=by simpa using hb
 subst e
 exact I1.fpOk (Z0d _) (I1.hok.fresh (Z0d _))
theorem pi_tup{l:Expr}{tl:TE}(hl:PE X l tl):PI X tg l (iTup X.K tl):=by
 intro pins s σ H R I h
 refine thn (hl pins s σ H _ I h) fun v s1 ⟨x,H1,I1,r1,q1⟩=>?_
 obtain⟨a,e,⟨xs,hq⟩,q⟩:=q1
 subst e
 cases r1
 obtain⟨its,rv,p,hz⟩:=I1.tuple hq
 refine wpAny_pyIter_tuple (show s1.heap.IsTuple a its.toArray from p) ?_
 refine⟨s1.heap.objs.size,[s1.heap.objs.size],_,_,H1,rfl,I1.kept (t':=s1.toks) fun b o e=>Z0n _ e,Zaw a _,⟨_,Z0E _ rfl,rfl,rfl⟩,fun b hb=>?_,q⟩
 have e:b=s1.heap.objs.size:=by simpa using hb
 subst e
 exact I1.fpOk (Z0d _) (I1.hok.fresh (Z0d _))
theorem range_it{pins:List (Addr×Obj)}{σ:St}{H:Hp}{s:Shared}{R:It→Hp→Prop}{E:Value→Shared→Prop}{lo hi:Int}{t u v:Tok}{tk:Nat}(I:Inv X pins σ H s)(h1:-(2 ^ 62)≤lo)(h2:lo<2 ^ 62)(h3:-(2 ^ 62)≤hi)(h4:hi<2 ^ 62)
  (q:R (Itr lo (hi-lo).toNat) H):wpAny (model X.prog X.w) X.A (pyIter (.ref s.heap.objs.size)) (PIE X pins σ tg R) E { s with heap:=s.heap.push { cls:=.type "range",data:=.fields #[.int lo t,.int hi u,.int 1 v] },toks:=tk }:=by
 refine wpAny_pyIter_range (IsRange.new ..) (small_one h1 h2 h3 h4) ?_
 have I1:Inv X pins σ H { s with heap:=s.heap.push { cls:=.type "range",data:=.fields #[.int lo t,.int hi u,.int 1 v] },toks:=tk }:=I.kept fun b o e=>Z0n _ e
 refine⟨(s.heap.push { cls:=.type "range",data:=.fields #[.int lo t,.int hi u,.int 1 v] }).objs.size,[(s.heap.push { cls:=.type "range",data:=.fields #[.int lo t,.int hi u,.int 1 v] }).objs.size],_,_,H,rfl,
  I1.kept (t':=tk) fun b o e=>Z0n _ e,ZaF _ lo (hi-lo).toNat,?_,fun b hb=>?_,q⟩
 ·have e1:lo+((0:Nat):Int)*1=lo:=by simp
  have e2:(((hi-lo).toNat:Nat):Int)-((0:Nat):Int)=Builtin.Range.rangeSize lo hi 1:=by rw [rangeSize_one];split<;>omega
  show IsRangeIter _ _ (lo+((0:Nat):Int)*1) ((((hi-lo).toNat:Nat):Int)-((0:Nat):Int)) 1
  rw [e1,e2]
  exact Z0E _ rfl
 ·have e:b=(s.heap.push { cls:=.type "range",data:=.fields #[.int lo t,.int hi u,.int 1 v] }).objs.size:=by simpa using hb
  subst e
  exact I1.fpOk (Z0d _) (I1.hok.fresh (Z0d _))
def iRng1(ta:TA):TI:=fun σ H R=>ta σ H fun vs H1=>∃ j:Int,vs=[.int j]∧-(2 ^ 62)≤j∧j<2 ^ 62∧R (Itr 0 j.toNat) H1
theorem Z4J{a:Expr}{ta:TA}{p pos:Pos}(hg:Gl X "range")(hm:X.mg "range" = none)(ha:PA X [a] ta)(hs:starEach [a] X.env=[(false,eval a X.env)]:=by rfl):PI X tg (.Call (.Name "range" p) [a] [] pos) (iRng1 ta):=by
 intro pins s σ H R I h
 refine Call_ (Z5J I hg hm boot_range (PyProof.Rows.callWith_type1 (thn (ha pos pins s σ H _ I h) fun us s1 ⟨vs,H1,I1,r1,q1⟩=>?_) hs rfl))
 obtain⟨j,e,q1,q2,q⟩:=q1
 subst e
 cases r1 with
 |cons r rr =>
  cases rr
  obtain⟨t,rfl⟩:=r
  exact call_range_1 (range_it I1 (by omega) (by omega) q1 q2 (by simpa using q))
def tFor(wi:TI)(g:TG)(tb:TS):TS:=fun D σ H=>wi σ H fun J H1=>∃ W:Nat→Nat→St→Hp→Prop,(∃ m,W 0 m σ H1)∧∀ i m σ H,W i m σ H →
 (J.stop i H∧D.nx σ H)∨(J.go i H∧∃ N:St→Hp→Prop,(∀ σ' H',N σ' H'→∃ m',m' < m∧W (i+1) m' σ' H')∧∀ x H',J.yld i H x H'→g x σ H' fun σ2 H2=>tb { D with nx:=N,ct:=N,bk:=D.nx } σ2 H2)
def Z5B(fp:List Addr)(h:Heap):List (Addr×Obj):=fp.filterMap fun b=>(h.get? b).map fun o=>(b,o)
theorem Z4P{fp:List Addr}{h:Heap}{b:Addr}{o:Obj}(hb:b∈fp)(e:h.get? b=some o):(b,o)∈Z5B fp h:=List.mem_filterMap.mpr ⟨b,hb,by rw [e];rfl⟩
theorem Zbq{fp:List Addr}{h:Heap}{p:Addr×Obj}(hp:p∈Z5B fp h):p.1∈fp∧h.get? p.1=some p.2:=by
 obtain⟨b,hb,e⟩:=List.mem_filterMap.mp hp
 cases q:h.get? b with
 |none=>rw [q]at e;cases e
 |some o =>
  rw [q]at e
  have e':(b,o)=p:=Option.some.inj e
  subst e'
  exact⟨hb,q⟩
theorem Inv.pinned{pins:List (Addr×Obj)}{σ:St}{H:Hp}{s:Shared}{fp:List Addr}(I:Inv X pins σ H s)(hf:∀ b∈fp,FpOk X pins H b)(ho:∀ b∈fp,∃ o,s.heap.get? b=some o∧∀ v,o.data≠.cell v):Inv X (pins++Z5B fp s.heap) σ H s :=
 I.pins_of fun p hp=>(Z0m.mp hp).elim (fun z=>I.pin p (Z0L _ z)) fun z=>by
  obtain⟨hb,e⟩:=Zbq z
  obtain⟨f0,f1,f2,_⟩:=hf p.1 hb
  obtain⟨o,e',d⟩:=ho p.1 hb
  rw [e]at e';cases e'
  exact⟨e,f0,f1,f2,d⟩
theorem Inv.unpinned{pins pl:List (Addr×Obj)}{σ:St}{H:Hp}{s:Shared}(I:Inv X (pins++pl) σ H s):Inv X pins σ H s:=I.pins_of fun p hp=>I.pin p (Z0L _ (Z0M _ hp))
theorem Z3A{iter:Expr}{body:List Stmt}{wi:TI}{g:TG}{tb:TS}{pos:Pos}(hp:PassesOwn (model X.prog X.w) X.A X.env X.xe)(hc:X.calm=true)(hi:PI X tg iter wi)(hg:PG X tg g)(hb:PSs X body tb)
  (hs:∀ x,foldedSetIterable iter X.env x=pure x:=by intro _;rfl):PS X (.For tg iter body [] pos) (tFor wi g tb):=by
 intro pins s σ H D I h
 refine wpAny_For (thn (hi pins s σ H _ I h) fun v s1 h1=>thn h1 fun itv s2 h2=>?_) hs
 obtain⟨it,fp,tn,J,H2,e,I2,T,st2,f2,W,⟨m0,w0⟩,turn⟩:=h2
 subst e
 have stat:∀ {H':Hp},(∀ b∈fp,H' b=none)→∀ b∈fp,FpOk X pins H' b:=fun hn b hb=>⟨hn b hb,(f2 b hb).2⟩
 refine codeAny_forLoop_any (fun n s'=>∃ i σ' H',Inv X pins σ' H' s'∧tn i s'.heap∧(∀ b∈fp,H' b=none)∧W i n σ' H') ?_ m0 ⟨0,σ,H2,I2,st2,fun b hb=>(f2 b hb).1,w0⟩
 rintro n s3 ⟨i,σ3,H3,I3,st3,fr3,w3⟩
 rcases turn i n σ3 H3 w3 with⟨stop,qn⟩ |⟨go,N,hN,step⟩
 ·refine wpAny_passesOwn hp (thn (T.done X rfl rfl rfl hc i pins s3 σ3 H3 X.xe I3 (stat fr3) st3 stop) fun r s4 ⟨hr,I4⟩=>?_)
  subst hr
  exact wpAny_execs_nil ⟨σ3,H3,I4,qn⟩
 ·refine wpAny_passesOwn hp (thn (T.item X rfl rfl rfl hc i pins s3 σ3 H3 X.xe I3 (stat fr3) st3 go) fun r s4 ⟨u,hr,h4⟩=>?_)
  subst hr
  refine wpAny_passesOwn hp (thn h4 fun _ s5 ⟨x,H5,I5,r5,y5,st5,fr5⟩=>?_)
  have I5':=I5.pinned (stat fr5) (T.obj _ _ st5)
  refine wpAny_passesOwn hp (thn (hg _ s5 σ3 H5 x u _ I5' r5 (step x H5 y5)) fun _ s6 ⟨σ6,H6,I6,q6⟩=>?_)
  refine wpAny_passesOwn hp (thn (hb _ s6 σ6 H6 _ I6 q6) fun f s7 q7=>?_)
  have again:∀ {σ7:St}{H7:Hp},Inv X (pins++Z5B fp s5.heap) σ7 H7 s7→N σ7 H7→∃ m,m<n∧∃ i σ' H',Inv X pins σ' H' s7∧tn i s7.heap∧(∀ b∈fp,H' b=none)∧W i m σ' H':=fun{σ7 H7} I7 n7=>by
   obtain⟨m',hm,w7⟩:=hN σ7 H7 n7
   refine⟨m',hm,i+1,σ7,H7,I7.unpinned,T.keep _ _ _ st5 fun b hb o e=>(I7.pin (b,o) (Z0L _ (Z0L _ (Z4P hb e)))).1,fun b hb=>?_,w7⟩
   obtain⟨o,e,d⟩:=T.obj _ _ st5 b hb
   exact(I7.pin (b,o) (Z0L _ (Z0L _ (Z4P hb e)))).2.1
  cases f with
  |next=>obtain⟨σ7,H7,I7,n7⟩:=q7;exact again I7 n7
  |cont=>obtain⟨σ7,H7,I7,n7⟩:=q7;exact again I7 n7
  |brk=>obtain⟨σ7,H7,I7,q7⟩:=q7;exact⟨σ7,H7,I7.unpinned,q7⟩
  |ret v=>obtain⟨x7,σ7,H7,I7,r7,q7⟩:=q7;exact⟨x7,σ7,H7,I7.unpinned,r7,q7⟩
end
theorem Z5Q{K:Z0a}{a:Addr}{xs:List V}{g:TG}{tb:TS}{D:Ends}{σ:St}{H:Hp}(Pv:Nat→St→Hp→Prop)(h0:Pv 0 σ H)(hl:∀ i σ H,i≤xs.length→Pv i σ H→SqL K H a xs)
  (hs:∀ i x σ H,xs[i]?=some x→Pv i σ H→g x σ H fun σ2 H2=>tb { D with nx:=Pv (i+1),ct:=Pv (i+1),bk:=D.nx } σ2 H2)(hd:∀ σ H,Pv xs.length σ H→D.nx σ H) :
  ∃ W:Nat→Nat→St→Hp→Prop,(∃ m,W 0 m σ H)∧∀ i m σ H,W i m σ H →
   ((Itl K a).stop i H∧D.nx σ H)∨((Itl K a).go i H∧∃ N:St→Hp→Prop,(∀ σ' H',N σ' H'→∃ m',m' < m∧W (i+1) m' σ' H')∧∀ x H',(Itl K a).yld i H x H'→g x σ H' fun σ2 H2=>tb { D with nx:=N,ct:=N,bk:=D.nx } σ2 H2):=by
 refine⟨fun i m σ H=>m=xs.length-i∧i≤xs.length∧Pv i σ H,⟨xs.length,by simp,Z0p _,h0⟩,?_⟩
 rintro i m σ H ⟨rfl,hi,p⟩
 have q:=hl i σ H hi p
 by_cases hlt:i<xs.length
 ·refine .inr ⟨⟨xs,xs[i],q,by simp [hlt]⟩,Pv (i+1),fun σ' H' p'=>⟨xs.length-(i+1),by omega,rfl,hlt,p'⟩,fun x H' y=>?_⟩
  obtain⟨e,y⟩:=y
  subst e
  exact hs i x σ _ (y xs q) p
 ·have e:i=xs.length:=by omega
  subst e
  exact .inl ⟨⟨xs,q,Z0d _⟩,hd σ H p⟩
theorem Z9N{K:Z0a}{a:Addr}{xs:List V}{g:TG}{tb:TS}{D:Ends}{σ:St}{H:Hp}(Pv:Nat→St→Hp→Prop)(h0:Pv 0 σ H)(hl:∀ i σ H,i≤xs.length→Pv i σ H→SqT K H a xs)
  (hs:∀ i x σ H,xs[i]?=some x→Pv i σ H→g x σ H fun σ2 H2=>tb { D with nx:=Pv (i+1),ct:=Pv (i+1),bk:=D.nx } σ2 H2)(hd:∀ σ H,Pv xs.length σ H→D.nx σ H) :
  ∃ W:Nat→Nat→St→Hp→Prop,(∃ m,W 0 m σ H)∧∀ i m σ H,W i m σ H →
   ((Itt K a).stop i H∧D.nx σ H)∨((Itt K a).go i H∧∃ N:St→Hp→Prop,(∀ σ' H',N σ' H'→∃ m',m' < m∧W (i+1) m' σ' H')∧∀ x H',(Itt K a).yld i H x H'→g x σ H' fun σ2 H2=>tb { D with nx:=N,ct:=N,bk:=D.nx } σ2 H2):=by
 refine⟨fun i m σ H=>m=xs.length-i∧i≤xs.length∧Pv i σ H,⟨xs.length,by simp,Z0p _,h0⟩,?_⟩
 rintro i m σ H ⟨rfl,hi,p⟩
 have q:=hl i σ H hi p
 by_cases hlt:i<xs.length
 ·refine .inr ⟨⟨xs,xs[i],q,by simp [hlt]⟩,Pv (i+1),fun σ' H' p'=>⟨xs.length-(i+1),by omega,rfl,hlt,p'⟩,fun x H' y=>?_⟩
  obtain⟨e,y⟩:=y
  subst e
  exact hs i x σ _ (y xs q) p
 ·have e:i=xs.length:=by omega
  subst e
  exact .inl ⟨⟨xs,q,Z0d _⟩,hd σ H p⟩
theorem Zbe{lo:Int}{n:Nat}{g:TG}{tb:TS}{D:Ends}{σ:St}{H:Hp}(Pv:Nat→St→Hp→Prop)(h0:Pv 0 σ H)
  (hs:∀ i σ H,i<n→Pv i σ H→g (.int (lo+i)) σ H fun σ2 H2=>tb { D with nx:=Pv (i+1),ct:=Pv (i+1),bk:=D.nx } σ2 H2)(hd:∀ σ H,Pv n σ H→D.nx σ H) :
  ∃ W:Nat→Nat→St→Hp→Prop,(∃ m,W 0 m σ H)∧∀ i m σ H,W i m σ H →
   ((Itr lo n).stop i H∧D.nx σ H)∨((Itr lo n).go i H∧∃ N:St→Hp→Prop,(∀ σ' H',N σ' H'→∃ m',m' < m∧W (i+1) m' σ' H')∧∀ x H',(Itr lo n).yld i H x H'→g x σ H' fun σ2 H2=>tb { D with nx:=N,ct:=N,bk:=D.nx } σ2 H2):=by
 refine⟨fun i m σ H=>m=n-i∧i≤n∧Pv i σ H,⟨n,by simp,Z0p _,h0⟩,?_⟩
 rintro i m σ H ⟨rfl,hi,p⟩
 by_cases hlt:i<n
 ·refine .inr ⟨hlt,Pv (i+1),fun σ' H' p'=>⟨n-(i+1),by omega,rfl,hlt,p'⟩,fun x H' y=>?_⟩
  obtain⟨e,y⟩:=y
  subst e y
  exact hs i σ _ hlt p
 ·have e:i=n:=by omega
  subst e
  exact .inl ⟨Z0d _,hd σ H p⟩
theorem Z6b{c:TT}{tb:TS}{D:Ends}{σ:St}{H:Hp}(Pv:St→Hp→Prop)(μ:St→Hp→Nat)(h0:Pv σ H)
  (hs:∀ σ H,Pv σ H→c σ H fun b H1=>if b=true then tb { D with nx:=fun σ' H'=>Pv σ' H'∧μ σ' H' < μ σ H,ct:=fun σ' H'=>Pv σ' H'∧μ σ' H' < μ σ H,bk:=D.nx } σ H1 else D.nx σ H1)
  (mono:∀ σ H Q Q',(∀ b H1,Q b H1→Q' b H1)→c σ H Q→c σ H Q'):Z9x c tb D σ H:=by
 refine⟨fun m σ H=>m=μ σ H∧Pv σ H,⟨_,rfl,h0⟩,?_⟩
 rintro m σ H ⟨rfl,p⟩
 refine mono σ H _ _ (fun b H1 q=>?_) (hs σ H p)
 cases b with
 |true=>exact⟨_,fun σ' H' ⟨p',l⟩=>⟨_,l,rfl,p'⟩,q⟩
 |false=>exact q
end L2
namespace L2
open PySem PySem.Spec PyProof.Rows
abbrev R2:=V→V→Hp→VK→Prop
def OpR(X:Cx)(f:Value→Value→Sem Value)(r:R2):Prop :=
 ∀ (pins:List (Addr×Obj))(s:Shared)(σ:St)(H:Hp)(x y:V)(v u:Value)(Q:VK),Inv X pins σ H s→RelV x v→RelV y u→r x y H Q →
  wpAny (model X.prog X.w) X.A (f v u) (EP X pins σ Q) X.xe s
def UnR(X:Cx)(f:Value→Sem Value)(r:V→Hp→VK→Prop):Prop :=
 ∀ (pins:List (Addr×Obj))(s:Shared)(σ:St)(H:Hp)(x:V)(v:Value)(Q:VK),Inv X pins σ H s→RelV x v→r x H Q →
  wpAny (model X.prog X.w) X.A (f v) (EP X pins σ Q) X.xe s
def CallR(X:Cx)(f:Value)(r:List V→Hp→VK→Prop):Prop :=
 ∀ (pins:List (Addr×Obj))(s:Shared)(σ:St)(H:Hp)(xs:List V)(us:List Value)(Q:VK),Inv X pins σ H s→Vals xs us→r xs H Q →
  wpAny (model X.prog X.w) X.A (call f us) (EP X pins σ Q) X.xe s
def TruR(X:Cx)(r:V→Hp→(Bool→Hp→Prop)→Prop):Prop :=
 ∀ (pins:List (Addr×Obj))(s:Shared)(σ:St)(H:Hp)(x:V)(v:Value)(Q:Bool→Hp→Prop),Inv X pins σ H s→RelV x v→r x H Q →
  wpAny (model X.prog X.w) X.A (truthy v) (TP X pins σ Q) X.xe s
def tOp(r:R2)(ta tb:TE):TE:=fun σ H Q=>ta σ H fun x H1=>tb σ H1 fun y H2=>r x y H2 Q
def tUn(r:V→Hp→VK→Prop)(ta:TE):TE:=fun σ H Q=>ta σ H fun x H1=>r x H1 Q
def rI(C:Int→Int→Prop)(g:Int→Int→V):R2:=fun x y H Q=>∃ i j,x=.int i∧y=.int j∧C i j∧Q (g i j) H
def rI0(g:Int→Int→V):R2:=fun x y H Q=>∃ i j,x=.int i∧y=.int j∧Q (g i j) H
def rU(g:Int→V):V→Hp→VK→Prop:=fun x H Q=>∃ i,x=.int i∧Q (g i) H
section
variable{X:Cx}{a b c:Expr}{ta tb tc:TE}{pos:Pos}
theorem binT(ha:PE X a ta)(hb:PE X b tb){pins:List (Addr×Obj)}{s:Shared}{σ:St}{H:Hp}{R:V→V→Hp→Prop}(I:Inv X pins σ H s)
  (h:ta σ H fun x H1=>tb σ H1 fun y H2=>R x y H2){Q:Value→Shared→Prop}{f:Value→Value→Sem Value}
  (hf:∀ v u s2 x y H2,Inv X pins σ H2 s2→RelV x v→RelV y u→R x y H2→wpAny (model X.prog X.w) X.A (f v u) Q X.xe s2) :
  wpAny (model X.prog X.w) X.A (eval a X.env) (fun v s₁=>wpAny (model X.prog X.w) X.A (eval b X.env) (fun u s₂=>wpAny (model X.prog X.w) X.A (f v u) Q X.xe s₂) X.xe s₁) X.xe s:=by
 refine thn (ha pins s σ H _ I h) fun v s1 ⟨x,H1,I1,r1,q1⟩=>?_
 refine thn (hb pins s1 σ H1 _ I1 q1) fun u s2 ⟨y,H2,I2,r2,q2⟩=>?_
 exact hf v u s2 x y H2 I2 r1 r2 q2
theorem pe_op{op:Operator}{r:R2}(ho:OpR X (binaryOp op) r)(ha:PE X a ta)(hb:PE X b tb):PE X (.BinOp a op b pos) (tOp r ta tb):=by
 intro pins s σ H Q I h
 exact wpAny_BinOp (binT ha hb I h fun v u s2 x y H2 I2 rx ry q=>ho pins s2 σ H2 x y v u Q I2 rx ry q)
theorem pe_un{op:UnaryOp}{r:V→Hp→VK→Prop}(ho:UnR X (unaryOp op) r)(ha:PE X a ta):PE X (.UnaryOp op a pos) (tUn r ta):=by
 intro pins s σ H Q I h
 exact UnaryOp_ (thn (ha pins s σ H _ I h) fun v s1 ⟨x,H1,I1,r1,q1⟩=>ho pins s1 σ H1 x v Q I1 r1 q1)
theorem opI{f:Value→Value→Sem Value}{C:Int→Int→Prop}{g:Int→Int→Int}
  (rule:∀ (i j:Int)(t u:Tok)(s:Shared)(Q:Value→Shared→Prop)(E:Value→Shared→Prop),C i j→Q (.int (g i j) s.toks) { s with toks:=s.toks+1 }→wpAny (model X.prog X.w) X.A (f (.int i t) (.int j u)) Q E s) :
  OpR X f (rI C fun i j=>.int (g i j)):=by
 intro pins s σ H x y v u Q I rx ry h
 obtain⟨i,j,rfl,rfl,hc,q⟩:=h
 obtain⟨t,rfl⟩:=rx
 obtain⟨t',rfl⟩:=ry
 exact rule i j t t' s _ _ hc ⟨.int (g i j),H,I.tok _,⟨_,rfl⟩,q⟩
theorem opI0{f:Value→Value→Sem Value}{g:Int→Int→Int}
  (rule:∀ (i j:Int)(t u:Tok)(s:Shared)(Q:Value→Shared→Prop)(E:Value→Shared→Prop),Q (.int (g i j) s.toks) { s with toks:=s.toks+1 }→wpAny (model X.prog X.w) X.A (f (.int i t) (.int j u)) Q E s) :
  OpR X f (rI0 fun i j=>.int (g i j)):=by
 intro pins s σ H x y v u Q I rx ry h
 obtain⟨i,j,rfl,rfl,q⟩:=h
 obtain⟨t,rfl⟩:=rx
 obtain⟨t',rfl⟩:=ry
 exact rule i j t t' s _ _ ⟨.int (g i j),H,I.tok _,⟨_,rfl⟩,q⟩
theorem opB0{f:Value→Value→Sem Value}{g:Int→Int→Bool}
  (rule:∀ (i j:Int)(t u:Tok)(s:Shared)(Q:Value→Shared→Prop)(E:Value→Shared→Prop),Q (.bool (g i j)) s→wpAny (model X.prog X.w) X.A (f (.int i t) (.int j u)) Q E s) :
  OpR X f (rI0 fun i j=>.bl (g i j)):=by
 intro pins s σ H x y v u Q I rx ry h
 obtain⟨i,j,rfl,rfl,q⟩:=h
 obtain⟨t,rfl⟩:=rx
 obtain⟨t',rfl⟩:=ry
 exact rule i j t t' s _ _ ⟨.bl (g i j),H,I,rfl,q⟩
def CMul(i j:Int):Prop:=(-(2 ^ 64)<i∧i<2 ^ 64)∨(-(2 ^ 64)<j∧j<2 ^ 64)
theorem CMul.ok{i j:Int}(h:CMul i j):IntMulOk i j:=by
 rcases h with⟨h1,h2⟩ |⟨h1,h2⟩
 ·exact .of_left (intBits_le_64 h1 h2)
 ·exact .of_right (intBits_le_64 h1 h2)
theorem Z3p:OpR X (binaryOp .Add) (rI0 fun i j=>.int (i+j)):=opI0 fun _ _ _ _ _ _ _ q=>add_int q
theorem Z4j:OpR X (binaryOp .Sub) (rI0 fun i j=>.int (i-j)):=opI0 fun _ _ _ _ _ _ _ q=>sub_int q
theorem Z3I:OpR X (binaryOp .Mult) (rI CMul fun i j=>.int (i*j)):=opI fun _ _ _ _ _ _ _ hc q=>mul_int q hc.ok
theorem op_mod:OpR X (binaryOp .Mod) (rI (fun _ j=>0<j) fun i j=>.int (i % j)):=opI fun i j _ _ _ _ _ hc q=>by
 have h1:(0:Int)<j:=hc
 exact mod_int' (by omega) (by rw [Int.fmod_eq_emod_of_nonneg i (by omega)];exact q)
theorem unI{f:Value→Sem Value}{g:Int→Int}
  (rule:∀ (i:Int)(t:Tok)(s:Shared)(Q:Value→Shared→Prop)(E:Value→Shared→Prop),Q (.int (g i) s.toks) { s with toks:=s.toks+1 }→wpAny (model X.prog X.w) X.A (f (.int i t)) Q E s) :
  UnR X f (rU fun i=>.int (g i)):=by
 intro pins s σ H x v Q I rx h
 obtain⟨i,rfl,q⟩:=h
 obtain⟨t,rfl⟩:=rx
 exact rule i t s _ _ ⟨.int (g i),H,I.tok _,⟨_,rfl⟩,q⟩
theorem Z9d:UnR X (unaryOp .USub) (rU fun i=>.int (-i)):=unI fun _ _ _ _ _ q=>neg_int q
end
def scal:V→V→Bool
 |.non,.non=>true |.non,.int _=>true |.int _,.non=>true |.non,.bl _=>true |.bl _,.non=>true |.non,.str _=>true |.str _,.non=>true
 |.int _,.int _=>true |.bl _,.bl _=>true |.str _,.str _=>true |.byt _,.byt _=>true
 |.int _,.str _=>true |.str _,.int _=>true |.bl _,.str _=>true |.str _,.bl _=>true
 |_,_=>false
def rEq:R2:=fun x y H Q=>scal x y=true∧Q (.bl (decide (x=y))) H
def rNe:R2:=fun x y H Q=>scal x y=true∧Q (.bl (!decide (x=y))) H
theorem Zak{i j:Int}:decide (V.int i=V.int j)=(i==j):=by
 rw [Z1K]
 simp
theorem dec_bl{i j:Bool}:decide (V.bl i=V.bl j)=(i==j):=by
 rw [Z1K]
 simp
theorem Z9U{i j:Str}:decide (V.str i=V.str j)=(i==j):=by
 rw [Z1K]
 simp
theorem Zao{i j:Array UInt8}:decide (V.byt i=V.byt j)=(i.toList==j.toList):=by
 rw [Z1K]
 cases i
 cases j
 simp
section
variable{X:Cx}{a b c:Expr}{ta tb tc:TE}{pos:Pos}
theorem Z2I{pins:List (Addr×Obj)}{σ:St}{H:Hp}{s:Shared}{Q:VK}{k k':Bool}(I:Inv X pins σ H s)(q:Q (.bl k) H)(e:k=k'):EP X pins σ Q (.bool k') s:=by
 subst e
 exact⟨.bl k,H,I,rfl,q⟩
theorem op_eq:OpR X (compareOp .Eq) rEq:=by
 intro pins s σ H x y v u Q I rx ry h
 obtain⟨hs,q⟩:=h
 cases x with
 |non =>
  cases rx
  cases y with
  |non=>cases ry;exact PySem.EqNone.eq_none_none (Z2I I q (by simp))
  |bl j=>cases ry;exact PySem.EqNone.eq_none_bool (Z2I I q (by simp))
  |int j=>obtain⟨t',rfl⟩:=ry;exact PySem.EqNone.eq_none_int (Z2I I q (by simp))
  |str j=>obtain⟨t',rfl⟩:=ry;exact PySem.EqNone.eq_none_str (Z2I I q (by simp))
  |_=>exact absurd (show false=true from hs) Z0t
 |bl i =>
  cases rx
  cases y with
  |non=>cases ry;exact PySem.EqNone.eq_bool_none (Z2I I q (by simp))
  |bl j=>cases ry;exact eq_bool (Z2I I q dec_bl)
  |str j=>obtain⟨t',rfl⟩:=ry;exact PySem.EqMixed.eq_bool_str (Z2I I q (by simp))
  |_=>exact absurd (show false=true from hs) Z0t
 |int i =>
  obtain⟨t,rfl⟩:=rx
  cases y with
  |non=>cases ry;exact PySem.EqNone.eq_int_none (Z2I I q (by simp))
  |int j=>obtain⟨t',rfl⟩:=ry;exact eq_int (Z2I I q Zak)
  |str j=>obtain⟨t',rfl⟩:=ry;exact PySem.EqMixed.eq_int_str (Z2I I q (by simp))
  |_=>exact absurd (show false=true from hs) Z0t
 |str i =>
  obtain⟨t,rfl⟩:=rx
  cases y with
  |non=>cases ry;exact PySem.EqNone.eq_str_none (Z2I I q (by simp))
  |bl j=>cases ry;exact PySem.EqMixed.eq_str_bool (Z2I I q (by simp))
  |int j=>obtain⟨t',rfl⟩:=ry;exact PySem.EqMixed.eq_str_int (Z2I I q (by simp))
  |str j=>obtain⟨t',rfl⟩:=ry;exact eq_str (Z2I I q Z9U)
  |_=>exact absurd (show false=true from hs) Z0t
 |byt i =>
  obtain⟨t,rfl⟩:=rx
  cases y with
  |byt j=>obtain⟨t',rfl⟩:=ry;exact PySem.W.eq_bytes (Z2I I q Zao)
  |_=>exact absurd (show false=true from hs) Z0t
 |_=>cases y<;>exact absurd (show false=true from hs) Z0t
theorem op_ne:OpR X (compareOp .NotEq) rNe:=by
 intro pins s σ H x y v u Q I rx ry h
 obtain⟨hs,q⟩:=h
 cases x with
 |non =>
  cases rx
  cases y with
  |non=>cases ry;exact PySem.EqNone.ne_none_none (Z2I I q (by simp))
  |bl j=>cases ry;exact PySem.EqNone.ne_none_bool (Z2I I q (by simp))
  |int j=>obtain⟨t',rfl⟩:=ry;exact PySem.EqNone.ne_none_int (Z2I I q (by simp))
  |str j=>obtain⟨t',rfl⟩:=ry;exact PySem.EqNone.ne_none_str (Z2I I q (by simp))
  |_=>exact absurd (show false=true from hs) Z0t
 |bl i =>
  cases rx
  cases y with
  |non=>cases ry;exact PySem.EqNone.ne_bool_none (Z2I I q (by simp))
  |bl j=>cases ry;exact ne_bool (Z2I I q (congrArg not dec_bl))
  |str j=>obtain⟨t',rfl⟩:=ry;exact PySem.EqMixed.ne_bool_str (Z2I I q (by simp))
  |_=>exact absurd (show false=true from hs) Z0t
 |int i =>
  obtain⟨t,rfl⟩:=rx
  cases y with
  |non=>cases ry;exact PySem.EqNone.ne_int_none (Z2I I q (by simp))
  |int j=>obtain⟨t',rfl⟩:=ry;exact ne_int (Z2I I q (congrArg not Zak))
  |str j=>obtain⟨t',rfl⟩:=ry;exact PySem.EqMixed.ne_int_str (Z2I I q (by simp))
  |_=>exact absurd (show false=true from hs) Z0t
 |str i =>
  obtain⟨t,rfl⟩:=rx
  cases y with
  |non=>cases ry;exact PySem.EqNone.ne_str_none (Z2I I q (by simp))
  |bl j=>cases ry;exact PySem.EqMixed.ne_str_bool (Z2I I q (by simp))
  |int j=>obtain⟨t',rfl⟩:=ry;exact PySem.EqMixed.ne_str_int (Z2I I q (by simp))
  |str j=>obtain⟨t',rfl⟩:=ry;exact ne_str (Z2I I q (congrArg not Z9U))
  |_=>exact absurd (show false=true from hs) Z0t
 |byt i =>
  obtain⟨t,rfl⟩:=rx
  cases y with
  |byt j=>obtain⟨t',rfl⟩:=ry;exact PySem.W.ne_bytes (Z2I I q (congrArg not Zao))
  |_=>exact absurd (show false=true from hs) Z0t
 |_=>cases y<;>exact absurd (show false=true from hs) Z0t
theorem op_lt:OpR X (compareOp .Lt) (rI0 fun i j=>.bl (decide (i<j))):=opB0 fun _ _ _ _ _ _ _ q=>lt_int q
theorem op_le:OpR X (compareOp .LtE) (rI0 fun i j=>.bl (decide (i≤j))):=opB0 fun _ _ _ _ _ _ _ q=>le_int q
theorem op_gt:OpR X (compareOp .Gt) (rI0 fun i j=>.bl (decide (j<i))):=opB0 fun _ _ _ _ _ _ _ q=>gt_int q
theorem op_ge:OpR X (compareOp .GtE) (rI0 fun i j=>.bl (decide (j≤i))):=opB0 fun _ _ _ _ _ _ _ q=>ge_int q
theorem Z2D(b:Expr){op:CmpOp}(h:op≠.In:=by decide)(h2:op≠.NotIn:=by decide):behindInMarks op b=false:=by
 have e1:(op==CmpOp.In)=false:=by cases op<;>first |rfl |exact absurd rfl h
 have e2:(op==CmpOp.NotIn)=false:=by cases op<;>first |rfl |exact absurd rfl h2
 cases b<;>simp [behindInMarks,e1,e2]
theorem Z4e{op:CmpOp}{r:R2}(ho:OpR X (compareOp op) r)(ha:PE X a ta)(hb:PE X b tb)(hm:behindInMarks op b=false):PE X (.Compare a [op] [b] pos) (tOp r ta tb):=by
 intro pins s σ H Q I h
 exact wpAny_Compare1 (binT ha hb I h fun v u s2 x y H2 I2 rx ry q=>ho pins s2 σ H2 x y v u Q I2 rx ry q) hm
def tTest(t:TE):TT:=fun σ H Q=>t σ H fun x H'=>∃ k,x=.bl k∧Q k H'
theorem Z2G{op:CmpOp}{r:R2}(ho:OpR X (compareOp op) r)(ha:PE X a ta)(hb:PE X b tb)(hm:behindInMarks op b=false):PT X (.Compare a [op] [b] pos) (tTest (tOp r ta tb)):=by
 intro pins s σ H Q I h
 refine wpAny_isTrue_Compare1 (thn (ha pins s σ H _ I h) fun v s1 ⟨x,H1,I1,r1,q1⟩=>thn (hb pins s1 σ H1 _ I1 q1) fun u s2 ⟨y,H2,I2,r2,q2⟩ =>
  thn (ho pins s2 σ H2 x y v u _ I2 r1 r2 q2) fun c s3 ⟨z,H3,I3,r3,k,e,q3⟩=>?_) hm
 subst e
 cases r3
 exact wpAny_truthy_bool ⟨H3,I3,q3⟩
def TruV(K:Z0a)(x:V)(H:Hp)(k:Bool):Prop :=
 match x with
 |.non=>k=false
 |.bl b=>k=b
 |.int i=>k=(i != 0)
 |.str y=>y.length≤sizeLine∧k=((y.length:Int) != 0)
 |.byt y=>y.size≤sizeLine∧k=((y.size:Int) != 0)
 |.ref p=>(∃ xs,SqL K H p xs∧k = !xs.isEmpty)∨(∃ xs,SqT K H p xs∧k = !xs.isEmpty)∨∃ kvs,H p=some (.dK kvs)∧k = !kvs.isEmpty
 |_=>False
theorem Zax{κ:Type}{kvs:List (κ×V)}{vs:List (κ×Value)}(r:KV kvs vs):(!vs.isEmpty) = !kvs.isEmpty:=by
 cases r<;>rfl
theorem Z7y{xs:List V}{its:List Value}(r:Vals xs its):(!its.toArray.isEmpty) = !xs.isEmpty:=by
 cases r<;>simp
theorem Z5A:(sizeLine:Nat)<2 ^ 63:=by rw [sizeLine_eq];decide
theorem tru_ok:TruR X (fun x H Q=>∃ k,TruV X.K x H k∧Q k H):=by
 intro pins s σ H x v Q I rx h
 obtain⟨k,e,q⟩:=h
 have hl:=Z5A
 have hs:sizeLine=16777216:=sizeLine_eq
 cases x with
 |non =>
  cases rx
  have e':k=false:=e
  subst e'
  exact truthy_none ⟨H,I,q⟩
 |bl b =>
  cases rx
  have e':k=b:=e
  subst e'
  exact wpAny_truthy_bool ⟨H,I,q⟩
 |int i =>
  obtain⟨t,rfl⟩:=rx
  have e':k=(i != 0):=e
  subst e'
  exact PySem.P.truthy_int ⟨H,I,q⟩
 |str y =>
  obtain⟨t,rfl⟩:=rx
  obtain⟨hy,e'⟩:y.length≤sizeLine∧k=((y.length:Int) != 0):=e
  subst e'
  exact PySem.P.truthy_str (by omega) ⟨H,I.tok _,q⟩
 |byt y =>
  obtain⟨t,rfl⟩:=rx
  obtain⟨hy,e'⟩:y.size≤sizeLine∧k=((y.size:Int) != 0):=e
  subst e'
  exact PySem.W.truthy_bytes (by omega) ⟨H,I.tok _,q⟩
 |ref p =>
  cases rx
  have e':(∃ xs,SqL X.K H p xs∧k = !xs.isEmpty)∨(∃ xs,SqT X.K H p xs∧k = !xs.isEmpty)∨∃ kvs,H p=some (.dK kvs)∧k = !kvs.isEmpty:=e
  rcases e' with⟨xs,hx,e'⟩ |⟨xs,hx,e'⟩ |⟨kvs,hx,e'⟩
  ·subst e'
   obtain⟨its,r,pl,hz⟩:=I.list hx
   have hlen:=r.length
   exact wpAny_truthy_list pl.isList (by simp only [Z0s];omega) ⟨H,I.tok _,by rw [Z7y r];exact q⟩
  ·subst e'
   obtain⟨its,r,pl,hz⟩:=I.tuple hx
   have hlen:=r.length
   exact truthy_tuple pl (by simp only [Z0s];omega) ⟨H,I.tok _,by rw [Z7y r];exact q⟩
  ·subst e'
   obtain⟨hz,hS,vs,r,m⟩:kvs.length≤sizeLine∧(p==sysModules)=false∧∃ vs,KV kvs vs∧s.heap.DictOf (Z2V X.prog X.w) p vs:=I.hok p _ hx
   have hlen:kvs.length=vs.length:=Paired.length r
   exact wpAny_truthy_dict hS m (by omega) ⟨H,I.tok _,by rw [Zax r];exact q⟩
 |_=>exact(show False from e).elim
theorem pt_truth(ha:PE X a ta)(he:∀ whole,isTrue a X.env whole=(do let v ←whole;standAt a.pos;holding [v] (truthy v))) :
  PT X a (fun σ H Q=>ta σ H fun x H'=>∃ k,TruV X.K x H' k∧Q k H'):=by
 intro pins s σ H Q I h
 exact isTrue_plain (thn (ha pins s σ H _ I h) fun v s1 ⟨x,H1,I1,r1,q1⟩=>tru_ok pins s1 σ H1 x v Q I1 r1 q1) (he _)
theorem vals1{x:V}{us:List Value}(r:Vals [x] us):∃ u,us=[u]∧RelV x u:=by
 cases r with
 |cons r1 r2=>cases r2;exact⟨_,rfl,r1⟩
end
end L2
namespace L2
open PySem PySem.Spec PyProof.Rows
structure ObjM(h:Heap)(x dx C:Addr)(mA:Str→Option Value):Prop where
 obj:h.get? x=some (PySem.W.instObj C dx)
 ns:h.Ns1 dx mA
 ne:dx≠x
theorem Z8l{h:Heap}{dx:Addr}{mA:Str→Option Value}(n:h.Ns1 dx mA):∃ od,h.get? dx=some od∧∀ name,PySem.W.lookIn name od=some (mA name):=by
 obtain⟨o,es,ep,ho,hd,hk,_,hm⟩:=n
 refine⟨o,ho,fun name=>?_⟩
 have e:=hm name
 unfold nsFind findBy at e
 rw [←Array.find?_toList]at e
 unfold PySem.W.lookIn
 rw [hd]
 dsimp only
 split
 ·rename_i y q
  rw [q]at e
  exact congrArg some e
 ·rename_i q
  rw [q]at e
  have a:es.toList.any (·.refKey)=false:=by
   rw [List.any_eq_false]
   intro y hy
   obtain⟨z,t,hkey⟩:=hk y (Array.mem_toList_iff.mp hy)
   simp [DictEntry.refKey,hkey]
  have a':¬ es.toList.any (·.refKey)=true:=by rw [a];exact Z0t
  rw [if_neg a']
  exact congrArg some e
theorem ObjM.look{h:Heap}{x dx C:Addr}{mA:Str→Option Value}(I:ObjM h x dx C mA):∃ od,PySem.W.InstAt h x (PySem.W.instObj C dx) C (some od)∧∀ name,PySem.W.lookIn name od=some (mA name) :=
 let ⟨od,ho,hl⟩:=Z8l I.ns
 ⟨od,⟨I.obj,rfl,rfl,ho⟩,hl⟩
section
variable{prog:Program}{w:World}{A:Around}{E:Value→Shared→Prop}{s:Shared}{K:Z0a}{x dx C f:Addr}{mA:Str→Option Value}{name:Str}{v:Value}
theorem get_map{expr:Bool}{Q:Value→Shared→Prop}(X:K.In s.heap)(I:ObjM s.heap x dx C mA)(hg:PySem.W.plainGet K C name=true)(hh:PySem.W.hasDictIn K C=true)
  (ha:PySem.W.findIn K (.ref C) name=some none)(hv:mA name=some v)(hv':PySem.W.handedIn v=true)(h:Q v { s with toks:=s.toks+1 }) :
  wpAny (model prog w) A (getAttr (.ref x) name expr) Q E s:=by
 obtain⟨od,J,hl⟩:=I.look
 exact PySem.W.get_value X J (Z2b hg).1 (PySem.W.findObj_own hh ha rfl (by rw [hl,hv])) hv' h
theorem get_meth{pl:Sem Bool}{Q:Value×List Value→Shared→Prop}(X:K.In s.heap)(I:ObjM s.heap x dx C mA)(hg:PySem.W.plainGet K C name=true)
  (hf:PySem.W.findIn K (.ref C) name=some (some (.ref f)))(ht:PySem.W.isFn K (.ref f)=true)(hv:mA name=none)(h:Q (.ref f,[.ref x]) s) :
  wpAny (model prog w) A (getMethod (.ref x) name pl) Q E s:=by
 obtain⟨od,J,hl⟩:=I.look
 exact PySem.W.method_fn X J (Z2b hg).1 (Z2b hg).2 hf (beq_iff_eq.mp ht) (by show(PySem.W.lookIn name od).map (·.isSome)=some false;rw [hl,hv];rfl) h
theorem set_map{ns:List Str}{Q:Unit→Shared→Prop}(X:K.In s.heap)(I:ObjM s.heap x dx C mA)
  (hs:PySem.W.findIn K (.ref C) "__setattr__" = some (some (.builtin "object.__setattr__")))(hp:PySem.W.plainOver K C=true)(ht:PySem.W.takerIn K C name=some none)(hh:PySem.W.hasDictIn K C=true)
  (hw:PySem.Within mA ns)(hsz:ns.length≤sizeLine)
  (h:∀ h',ObjM h' x dx C (fun y=>if y=name then some v else mA y)→Heap.SameBut dx s.heap h'→Q () { s with heap:=h',toks:=s.toks+2 }) :
  wpAny (model prog w) A (setAttr (.ref x) name v) Q E s:=by
 obtain⟨od,J,hl⟩:=I.look
 refine PySem.W.set_plain X J hs (PySem.W.osa_open (s:={ s with toks:=s.toks+1 }) (r:=none) X J hp ht fun b=>?_)
 obtain⟨cd,hc,hd'⟩:=PySem.W.any_some hh
 have hx:s.heap.get? x=some ⟨.ref C,some dx,.plain,#[]⟩:=I.obj
 refine wpAny_bind (wpAny_pure (wpAny_bind (wpAny_bind (wpAny_loadPart hx (wpAny_bind (PySem.W.Looks.here (s:={ s with toks:=s.toks+1 }) (PySem.W.looks_clsIn X hc) ?_))))))
 rw [hd']
 refine wpAny_pure (a:=some dx) (wpAny_bind (wpAny_pure (wpAny_bind ?_)))
 refine wpAny_nsSet1 (s:={ s with toks:=s.toks+1 }) I.ns fun h' hn2 hs2=>?_
 obtain⟨oD,esD,epD,hoD,hdD,hcD⟩:=hn2.count (PySem.Within.cons name v hw)
 refine wpAny_bind (wpAny_lookBehind hoD (by rw [hdD];exact pastItsLine_dict (Z0A hcD (by rw [Z0q];omega))) ?_)
 exact wpAny_pure (h _ ⟨(hs2.2 _ (Ne.symm I.ne)).trans I.obj,hn2,I.ne⟩ hs2)
theorem make_map{R:Result→Shared→Prop}{vs:List Value}{kw:List (Str×Value)}(X:K.In s.heap)(hm:PySem.W.makesIn K C=true)
  (hi:PySem.W.findIn K (.ref C) "__init__" = some (some (.ref f)))(hf:PySem.W.typeIn K (.ref f)=some (.type "function"))
  (h:codeAny (model prog w) (A.under (.builtin "type.__call__" ⟨.ref C::vs,kw⟩)) (.call (.ref f) ⟨.ref (s.heap.objs.size+1)::vs,kw⟩) (PySem.W.InitBack (s.heap.objs.size+1) R)
    { s with heap:=(s.heap.push PySem.W.emptyDict).push (PySem.W.instObj C s.heap.objs.size) }) :
  codeAny (model prog w) A (.call (.ref C) ⟨vs,kw⟩) R s:=by
 obtain⟨hh,g,d,t,os⟩:=s
 exact PySem.W.make_core (PySem.W.makes_of X hm) (Z2c X hi) (fun self=>PySem.W.bind_fn X self hf) (.inl rfl) h
end
def putF(f:Str)(v:V):List (Str×V)→List (Str×V)
 |[]=>[(f,v)]
 |(g,x)::r=>if g=f then(g,v)::r else(g,x)::putF f v r
theorem Z6O(f g:Str)(v:V):∀ fs:List (Str×V),(putF f v fs).lookup g=if g=f then some v else fs.lookup g
 |[]=>by
  show List.lookup g [(f,v)]=_
  by_cases h:g=f
  ·have hb:(g==f)=true:=beq_iff_eq.mpr h
   simp only [List.lookup,hb,if_pos h]
  ·have hb:(g==f)=false:=beq_eq_false_iff_ne.mpr h
   simp only [List.lookup,hb,if_neg h]
 |(k,x)::r=>by
  have ih:=Z6O f g v r
  rw [show putF f v ((k,x)::r)=(if k=f then(k,v)::r else(k,x)::putF f v r)from rfl]
  by_cases hk:k=f
  ·rw [if_pos hk]
   by_cases h:g=k
   ·have hb:(g==k)=true:=beq_iff_eq.mpr h
    simp only [List.lookup,hb,if_pos (h.trans hk)]
   ·have hb:(g==k)=false:=beq_eq_false_iff_ne.mpr h
    simp only [List.lookup,hb,if_neg (fun e:g=f=>h (e.trans hk.symm))]
  ·rw [if_neg hk]
   by_cases h:g=k
   ·have hb:(g==k)=true:=beq_iff_eq.mpr h
    simp only [List.lookup,hb,if_neg (fun e:g=f=>hk (h.symm.trans e))]
   ·have hb:(g==k)=false:=beq_eq_false_iff_ne.mpr h
    simp only [List.lookup,hb]
    exact ih
theorem Z6t(f:Str)(v:V):∀ fs:List (Str×V),f∈(putF f v fs).map (·.1)∧∀ g,g∈fs.map (·.1)→g∈(putF f v fs).map (·.1)
 |[]=>⟨by simp [putF],fun g h=>by simp at h⟩
 |(k,x)::r=>by
  obtain⟨i1,i2⟩:=Z6t f v r
  rw [show putF f v ((k,x)::r)=(if k=f then(k,v)::r else(k,x)::putF f v r)from rfl]
  by_cases hk:k=f
  ·rw [if_pos hk]
   subst hk
   exact⟨by simp,fun g h=>by simpa using h⟩
  ·rw [if_neg hk]
   refine⟨?_,fun g h=>?_⟩
   ·rw [Z0D]
    exact Z0g _ i1
   ·rw [Z0D]at h ⊢
    rcases Z0e.mp h with e |e
    ·exact Z0e.mpr (.inl e)
    ·exact Z0g _ (i2 g e)
theorem Z6R(f:Str)(v:V):∀ fs:List (Str×V),(putF f v fs).length≤fs.length+1
 |[]=>by simp [putF]
 |(k,x)::r=>by
  have ih:=Z6R f v r
  rw [show putF f v ((k,x)::r)=(if k=f then(k,v)::r else(k,x)::putF f v r)from rfl]
  by_cases hk:k=f
  ·rw [if_pos hk,Z0q,Z0q];omega
  ·rw [if_neg hk,Z0q,Z0q];omega
theorem RelO.some_of{v:V}{o:Option Value}(r:RelO (some v) o):∃ u,o=some u∧RelV v u:=by
 cases o with
 |none=>exact(show False from r).elim
 |some u=>exact⟨u,rfl,r⟩
theorem RelO.none_of{o:Option Value}(r:RelO none o):o=none:=by
 cases o with
 |none=>rfl
 |some u=>exact(show False from r).elim
theorem Z8p{v:V}{u:Value}(r:RelV v u):PySem.W.handedIn u=true:=by
 cases v with
 |non=>cases (show u=Value.none from r);rfl
 |bl b=>cases (show u=Value.bool b from r);rfl
 |int i=>obtain⟨t,e⟩:=(show ∃ t,u=Value.int i t from r);cases e;rfl
 |str x=>obtain⟨t,e⟩:=(show ∃ t,u=Value.str x t from r);cases e;rfl
 |byt b=>obtain⟨t,e⟩:=(show ∃ t,u=Value.bytes b t from r);cases e;rfl
 |flt b=>obtain⟨t,e⟩:=(show ∃ t,u=Value.float b t from r);cases e;rfl
 |ref a=>cases (show u=Value.ref a from r);rfl
 |ty n=>cases (show u=Value.type n from r);rfl
section
variable{P:Program}{w:World}{H H':Hp}{h h':Heap}{a C dx:Addr}{fs fs':List (Str×V)}
theorem Z7V(hok:HOk P w H h)(e:H a=some (.ins C dx fs)):∃ mA,ObjM h a dx C mA∧(∀ f,RelO (fs.lookup f) (mA f))∧PySem.Within mA (fs.map (·.1))∧fs.length≤1000∧H dx=some (.own a):=by
 obtain⟨d,z,ne,ob,mA,n,r,q⟩:=(show ObjOk P w H h a (.ins C dx fs)from hok a _ e)
 exact⟨mA,⟨ob,n,ne⟩,r,q,z,d⟩
end
structure Cls(K:Z0a)(C:Addr):Prop where
 pg:PySem.W.plainGet K C Str.empty=true
 hd:PySem.W.hasDictIn K C=true
 po:PySem.W.plainOver K C=true
 sa:PySem.W.findIn K (.ref C) "__setattr__" = some (some (.builtin "object.__setattr__"))
theorem Cls.get{K:Z0a}{C:Addr}(c:Cls K C)(f:Str):PySem.W.plainGet K C f=true:=c.pg
def NoAttr(K:Z0a)(C:Addr)(f:Str):Prop:=PySem.W.findIn K (.ref C) f=some none
theorem NoAttr.taker{K:Z0a}{C:Addr}{f:Str}(n:NoAttr K C f):PySem.W.takerIn K C f=some none:=by
 unfold PySem.W.takerIn
 rw [show PySem.W.findIn K (.ref C) f=some none from n]
 rfl
structure Meth(K:Z0a)(C:Addr)(m:Str)(f:Addr):Prop where
 at_:PySem.W.findIn K (.ref C) m=some (some (.ref f))
 fn:PySem.W.isFn K (.ref f)=true
 kp:PySem.W.keepIn K (.ref f)=true
section
variable{X:Cx}{pins:List (Addr×Obj)}{σ:St}{H:Hp}{s:Shared}{a C dx:Addr}{fs:List (Str×V)}{f:Str}{v:V}{A:Around}{E:Value→Shared→Prop}
theorem Z7F{b:Bool}{Q:Value→Shared→Prop}(I:Inv X pins σ H s)(e:H a=some (.ins C dx fs))(c:Cls X.K C)(n:NoAttr X.K C f)(l:fs.lookup f=some v)
  (h:∀ u s',Inv X pins σ H s'→RelV v u→Q u s'):wpAny (model X.prog X.w) A (getAttr (.ref a) f b) Q E s:=by
 obtain⟨mA,O,r,_,_,_⟩:=Z7V I.hok e
 obtain⟨u,hu,ru⟩:=RelO.some_of (v:=v) (o:=mA f) (by rw [←l];exact r f)
 exact get_map I.kIn O (c.get f) c.hd n hu (Z8p ru) (h u _ (I.tok _) ru)
theorem Z5S{m:Str}{g:Addr}{pl:Sem Bool}{Q:Value×List Value→Shared→Prop}(I:Inv X pins σ H s)(e:H a=some (.ins C dx fs))(c:Cls X.K C)(k:Meth X.K C m g)(l:fs.lookup m=none)
  (h:Q (.ref g,[.ref a]) s):wpAny (model X.prog X.w) A (getMethod (.ref a) m pl) Q E s:=by
 obtain⟨mA,O,r,_,_,_⟩:=Z7V I.hok e
 have hn:mA m=none:=RelO.none_of (by rw [←l];exact r m)
 exact get_meth I.kIn O (c.get m) k.at_ k.fn hn h
theorem Z7m{y:V}{u:Value}{Q:Unit→Shared→Prop}(I:Inv X pins σ H s)(e:H a=some (.ins C dx fs))(c:Cls X.K C)(n:NoAttr X.K C f)(hl:fs.length<1000)(ry:RelV y u)
  (h:∀ s',Inv X pins σ (upd H a (.ins C dx (putF f y fs))) s'→Q () s'):wpAny (model X.prog X.w) A (setAttr (.ref a) f u) Q E s:=by
 obtain⟨mA,O,r,wi,_,ho⟩:=Z7V I.hok e
 have hz:(fs.map (·.1)).length≤sizeLine:=by rw [Z0b,sizeLine_eq];omega
 refine set_map I.kIn O c.sa c.po n.taker c.hd wi hz fun h' O' sb=>h _ ?_
 have hd:∃ o,h'.get? dx=some o:=let ⟨o,_,_,e',_⟩:=O'.ns;⟨o,e'⟩
 refine I.write (x:=a) (e:=dx) (by rw [e];exact True.intro) (.inr ho) (fun b q hb z=>(sb.2 b hb).trans z) hd ?_
 refine⟨by rw [Z2m O.ne];exact ho,?_,O.ne,O'.obj,_,O'.ns,fun g=>?_,fun g hg=>?_⟩
 ·have:=Z6R f y fs;omega
 ·show RelO ((putF f y fs).lookup g) (if g=f then some u else mA g)
  rw [Z6O]
  by_cases q:g=f
  ·rw [if_pos q,if_pos q];exact ry
  ·rw [if_neg q,if_neg q];exact r g
 ·by_cases q:g=f
  ·rw [q];exact(Z6t f y fs).1
  ·refine(Z6t f y fs).2 g (wi g fun z=>hg ?_)
   show(if g=f then some u else mA g)=none
   rw [if_neg q];exact z
theorem Inv.made(I:Inv X pins σ H s):Inv X pins σ (upd (upd H s.heap.objs.size (.own (s.heap.objs.size+1))) (s.heap.objs.size+1) (.ins C s.heap.objs.size []))
  { s with heap:=(s.heap.push PySem.W.emptyDict).push (PySem.W.instObj C s.heap.objs.size) }:=by
 have e1:(s.heap.push PySem.W.emptyDict).get? s.heap.objs.size=some PySem.W.emptyDict:=Z0E s.heap rfl
 have e2:((s.heap.push PySem.W.emptyDict).push (PySem.W.instObj C s.heap.objs.size)).get? (s.heap.objs.size+1)=some (PySem.W.instObj C s.heap.objs.size):=by
  have:=Z0E (s.heap.push PySem.W.emptyDict) (o:=PySem.W.instObj C s.heap.objs.size) rfl
  rwa [Z0I]at this
 have e3:(s.heap.push PySem.W.emptyDict).Ns s.heap.objs.size (fun _=>none):=⟨PySem.W.emptyDict,#[],_,e1,rfl,(fun e he=>absurd he (by simp)),fun _=>rfl⟩
 have I1:=I.laid (a:=s.heap.objs.size) (o:=.own (s.heap.objs.size+1)) (h':=s.heap.push PySem.W.emptyDict) (t':=s.toks) (fun b u q=>Z0n _ q) (Z0d _) ⟨_,e1⟩
 refine I1.laid (a:=s.heap.objs.size+1) (o:=.ins C s.heap.objs.size []) (t':=s.toks) (fun b u q=>Z0n _ q) (Z0Y (Z0I _ _)) ?_
 have ne:s.heap.objs.size≠s.heap.objs.size+1:=Z0o (Z1L _)
 refine⟨by rw [Z2m ne,Z2n],Z0p _,ne,e2,fun _=>none,(Heap.Ns1.of_empty e3).at fun o q=>Z0n _ q,fun _=>True.intro,fun y hy=>absurd rfl hy⟩
theorem Z9S{prog:Program}{w:World}{env:Env}{e:Expr}{f:Str}{pos:Pos}{s:Shared}{Q:Value→Shared→Prop}(hb:attributeBase e f env (eval e env)=eval e env)
  (h:wpAny (model prog w) A (eval e env) (fun o s₁=>wpAny (model prog w) A (getAttr o f true) Q E s₁) E s):wpAny (model prog w) A (eval (.Attribute e f pos) env) Q E s :=
 Attribute_any_ h (by rw [arm_eval_Attribute,hb])
end
def tFld(K:Z0a)(ta:TE)(f:Str):TE:=fun σ H Q=>ta σ H fun x H1=>∃ a C dx fs v,x=.ref a∧H1 a=some (.ins C dx fs)∧Cls K C∧NoAttr K C f∧fs.lookup f=some v∧Q v H1
def sFld(K:Z0a)(ta tv:TE)(f:Str):TS:=fun D σ H=>tv σ H fun y H1=>ta σ H1 fun x H2=>∃ a C dx fs,x=.ref a∧H2 a=some (.ins C dx fs)∧Cls K C∧NoAttr K C f∧fs.length<1000 ∧
 D.nx σ (upd H2 a (.ins C dx (putF f y fs)))
def InOp(X:Cx)(op:Operator)(rd:V→V→Hp→VK→Prop):Prop :=
 ∀ (pins:List (Addr×Obj))(s:Shared)(σ:St)(H:Hp)(x y:V)(u v:Value)(Q:VK),Inv X pins σ H s→RelV x u→RelV y v→rd x y H Q→wpAny (model X.prog X.w) X.A (inplaceOp op u v) (EP X pins σ Q) X.xe s
def sFldAug(K:Z0a)(ta tv:TE)(rd:V→V→Hp→VK→Prop)(f:Str):TS:=fun D σ H=>ta σ H fun x H1=>∃ a C dx fs v,x=.ref a∧H1 a=some (.ins C dx fs)∧Cls K C∧NoAttr K C f∧fs.lookup f=some v ∧
 tv σ H1 fun y H2=>rd v y H2 fun z H3=>∃ dx' fs',H3 a=some (.ins C dx' fs')∧fs'.length<1000∧D.nx σ (upd H3 a (.ins C dx' (putF f z fs')))
section
variable{X:Cx}{o e value:Expr}{f:Str}{pos pos' tpos:Pos}{ta tv:TE}
theorem Z2u(he:PE X e ta)(hb:attributeBase e f X.env (eval e X.env)=eval e X.env):PE X (.Attribute e f pos) (tFld X.K ta f):=by
 intro pins s σ H Q I h
 refine Z9S hb (thn (he pins s σ H _ I h) fun u s1 ⟨x,H1,I1,rx,a,C,dx,fs,v,ex,ea,c,n,l,q⟩=>?_)
 subst ex
 obtain rfl:u=Value.ref a:=rx
 exact Z7F I1 ea c n l fun u' s2 I2 ru=>⟨v,H1,I2,ru,q⟩
theorem Z2N(ha:PE X o ta)(hv:PE X value tv)(hs:swapsWith value (some (.Attribute o f pos')) pos.line X.env=pure false):PS X (.Assign [.Attribute o f pos'] value pos) (sFld X.K ta tv f):=by
 intro pins s σ H D I h
 refine plainObj_wpAny_Assign_Attribute (thn (hv pins s σ H _ I h) fun u s1 ⟨y,H1,I1,ry,q⟩=>thn (ha pins s1 σ H1 _ I1 q) fun ov s2 ⟨x,H2,I2,rx,a,C,dx,fs,ex,ea,c,n,l,q2⟩=>?_) hs
 subst ex
 obtain rfl:ov=Value.ref a:=rx
 exact Z7m I2 ea c n l ry fun s3 I3=>⟨σ,_,I3,q2⟩
theorem Zbl{op:Operator}{rd:V→V→Hp→VK→Prop}(ha:PE X o ta)(hv:PE X value tv)(hop:InOp X op rd):PS X (.AugAssign (.Attribute o f tpos) op value pos) (sFldAug X.K ta tv rd f):=by
 intro pins s σ H D I h
 refine wpAny_AugAssign_AttributeAny (thn (ha pins s σ H _ I h) fun ov s1 ⟨x,H1,I1,rx,a,C,dx,fs,v,ex,ea,c,n,l,q⟩=>?_)
 subst ex
 obtain rfl:ov=Value.ref a:=rx
 refine Z7F I1 ea c n l fun u s2 I2 ru=>thn (hv pins s2 σ H1 _ I2 q) fun w3 s3 ⟨y,H2,I3,ry,q3⟩=>thn (hop pins s3 σ H2 v y u w3 _ I3 ru ry q3) fun w4 s4 ⟨z,H3,I4,rz,dx',fs',ea',l',q4⟩=>?_
 exact Z7m I4 ea' c n l' rz fun s5 I5=>⟨σ,_,I5,q4⟩
def rAdd:V→V→Hp→VK→Prop:=fun x y H Q=>∃ i j,x=.int i∧y=.int j∧Q (.int (i+j)) H
theorem in_add:InOp X .Add rAdd:=by
 rintro pins s σ H x y u v Q I rx ry ⟨i,j,rfl,rfl,q⟩
 obtain⟨t,rfl⟩:=(show ∃ t,u=Value.int i t from rx)
 obtain⟨t',rfl⟩:=(show ∃ t',v=Value.int j t' from ry)
 exact PyProof.Rows.iadd_int ⟨.int (i+j),H,I.tok _,⟨_,rfl⟩,q⟩
theorem methcall_of{pl:Sem Bool}{m:Str}{apos:Pos}{args:List Expr}{pins:List (Addr×Obj)}{s:Shared}{σ:St}{H:Hp}{Q:Value→Shared→Prop}{te:TE}(he:PE X e te)(I:Inv X pins σ H s)
  (h:te σ H fun x H1=>∃ a C dx fs g,x=.ref a∧H1 a=some (.ins C dx fs)∧Cls X.K C∧Meth X.K C m g∧fs.lookup m=none ∧
    ∀ s1,Inv X pins σ H1 s1→wpAny (model X.prog X.w) X.A (callWith pos (.ref g) [.ref a] (backTo pos (starEach args X.env)) (backToKw pos (keywordEach [] X.env))) Q X.xe s1)
  (ht:eval (.Call (.Attribute e m apos) args [] pos) X.env=(do
    let ov ←eval e X.env
    standAt apos.atName
    let (f,first) ←holding [ov] (getMethod ov m pl)
    callWith pos f first (backTo pos (starEach args X.env)) (backToKw pos (keywordEach [] X.env)))) :
  wpAny (model X.prog X.w) X.A (eval (.Call (.Attribute e m apos) args [] pos) X.env) Q X.xe s:=by
 refine Z2d (pl:=pl) (thn (he pins s σ H _ I h) fun u s1 ⟨x,H1,I1,rx,a,C,dx,fs,g,ex,ea,c,k,l,q⟩=>?_) ht
 subst ex
 obtain rfl:u=Value.ref a:=rx
 exact Z5S I1 ea c k l (q s1 I1)
end
section
variable{X:Cx}{pins:List (Addr×Obj)}{σ:St}{H:Hp}{s:Shared}{A:Around}{E:Value→Shared→Prop}{Q:Value→Shared→Prop}{c:Value}{b:Bool}
end
end L2
namespace L2
open PySem PySem.Spec PyProof.Rows
structure Room(k:Nat)(A:Around):Prop where
 hd:A.handled=none
 dp:A.depth+3*k+5<recursionLimit
 un:A.units+16*k+200<cLine
theorem Room.mono{j k:Nat}{A:Around}(r:Room k A)(h:j≤k):Room j A:=⟨r.hd,by have:=r.dp;omega,by have:=r.un;omega⟩
theorem Room.deeper{k:Nat}{A:Around}(r:Room (k+1) A)(env:Env):Room k (A.deeper env) :=
 ⟨r.hd,by have:=r.dp;show A.depth+1+3*k+5<_;omega,by have:=r.un;show A.units+3+16*k+200<_;omega⟩
theorem Z7x{A:Around}{C:Addr}{us:List Value}{kw:List (Str×Value)}:(A.under (.builtin "type.__call__" ⟨.ref C::us,kw⟩)).depth=A.depth+1:=by
 first |rfl |simp [Around.under,Code.weight,Code.isCreation,Code.isGuard,Code.isCaller,Code.frames,Code.isFrame,guardIds]
theorem Zat{A:Around}{C:Addr}{us:List Value}{kw:List (Str×Value)}:(A.under (.builtin "type.__call__" ⟨.ref C::us,kw⟩)).units=A.units+1:=by
 first |rfl |simp [Around.under,Code.cUnits,Code.frames,Code.isFrame]
theorem Room.make{k:Nat}{A:Around}(r:Room (k+1) A)(C:Addr)(us:List Value)(kw:List (Str×Value)):Room k (A.under (.builtin "type.__call__" ⟨.ref C::us,kw⟩)) :=
 ⟨r.hd,by have:=r.dp;rw [Z7x];omega,by have:=r.un;rw [Zat];omega⟩
theorem Room.depth{k:Nat}{A:Around}(r:Room k A):A.depth<recursionLimit:=by have:=r.dp;omega
theorem Room.units{k:Nat}{A:Around}(r:Room k A):A.units+64<cLine:=by have:=r.un;omega
theorem Room.units0{k:Nat}{A:Around}(r:Room k A):A.units<cLine:=by have:=r.un;omega
def tNil:TA:=fun _ H Q=>Q [] H
def tCons(ta:TE)(tr:TA):TA:=fun σ H Q=>ta σ H fun x H1=>tr σ H1 fun xs H2=>Q (x::xs) H2
section
variable{X:Cx}{e:Expr}{es:List Expr}{te:TE}{t:TA}{pos:Pos}
theorem Z2q:PA X [] tNil:=fun _ _ _ _ H Q I h=>Calls.spliced_nil ⟨[],H,I,.nil,h⟩
theorem Z2l(ha:PE X e te)(hr:PA X es t)(hs:starEach (e::es) X.env=(false,eval e X.env)::starEach es X.env:=by rfl):PA X (e::es) (tCons te t):=by
 intro pos pins s σ H Q I h
 rw [hs]
 show wpAny _ _ (spliced ((false,eval e X.env)::backTo pos (starEach es X.env))) _ _ s
 refine Calls.spliced_cons (thn (ha pins s σ H _ I h) fun u s1 ⟨x,H1,I1,r1,q1⟩=>?_)
 exact thn (hr pos pins s1 σ H1 _ I1 q1) fun us s2 ⟨xs,H2,I2,r2,q2⟩=>⟨x::xs,H2,I2,.cons r1 r2,q2⟩
def tTup(t:TA):TE:=fun σ H Q=>t σ H fun xs H1=>xs.length≤sizeLine∧∀ p,H1 p=none→Q (.ref p) (upd H1 p (.tup xs))
def tLst(t:TA):TE:=fun σ H Q=>t σ H fun xs H1=>xs.length≤sizeLine∧∀ p,H1 p=none→Q (.ref p) (upd H1 p (.lst xs))
theorem Z4l{x1}(h:PA X es t):PE X (.Tuple es x1 pos) (tTup t):=by
 intro pins s σ H Q I hq
 refine wpAny_Tuple_spliced (thn (h pos pins s σ H _ I hq) fun us s1 ⟨xs,H1,I1,r,z,q⟩=>⟨by rw [←r.length];exact z,?_⟩)
 have hf:H1 s1.heap.objs.size=none:=I1.hok.fresh (Z0d _)
 refine⟨.ref s1.heap.objs.size,upd H1 s1.heap.objs.size (.tup xs),I1.laid (t':=s1.toks) (fun b u e=>Z0n _ e) (Z0d _) ?_,rfl,q _ hf⟩
 exact⟨z,us,r,⟨_,Z0E _ rfl,rfl,_,rfl⟩⟩
theorem Z3B(h:PA X es t):PE X (.List es pos) (tLst t):=by
 intro pins s σ H Q I hq
 refine wpAny_List_spliced (thn (h pos pins s σ H _ I hq) fun us s1 ⟨xs,H1,I1,r,z,q⟩=>⟨by rw [←r.length];exact z,?_⟩)
 have hf:H1 s1.heap.objs.size=none:=I1.hok.fresh (Z0d _)
 refine⟨.ref s1.heap.objs.size,upd H1 s1.heap.objs.size (.lst xs),I1.laid (t':=s1.toks) (fun b u e=>Z0n _ e) (Z0d _) ?_,rfl,q _ hf⟩
 exact⟨z,us,0,r,Z0E _ rfl⟩
end
abbrev Sp:=List V→Hp→VK→XK→Prop
abbrev CXT:=List Env→Hp→Shared→XK→Value→Shared→Prop
structure Env0(P:Program)(w:World)(K:Z0a)(mg:Str→Option Value)(base:Heap)(A:Around)(outer:List Env)(s:Shared)(H:Hp):Prop where
 frames:A.frames=some outer
 mod:Mod K mg base
 bs:∀ b o,base.get? b=some o→s.heap.get? b=some o∧H b=none
 bsz:base.objs.size≤s.heap.objs.size
 funs:s.heap.FunFrames base outer
 frf:∀ b∈frs outer,H b=none
 hok:HOk P w H s.heap
 bare:AllBare s.gens
def CE(outer:List Env)(P:Program)(w:World)(H:Hp)(s:Shared)(Q:VK)(u:Value)(s':Shared):Prop :=
 ∃ v H',s'.os=s.os∧AllBare s'.gens∧Un (frs outer) [] H H' s.heap s'.heap∧HOk P w H' s'.heap∧RelV v u∧Q v H'
def CR(CX:CXT)(outer:List Env)(P:Program)(w:World)(H:Hp)(s:Shared)(Q:VK)(E:XK)(r:Result)(s':Shared):Prop :=
 match r with
 |.ok (.ret u)=>CE outer P w H s Q u s'
 |.ok _=>False
 |.error e=>CX outer H s E e s'
structure FnOk(P:Program)(w:World)(K:Z0a)(mg:Str→Option Value)(base:Heap)(CX:CXT)(k:Nat)(f:Addr)(fd:FuncData)(ps:List Str)(sp:Sp):Prop where
 len:∀ vs H Q E,sp vs H Q E→vs.length=ps.length
 run:∀ (A:Around)(outer:List Env)(s:Shared)(H:Hp)(args:Args)(us:List Value)(vs:List V)(Q:VK)(E:XK),Room k A→Env0 P w K mg base A outer s H→BindsTo s fd args (ps.zip us)→Vals vs us→sp vs H Q E →
  codeAny (model P w) A (.call (.ref f) args) (CR CX outer P w H s Q E) s
theorem Env0.make{P:Program}{w:World}{K:Z0a}{mg:Str→Option Value}{base:Heap}{A:Around}{outer:List Env}{s:Shared}{H:Hp}(e:Env0 P w K mg base A outer s H)(C:Addr)(us:List Value)(kw:List (Str×Value)) :
  Env0 P w K mg base (A.under (.builtin "type.__call__" ⟨.ref C::us,kw⟩)) outer s H:=⟨by first |exact e.frames |(simpa [Around.under,Code.envs,Code.isFrame,pushEnvs]using e.frames),e.mod,e.bs,e.bsz,e.funs,e.frf,e.hok,e.bare⟩
section
variable{X:Cx}{pins:List (Addr×Obj)}{σ:St}{H:Hp}{s s':Shared}
theorem Inv.env0(I:Inv X pins σ H s):Env0 X.prog X.w X.K X.mg X.base X.A X.stack s H :=
 ⟨I.ok.frames,I.ok.mod,I.bs,Z0A I.ok.bsz I.sz,I.stack,I.stkFree,I.hok,I.bare⟩
theorem Inv.after{Q:VK}{u:Value}(I:Inv X pins σ H s)(h:CE X.stack X.prog X.w H s Q u s'):EP X pins σ Q u s':=by
 obtain⟨v,H',os,bare,un,hok,r,q⟩:=h
 obtain⟨hh,g,d,t,os'⟩:=s'
 obtain rfl:os'=s.os:=os
 exact⟨v,H',I.call (h':=hh) (g':=g) (d':=d) (t':=t) (ch:=[]) un hok bare (fun b z=>absurd z (by simp)),r,q⟩
end
def tCall(sp:Sp)(dvs:List V)(E:XK)(t:TA):TE:=fun σ H Q=>t σ H fun vs H1=>sp (vs++dvs) H1 Q E
def tMeth(C:Addr)(m:Str)(sp:Sp)(dvs:List V)(E:XK)(ta:TE)(t:TA):TE:=fun σ H Q=>ta σ H fun x H1=>∃ a dx fs,x=.ref a∧H1 a=some (.ins C dx fs)∧fs.lookup m=none ∧
 t σ H1 fun vs H2=>sp (x::(vs++dvs)) H2 Q E
def tMake(C:Addr)(sp:Sp)(dvs:List V)(E:XK)(t:TA):TE:=fun σ H Q=>t σ H fun vs H1=>∀ x dx,H1 x=none→H1 dx=none→dx≠x →
 sp (.ref x::(vs++dvs)) (upd (upd H1 dx (.own x)) x (.ins C dx [])) (fun v H2=>v=.non∧Q (.ref x) H2) E
def Binds(K:Z0a)(fd:FuncData)(ps:List Str)(ds:List Value):Prop :=
 ∀ (s:Shared)(us:List Value),K.In s.heap→(us++ds).length=ps.length→BindsTo s fd ⟨us,[]⟩ (ps.zip (us++ds))
theorem Binds.all{K:Z0a}{fd:FuncData}{ps:List Str}(h:∀ us:List Value,us.length=ps.length→bindArgs fd ⟨us,[]⟩=pure (ps.zip us)):Binds K fd ps []:=fun s us _ hl=>by
 rw [Z0F]at hl ⊢
 exact .of_eq (h us hl)
def Z3g(CX:CXT)(X:Cx)(E:XK):Prop:=∀ (pins:List (Addr×Obj))(σ:St)(H:Hp)(s:Shared)(e:Value)(s':Shared),Inv X pins σ H s→CX X.stack H s E e s'→X.xe e s'
section
variable{X:Cx}{CX:CXT}{k:Nat}{f C:Addr}{fd:FuncData}{ps:List Str}{sp:Sp}{dvs:List V}{ds:List Value}{E:XK}{x m:Str}{p pos apos:Pos}{e o:Expr}{es:List Expr}{ta:TE}{t:TA}
theorem Z7r{pins:List (Addr×Obj)}{σ:St}{H:Hp}{s:Shared}{Q:VK}{us:List Value}{vs:List V}(F:FnOk X.prog X.w X.K X.mg X.base CX k f fd ps sp)(hr:Room k X.A)(hb:Binds X.K fd ps ds)(hd:Vals dvs ds)(hx:Z3g CX X E)
  (I:Inv X pins σ H s)(r:Vals vs us)(h:sp (vs++dvs) H Q E):wpAny (model X.prog X.w) X.A (call (.ref f) us) (EP X pins σ Q) X.xe s:=by
 have r2:Vals (vs++dvs) (us++ds):=r.append hd
 have hl:(us++ds).length=ps.length:=by rw [←r2.length];exact F.len _ _ _ _ h
 refine wpAny_call (codeAny_mono (F.run X.A X.stack s H ⟨us,[]⟩ (us++ds) (vs++dvs) Q E hr I.env0 (hb s us I.kIn hl) r2 h) fun r s' hq=>?_)
 cases r with
 |error e=>exact hx pins σ H s e s' I hq
 |ok fl =>
  cases fl with
  |ret u=>exact I.after hq
  |next=>exact False.elim hq
  |brk=>exact False.elim hq
  |cont=>exact False.elim hq
theorem Z2B(F:FnOk X.prog X.w X.K X.mg X.base CX k f fd ps sp)(hr:Room k X.A)(hg:Gl X x)(hm:X.mg x=some (.ref f))(hk:PySem.W.keepIn X.K (.ref f)=true)(hb:Binds X.K fd ps ds)(hd:Vals dvs ds)(hx:Z3g CX X E)
  (ha:PA X (e::es) t)(hdb:(x==("__debug__" : Str))=false:=by decide)(he:starEach (e::es) X.env=(false,eval e X.env)::starEach es X.env:=by rfl)(hpl:(backTo pos (starEach es X.env)).any (·.1)=false:=by rfl) :
  PE X (.Call (.Name x p) (e::es) [] pos) (tCall sp dvs E t):=by
 intro pins s σ H Q I h
 refine wpAny_Call_Name_kw (Z3r I hg hm ?_ hdb)
 refine Z0Z (h₀:=X.base) I.ok.mod.kin hk (thn (ha pos pins s σ H _ I h) fun us s1 ⟨vs,H1,I1,r,q⟩=>⟨I1.kIn,?_⟩) he hpl
 exact Z7r F hr hb hd hx I1 r q
theorem Z2A{pl:Sem Bool}(he:PE X o ta)(c:Cls X.K C)(hm:Meth X.K C m f)(F:FnOk X.prog X.w X.K X.mg X.base CX k f fd ps sp)(hr:Room k X.A)(hb:Binds X.K fd ps ds)(hd:Vals dvs ds)(hx:Z3g CX X E)(ha:PA X (e::es) t)
  (hst:starEach (e::es) X.env=(false,eval e X.env)::starEach es X.env:=by rfl)(hpl:(backTo pos (starEach es X.env)).any (·.1)=false:=by rfl)
  (ht:eval (.Call (.Attribute o m apos) (e::es) [] pos) X.env=(do
    let ov ←eval o X.env
    standAt apos.atName
    let (f,first) ←holding [ov] (getMethod ov m pl)
    callWith pos f first (backTo pos (starEach (e::es) X.env)) (backToKw pos (keywordEach [] X.env))):=by rfl) :
  PE X (.Call (.Attribute o m apos) (e::es) [] pos) (tMeth C m sp dvs E ta t):=by
 intro pins s σ H Q I h
 refine Z2d (pl:=pl) (thn (he pins s σ H _ I h) fun u s1 ⟨x,H1,I1,rx,a,dx,fs,ex,ea,l,q⟩=>?_) ht
 subst ex
 obtain rfl:u=Value.ref a:=rx
 refine Z5S I1 ea c hm l ?_
 refine Z0Z (first:=[.ref a]) (h₀:=X.base) I.ok.mod.kin hm.kp (thn (ha pos pins s1 σ H1 _ I1 q) fun us s2 ⟨vs,H2,I2,r,q2⟩=>⟨I2.kIn,?_⟩) hst hpl
 exact Z7r (us:=.ref a::us) (vs:=.ref a::vs) F hr hb hd hx I2 (.cons rfl r) q2
theorem Z7f{pl:Sem Bool}(he:PE X o ta)(c:Cls X.K C)(hm:Meth X.K C m f)(F:FnOk X.prog X.w X.K X.mg X.base CX k f fd ps sp)(hr:Room k X.A)(hb:Binds X.K fd ps ds)(hd:Vals dvs ds)(hx:Z3g CX X E)
  (ht:eval (.Call (.Attribute o m apos) [] [] pos) X.env=(do
    let ov ←eval o X.env
    standAt apos.atName
    let (f,first) ←holding [ov] (getMethod ov m pl)
    callWith pos f first (backTo pos (starEach [] X.env)) (backToKw pos (keywordEach [] X.env))):=by rfl) :
  PE X (.Call (.Attribute o m apos) [] [] pos) (tMeth C m sp dvs E ta tNil):=by
 intro pins s σ H Q I h
 refine Z2d (pl:=pl) (thn (he pins s σ H _ I h) fun u s1 ⟨x,H1,I1,rx,a,dx,fs,ex,ea,l,q⟩=>?_) ht
 subst ex
 obtain rfl:u=Value.ref a:=rx
 refine Z5S I1 ea c hm l ?_
 exact PySem.W.callWith_K0 (first:=[.ref a]) I1.kIn hm.kp (Z7r (us:=[.ref a]) (vs:=[.ref a]) F hr hb hd hx I1 (.cons rfl .nil) q)
structure Mk(K:Z0a)(C f:Addr):Prop where
 makes:PySem.W.makesIn K C=true
 init:PySem.W.findIn K (.ref C) "__init__" = some (some (.ref f))
 fn:PySem.W.isFn K (.ref f)=true
 kp:PySem.W.keepIn K (.ref C)=true
theorem run_make{pins:List (Addr×Obj)}{σ:St}{H:Hp}{s:Shared}{Q:VK}{us:List Value}{vs:List V}(M:Mk X.K C f)(F:FnOk X.prog X.w X.K X.mg X.base CX k f fd ps sp)(hr:Room (k+1) X.A)(hb:Binds X.K fd ps ds)(hd:Vals dvs ds)
  (hx:Z3g CX X E)(I:Inv X pins σ H s)(r:Vals vs us)
  (h:∀ x dx,H x=none→H dx=none→dx≠x→sp (.ref x::(vs++dvs)) (upd (upd H dx (.own x)) x (.ins C dx [])) (fun v H2=>v=.non∧Q (.ref x) H2) E) :
  wpAny (model X.prog X.w) X.A (call (.ref C) us) (EP X pins σ Q) X.xe s:=by
 have hq:=h (s.heap.objs.size+1) s.heap.objs.size (I.hok.fresh (Nat.le_succ _)) (I.hok.fresh (Z0d _)) (Z0o (Z1L _))
 have I2:=Inv.made (C:=C) I
 have r2:Vals (V.ref (s.heap.objs.size+1)::(vs++dvs)) (Value.ref (s.heap.objs.size+1)::(us++ds)):=.cons rfl (r.append hd)
 have hl:(Value.ref (s.heap.objs.size+1)::us++ds).length=ps.length:=by
  have e:=r2.length
  rw [F.len _ _ _ _ hq]at e
  exact e.symm
 refine wpAny_call (make_map (f:=f) I.kIn M.makes M.init (beq_iff_eq.mp M.fn) (codeAny_mono (F.run _ X.stack _ _ ⟨Value.ref (s.heap.objs.size+1)::us,[]⟩ (Value.ref (s.heap.objs.size+1)::(us++ds)) _ _ E (hr.make C us [])
  (I2.env0.make C us []) (hb _ (Value.ref (s.heap.objs.size+1)::us) I2.kIn hl) r2 hq) fun r s' hq'=>?_))
 cases r with
 |error e=>exact hx pins σ _ _ e s' I2 hq'
 |ok fl =>
  cases fl with
  |ret u =>
   obtain⟨v,H',I3,rv,ev,q3⟩:=I2.after hq'
   subst ev
   exact⟨rv,⟨V.ref (s.heap.objs.size+1),H',I3,rfl,q3⟩⟩
  |next=>exact False.elim hq'
  |brk=>exact False.elim hq'
  |cont=>exact False.elim hq'
theorem Z3M(M:Mk X.K C f)(F:FnOk X.prog X.w X.K X.mg X.base CX k f fd ps sp)(hr:Room (k+1) X.A)(hg:Gl X x)(hm:X.mg x=some (.ref C))(hb:Binds X.K fd ps ds)(hd:Vals dvs ds)(hx:Z3g CX X E)
  (ha:PA X (e::es) t)(hdb:(x==("__debug__" : Str))=false:=by decide)(he:starEach (e::es) X.env=(false,eval e X.env)::starEach es X.env:=by rfl)(hpl:(backTo pos (starEach es X.env)).any (·.1)=false:=by rfl) :
  PE X (.Call (.Name x p) (e::es) [] pos) (tMake C sp dvs E t):=by
 intro pins s σ H Q I h
 refine wpAny_Call_Name_kw (Z3r I hg hm ?_ hdb)
 refine Z0Z (h₀:=X.base) I.ok.mod.kin M.kp (thn (ha pos pins s σ H _ I h) fun us s1 ⟨vs,H1,I1,r,q⟩=>⟨I1.kIn,?_⟩) he hpl
 exact run_make M F hr hb hd hx I1 r q
end
section
variable{X:Cx}{CX:CXT}{k:Nat}{f C:Addr}{fd:FuncData}{ps ks:List Str}{sp:Sp}{E:XK}{x m:Str}{p pos apos kpos:Pos}{e o:Expr}{es:List Expr}{kws:List Keyword}{te ta:TE}{t tk:TA}{nm:Option Str}
variable{g:List Value→List Value→List Value}{gV:List V→List V→List V}
end
structure Z2v(N P:List Str)(sc:Scope):Prop where
 kind:sc.kind=.function
 co:sc.isCoroutine=false
 gen:sc.isGenerator=false
 nd:N.Nodup
 pre:N.take P.length=P
 par:∀ x∈P,sc.names.lookup x=some .local∨sc.names.lookup x=some .cell
 nofree:∀ y∈sc.names,y.2≠.free
theorem Z8o{kindOf:Str→Option NameKind}{x:Str}:∀ {binds:List (Str×Value)}{m:Str→Option Value},(∀ v,(x,v)∉binds)→bindL kindOf binds m x=m x
 |[],_,_=>rfl
 |(n,v)::r,m,h=>by
  unfold bindL
  rw [Z8o fun w hw=>h w (Z0g _ hw)]
  split
  ·have:x≠n:=by rintro rfl;exact h v Z0h
   simp [this]
  ·rfl
theorem Z8k{kindOf:Str→Option NameKind}{x:Str}:∀ {binds:List (Str×Value)}{m:Str→Option Value},(∀ v,(x,v)∉binds)→bindC kindOf binds m x=m x
 |[],_,_=>rfl
 |(n,v)::r,m,h=>by
  unfold bindC
  rw [Z8k fun w hw=>h w (Z0g _ hw)]
  split
  ·rfl
  ·have:x≠n:=by rintro rfl;exact h v Z0h
   simp [this]
theorem Z6q{kindOf:Str→Option NameKind}{x:Str}{v:Value}:∀ {P:List Str}{vs:List Value}{i:Nat}{m:Str→Option Value},P.Nodup→P[i]?=some x→vs[i]?=some v→kindOf x=some .local →
  bindL kindOf (P.zip vs) m x=some v
 |[],_,_,_,_,h,_,_=>by simp at h
 |_::_,[],_,_,_,_,h,_=>by simp at h
 |p::P,w::vs,0,m,nd,h1,h2,hk=>by
  simp at h1 h2;subst h1;subst h2
  show bindL kindOf ((p,w)::P.zip vs) m p=_
  unfold bindL
  rw [Z8o fun v hv=>(Z0N.mp nd).1 (Z0P hv).1,if_pos hk]
  simp
 |p::P,w::vs,i+1,m,nd,h1,h2,hk=>by
  show bindL kindOf ((p,w)::P.zip vs) m x=_
  unfold bindL
  exact Z6q (i:=i) (Z0N.mp nd).2 (by simpa using h1) (by simpa using h2) hk
theorem Z8a{kindOf:Str→Option NameKind}{x:Str}{v:Value}:∀ {P:List Str}{vs:List Value}{i:Nat}{m:Str→Option Value},P.Nodup→P[i]?=some x→vs[i]?=some v→kindOf x≠some .local →
  bindC kindOf (P.zip vs) m x=some v
 |[],_,_,_,_,h,_,_=>by simp at h
 |_::_,[],_,_,_,_,h,_=>by simp at h
 |p::P,w::vs,0,m,nd,h1,h2,hk=>by
  simp at h1 h2;subst h1;subst h2
  show bindC kindOf ((p,w)::P.zip vs) m p=_
  unfold bindC
  rw [Z8k fun v hv=>(Z0N.mp nd).1 (Z0P hv).1,if_neg hk]
  simp
 |p::P,w::vs,i+1,m,nd,h1,h2,hk=>by
  show bindC kindOf ((p,w)::P.zip vs) m x=_
  unfold bindC
  exact Z8a (i:=i) (Z0N.mp nd).2 (by simpa using h1) (by simpa using h2) hk
def start(N:List Str)(vs:List V):St:=vs.map some++List.replicate (N.length-vs.length) none
def cxOf(CX:CXT)(P:Program)(w:World)(K:Z0a)(mg:Str→Option Value)(base:Heap)(N:List Str)(qual:Str)(scope:Scope)(f:Addr)(cd:Value)(A:Around)(outer:List Env)(s:Shared)(H:Hp)(E:XK):Cx where
 prog:=P
 w:=w
 K:=K
 mg:=mg
 base:=base
 A:=A.deeper (envOfC qual scope s.heap.objs.size f cd)
 N:=N
 s_0:=s
 H_0:=H
 env:=envOfC qual scope s.heap.objs.size f cd
 outer:=outer
 stack:=envOfC qual scope s.heap.objs.size f cd::outer
 ex:=[]
 calm:=true
 fn:=fun _=>true
 pn:=[]
 xe:=fun e s'=>wpAny (model P w) (A.deeper (envOfC qual scope s.heap.objs.size f cd)) (leaving (envOfC qual scope s.heap.objs.size f cd) e) (fun _ s''=>CX outer H s E e s'') (fun e' s''=>CX outer H s E e' s'') s'
theorem Z9o{sc:Scope}{n:Nat}{x:Str}(h:sc.names.lookup x=some .cell):∃ c,(cellsFrom n sc.names []).lookup x=some c:=by
 have q:=PySem.W.cellsFrom_some sc.names n [] (.inl h)
 exact Option.isSome_iff_exists.mp q
theorem Zbk{CX:CXT}{P:Program}{w:World}{K:Z0a}{mg:Str→Option Value}{base:Heap}{N ps:List Str}{qual:Str}{scope:Scope}{f:Addr}{cd:Value}{A:Around}{outer:List Env}{s s1:Shared}{H:Hp}{E:XK}{us:List Value}{vs:List V}
  (S:Z2v N ps scope)(hd:A.handled=none)(e0:Env0 P w K mg base A outer s H)(hl:vs.length=ps.length)(r:Vals vs us)
  (x:InCallC s s.heap.objs.size (bindL (envOfC qual scope s.heap.objs.size f cd).kindOf (ps.zip us) fun _=>none) (cellsFrom (s.heap.objs.size+1) scope.names []) (bindC (envOfC qual scope s.heap.objs.size f cd).kindOf (ps.zip us) fun _=>none) s1) :
  Inv (cxOf CX P w K mg base N qual scope f cd A outer s H E) [] (start N vs) H s1:=by
 have hpl:ps.length≤N.length:=by have:=congrArg List.length S.pre;rw [Z1k]at this;omega
 obtain⟨h1,tk,rfl,hk⟩:=x.done
 have noA:∀ b:Addr,b∉(cxOf CX P w K mg base N qual scope f cd A outer s H E).ex:=fun b z=>absurd (show b∈([]:List Addr)from z) (by simp)
 refine⟨⟨e0.mod,S.kind,rfl,rfl,Z0d _,fun y z c h1 h2=>?_,fun y hy=>?_,fun y c _ h=>?_,fun _=>hd,Around.frames_deeper e0.frames,.inr ⟨rfl,rfl⟩,fun b z=>absurd z (noA b),e0.bs,e0.bsz,fun b _ _=>noA b,fun b z=>absurd z (noA b),e0.funs,e0.frf⟩,
  rfl,e0.bare,Un.kept hk,⟨_,x.toInCall.ns,fun i y v h1 h2 h3=>?_⟩,fun y c h=>⟨_,x.cell y c h⟩,e0.hok.fresh (Z0d _),fun y c h=>?_,fun p hp=>absurd (show p∈([]:List (Addr×Obj))from hp) (by simp),e0.hok.kept hk,?_⟩
 ·exact name_of_addr x.apart (PySem.mem_of_lookup h1) (PySem.mem_of_lookup h2)
 ·have hy:scope.names.lookup y=some .cell∨scope.names.lookup y=some .free:=hy
  rcases hy with hy |hy
  ·exact Z9o hy
  ·exact absurd rfl (S.nofree _ (PySem.mem_of_lookup hy))
 ·exact Z1u (x.above y c (PySem.mem_of_lookup h))
 ·have hi:i<vs.length:=by
   unfold start at h2
   by_cases hi:i<vs.length
   ·exact hi
   ·rw [Z1l (by simpa using hi)]at h2
    rw [List.getElem?_replicate]at h2
    split at h2<;>cases h2
  have ha:vs[i]?=some v:=by
   unfold start at h2
   rw [Z0S (by simpa using hi),Z0k]at h2
   cases e:vs[i]? with
   |none=>rw [e]at h2;cases h2
   |some a=>rw [e]at h2;cases h2;rfl
  obtain⟨u,hu,rv⟩:=r.get ha
  have hp:ps[i]?=some y:=by
   rw [←S.pre,List.getElem?_take_of_lt (by omega)];exact h1
  have ndP:ps.Nodup:=by rw [←S.pre];exact S.nd.sublist (List.take_sublist _ _)
  refine⟨u,rv,?_⟩
  rcases S.par y (Z0u hp)with k |k
  ·exact .inl ⟨k,Z6q ndP hp hu k⟩
  ·obtain⟨c,e⟩:=Z9o (n:=s.heap.objs.size+1) k
   refine .inr ⟨.inl k,c,e,?_⟩
   have q:=x.cell y c e
   rw [Z8a ndP hp hu (by show scope.names.lookup y≠_;rw [k];decide)]at q
   exact q
 ·exact e0.hok.fresh (Z1u (x.above y c (PySem.mem_of_lookup h)))
 ·unfold start
  show _=N.length
  rw [Z0x,Z0b,Z2e]
  omega
theorem fn_of{CX:CXT}{P:Program}{w:World}{K:Z0a}{mg:Str→Option Value}{base:Heap}{k:Nat}{f:Addr}{name qual:Str}{params:Arguments}{body:List Stmt}{scope:Scope}{dV kV doc pm cdv ct oc:Value}{an od:Option Addr}
  {osl:Array (Option Value)}{N ps:List Str}{sp:Sp}(lk:K.lookup f=some ⟨oc,od,.func (PySem.W.fnOf name qual params body scope dV kV doc pm an cdv ct),osl⟩)(hcd:PySem.W.codeIn K cdv qual=true)(S:Z2v N ps scope)
  (len:∀ vs H Q E,sp vs H Q E→vs.length=ps.length)
  (hbody:∀ (A:Around)(outer:List Env)(s:Shared)(H:Hp)(vs:List V)(Q:VK)(E:XK),Room k (A.deeper (envOfC qual scope s.heap.objs.size f cdv))→sp vs H Q E →
    ∃ t,PSs (cxOf CX P w K mg base N qual scope f cdv A outer s H E) body t∧t { nx:=fun _ H'=>Q .non H',rt:=Q } (start N vs) H) :
  FnOk P w K mg base CX (k+1) f (PySem.W.fnOf name qual params body scope dV kV doc pm an cdv ct) ps sp:=by
 refine⟨len,fun A outer s H args us vs Q E hr e0 hb r hsp=>?_⟩
 have hl:=len _ _ _ _ hsp
 have KX:K.In s.heap:=e0.mod.kin.keeps fun b o e=>(e0.bs b o e).1
 have lim:s.heap.NoLimit:=e0.mod.nolimit.keeps fun b o e=>(e0.bs b o e).1
 have hkind:∀ y∈ps.zip us,scope.names.lookup y.1=some .local∨(scope.names.lookup y.1=some .cell∧((cellsFrom (s.heap.objs.size+1) scope.names []).lookup y.1).isSome=true):=fun⟨n,v⟩ hy=>by
  rcases S.par n (Z0P hy).1 with q |q
  ·exact .inl q
  ·exact .inr ⟨q,PySem.W.cellsFrom_some _ _ _ (.inl q)⟩
 refine codeAny_call_function hr.depth (KX _ _ lk) rfl S.co S.gen rfl (PySem.W.codeRec_of KX hcd) (hb _ _ _ _ ?_)
 refine wpAny_newFunctionEnv_cells S.kind hkind fun env he s1 x=>?_
 subst he
 refine⟨lim.keeps x.toInCall.keep,codeAny_func ?_⟩
 obtain⟨t,ht,hq⟩:=hbody A outer s H vs Q E (hr.deeper _) hsp
 have I:Inv (cxOf CX P w K mg base N qual scope f cdv A outer s H E) [] (start N vs) H s1:=Zbk S hr.hd e0 hl r x
 refine wpAny_mono (ht [] s1 (start N vs) H _ I hq) (fun fl s' hs=>?_) fun e s' hs=>hs
 have fin:∀ {σ':St}{H':Hp}{v:V}{u:Value},Inv (cxOf CX P w K mg base N qual scope f cdv A outer s H E) [] σ' H' s'→RelV v u→Q v H'→CE outer P w H s Q u s' :=
  fun{σ' H' v u} J rv q=>⟨v,H',J.os,J.bare,J.base,J.hok,rv,q⟩
 cases fl with
 |ret u =>
  obtain⟨v,σ',H',J,rv,q⟩:=hs
  exact fin J rv q
 |next =>
  obtain⟨σ',H',J,q⟩:=hs
  exact fin (v:=V.non) (u:=Value.none) J rfl q
 |brk =>
  obtain⟨_,_,_,q⟩:=hs
  exact False.elim q
 |cont =>
  obtain⟨_,_,_,q⟩:=hs
  exact False.elim q
end L2
namespace L2
open PySem PySem.Spec PyProof.Rows
section
variable{X:Cx}{x:Str}{p pos:Pos}{e:Expr}{es:List Expr}{t:TA}{id T:String}{r:List V→Hp→VK→Prop}
def tCB(r:List V→Hp→VK→Prop)(t:TA):TE:=fun σ H Q=>t σ H fun vs H1=>r vs H1 Q
theorem Z2U(hc:CallR X (.builtin id) r)(hg:Gl X x)(hm:X.mg x=none)(hv:bootBuiltins x=some (.builtin id))(ha:PA X (e::es) t)(hn:x≠"__name__":=by decide)(hdb:(x==("__debug__" : Str))=false:=by decide)
  (he:starEach (e::es) X.env=(false,eval e X.env)::starEach es X.env:=by rfl)(hpl:(backTo pos (starEach es X.env)).any (·.1)=false:=by rfl):PE X (.Call (.Name x p) (e::es) [] pos) (tCB r t):=by
 intro pins s σ H Q I h
 refine wpAny_Call_Name_kw (Z5J I hg hm hv ?_ hn hdb)
 exact PyProof.Rows.callWith_builtin1 (thn (ha pos pins s σ H _ I h) fun us s1 ⟨vs,H1,I1,r1,q1⟩=>hc pins s1 σ H1 vs us Q I1 r1 q1) he hpl
end
end L2
namespace HT
open PySem PyProof.Rows
theorem eqAt_int(A:Around)(s:Shared)(a:Int)(t:Tok)(c:Int)(u:Tok):∃ e,SeqAt.EqAt A s (.int a t) (.int c u) e∧(e=true↔a=c) :=
 ⟨(a==c),SeqAt.EqAt.int_int a t c u,by simp⟩
section
open PySem.SeqAt
open PySem.AutoSeq1 (wpAny_loadPart')
open PySem.MeetsSeq PySem.MeetsSeq2 PySem.MeetsSeq3
end
section
variable{prog:Program}{w:World}{A:Around}{E:Value→Shared→Prop}{s:Shared}
def sIx(n d:Nat):Option Int→Nat
 |none=>d
 |some v=>if v<0 then(v+(n:Int)).toNat else min v.toNat n
theorem sIx_nat(n d k:Nat):sIx n d (some (k:Int))=min k n:=by
 show(if (k:Int)<0 then((k:Int)+(n:Int)).toNat else min (k:Int).toNat n)=min k n
 rw [if_neg (by omega),Int.toNat_natCast]
end
end HT
namespace L2
open PySem PySem.Spec PyProof.Rows
abbrev TO:=St→Hp→(Option Int→Hp→Prop)→Prop
def PO(X:Cx)(e:Option Expr)(t:TO):Prop :=
 ∀ (pins:List (Addr×Obj))(s:Shared)(σ:St)(H:Hp)(Q:Option Int→Hp→Prop),Inv X pins σ H s→t σ H Q →
  wpAny (model X.prog X.w) X.A (evalPart e X.env) (fun u s'=>∃ o H',Inv X pins σ H' s'∧IsPart u o∧Q o H') X.xe s
def tNoPart:TO:=fun _ H Q=>Q none H
def tPart(t:TE):TO:=fun σ H Q=>t σ H fun x H1=>∃ i,x=.int i∧Q (some i) H1
theorem Z7E{ns:List Int}:∀ {us:List Value},Vals (ns.map V.int) us→IntsAre us ns:=by
 induction ns with
 |nil=>intro us r;rw [List.map_nil]at r;cases r;exact .nil
 |cons n ns ih =>
  intro us r
  rw [Z0D]at r
  cases r with
  |cons r1 r2 =>
   obtain⟨t,e⟩:=r1
   subst e
   exact .cons n t (ih r2)
section
variable{X:Cx}{e:Expr}{te:TE}{lo hi:Option Expr}{tl th:TO}{pos p2:Pos}
theorem po_none:PO X none tNoPart:=by
 intro pins s σ H Q I h
 rw [evalPart_none]
 exact wpAny_pure ⟨none,H,I,.none,h⟩
theorem Z7J(h:PE X e te):PO X (some e) (tPart te):=by
 intro pins s σ H Q I hw
 rw [evalPart_some]
 refine thn (h pins s σ H _ I hw) fun u s1 ⟨x,H1,I1,r1,q1⟩=>?_
 obtain⟨i,rfl,q⟩:=q1
 obtain⟨t,rfl⟩:=r1
 exact⟨some i,H1,I1,.int i t,q⟩
def SlR(X:Cx)(r:V→Option Int→Option Int→Hp→VK→Prop):Prop :=
 ∀ (pins:List (Addr×Obj))(s:Shared)(σ:St)(H:Hp)(x:V)(v vl vu:Value)(lo hi:Option Int)(sl:Addr)(Q:VK),Inv X pins σ H s→RelV x v→s.heap.IsSliceOf sl vl vu .none→IsPart vl lo→IsPart vu hi→r x lo hi H Q →
  ∃ T id,typeLookup (.type T) "__getitem__" = pure (some (.builtin id))∧s.TypeIs v T∧wpAny (model X.prog X.w) X.A (getItem v (.ref sl)) (EP X pins σ Q) X.xe s
def tSl(r:V→Option Int→Option Int→Hp→VK→Prop)(te:TE)(tl th:TO):TE:=fun σ H Q=>te σ H fun x H1=>tl σ H1 fun l H2=>th σ H2 fun u H3=>r x l u H3 Q
theorem Z9h{r:V→Option Int→Option Int→Hp→VK→Prop}(hr:SlR X r)(he:PE X e te)(hl:PO X lo tl)(hu:PO X hi th):PE X (.Subscript e (.Slice lo hi none p2) pos) (tSl r te tl th):=by
 intro pins s σ H Q I h
 refine Subscript_ (thn (he pins s σ H _ I h) fun v s1 ⟨x,H1,I1,r1,q1⟩=>?_)
 refine wpAny_Slice (thn (hl pins s1 σ H1 _ I1 q1) fun vl s2 ⟨l,H2,I2,pl,q2⟩=>thn (hu pins s2 σ H2 _ I2 q2) fun vu s3 ⟨u,H3,I3,pu,q3⟩=>?_)
 rw [evalPart_none]
 refine wpAny_pure ?_
 have I4:Inv X pins σ H3 { s3 with heap:=s3.heap.push { cls:=.type "slice",data:=.fields #[vl,vu,.none] } }:=I3.kept (t':=s3.toks) fun b ob q=>Z0n _ q
 obtain⟨T,id,hT,ht,hg⟩:=hr pins { s3 with heap:=s3.heap.push { cls:=.type "slice",data:=.fields #[vl,vu,.none] } } σ H3 x v vl vu l u s3.heap.objs.size Q I4 r1 (Heap.IsSliceOf.new ..) pl pu q3
 show wpAny (model X.prog X.w) X.A (subscriptTail e (.Slice lo hi none p2) v (.ref s3.heap.objs.size)) (EP X pins σ Q) X.xe { s3 with heap:=s3.heap.push { cls:=.type "slice",data:=.fields #[vl,vu,.none] } }
 exact tail_any (ops:=[.ref s3.heap.objs.size,v]) ht hT hg (by with_unfolding_all rfl)
def cutV(xs:List V)(lo hi:Option Int):List V:=(xs.drop (HT.sIx xs.length 0 lo)).take (HT.sIx xs.length xs.length hi-HT.sIx xs.length 0 lo)
theorem Z9H(xs:List V)(lo hi:Option Int):(cutV xs lo hi).length≤xs.length:=by
 unfold cutV
 rw [Z1k,Z0T]
 omega
end
end L2
namespace L2
open PySem PySem.Spec PyProof.Rows
def ixN(n:Nat)(i:Int):Option Nat:=if 0≤i then(if i<n then some i.toNat else none)else if -(n:Int)≤i then some (i+n).toNat else none
def atI{α:Type}(xs:List α)(i:Int):Option α:=(ixN xs.length i).bind fun j=>xs[j]?
theorem Zaf{n:Nat}{i:Int}{j:Nat}(h:ixN n i=some j):seqIndex? i n=some j∧j<n∧-(n:Int)≤i∧i<n:=by
 unfold ixN at h
 by_cases h0:0≤i
 ·rw [if_pos h0]at h
  by_cases h1:i<n
  ·rw [if_pos h1]at h
   have e:i.toNat=j:=Option.some.inj h
   exact⟨by rw [seqIndex_of h0 h1,e],by omega,by omega,h1⟩
  ·rw [if_neg h1]at h;cases h
 ·rw [if_neg h0]at h
  by_cases h1:-(n:Int)≤i
  ·rw [if_pos h1]at h
   have e:(i+n).toNat=j:=Option.some.inj h
   exact⟨by rw [seqIndex_neg (by omega) h1,e],by omega,h1,by omega⟩
  ·rw [if_neg h1]at h;cases h
theorem Z9Q{α:Type}{xs:List α}{i:Int}{v:α}(h:atI xs i=some v):∃ j,seqIndex? i xs.length=some j∧xs[j]?=some v∧j<xs.length∧-(xs.length:Int)≤i∧i<xs.length:=by
 unfold atI at h
 cases e:ixN xs.length i with
 |none=>rw [e]at h;cases h
 |some j =>
  rw [e]at h
  obtain⟨h1,h2,h3,h4⟩:=Zaf e
  exact⟨j,h1,h,h2,h3,h4⟩
theorem Z3b{α:Type}{xs:List α}{j:Nat}{v:α}(h:xs[j]?=some v):atI xs (j:Int)=some v:=by
 have hj:j<xs.length:=(Z0r.mp h).1
 have e:ixN xs.length (j:Int)=some j:=by
  unfold ixN
  rw [if_pos (by omega),if_pos (by omega)];simp
 unfold atI;rw [e];exact h
def PlainIx(b:Expr):Prop:=∀ o i,subscripted b false o i=operate [o,i] (getItem o i)
def IxR(X:Cx)(r:R2):Prop :=
 ∀ (value slice:Expr)(pins:List (Addr×Obj))(s:Shared)(σ:St)(H:Hp)(x y:V)(v u:Value)(Q:VK),Inv X pins σ H s→RelV x v→RelV y u→r x y H Q →
  subscripted slice false v u=operate [v,u] (getItem v u)→wpAny (model X.prog X.w) X.A (subscriptTail value slice v u) (EP X pins σ Q) X.xe s
def MtR(X:Cx)(id:String)(r:V→List V→Hp→VK→Prop):Prop :=
 ∀ (pins:List (Addr×Obj))(s:Shared)(σ:St)(H:Hp)(x:V)(xs:List V)(v:Value)(us:List Value)(Q:VK),Inv X pins σ H s→RelV x v→Vals xs us→r x xs H Q →
  wpAny (model X.prog X.w) X.A (call (.builtin id) (v::us)) (EP X pins σ Q) X.xe s
section
variable{X:Cx}{a b:Expr}{ta tb:TE}{pos:Pos}
theorem pe_ix{r:R2}(hr:IxR X r)(ha:PE X a ta)(hb:PE X b tb)(hs:PlainIx b):PE X (.Subscript a b pos) (tOp r ta tb):=by
 intro pins s σ H Q I h
 exact Subscript_ (binT ha hb I h fun v u s2 x y H2 I2 rx ry q=>hr a b pins s2 σ H2 x y v u Q I2 rx ry q (hs _ _))
def rIxL(K:Z0a):R2:=fun x y H Q=>∃ p xs i v,x=.ref p∧y=.int i∧SqL K H p xs∧atI xs i=some v∧Q v H
def rIxT(K:Z0a):R2:=fun x y H Q=>∃ p xs i v,x=.ref p∧y=.int i∧SqT K H p xs∧atI xs i=some v∧Q v H
theorem Z2Z:IxR X (rIxL X.K):=by
 intro value slice pins s σ H x y v u Q I rx ry h hs
 obtain⟨p,xs,i,z,rfl,rfl,hq,he,q⟩:=h
 cases rx
 obtain⟨t,rfl⟩:=ry
 obtain⟨its,r,pl,hz⟩:=I.list hq
 obtain⟨j,h1,h2,h3,h4,h5⟩:=Z9Q he
 obtain⟨w,ew,rw'⟩:=r.get h2
 have hl:=r.length
 have hn:=Z5A
 have fin:EP X pins σ Q w s:=⟨z,H,I,rw',q⟩
 by_cases h0:0≤i
 ·have hj:i.toNat=j:=by
   rw [seqIndex_of h0 h5]at h1
   exact Option.some.inj h1
  exact item_listR pl.isList h0 (by omega) (by rw [hj];simpa using ew) fin hs
 ·have hj:(i+(its.toArray.size:Int)).toNat=j:=by
   rw [seqIndex_neg (by omega) h4]at h1
   rw [Z0s,←hl]
   exact Option.some.inj h1
  exact subscriptTail_builtinR (x:=w) pl.isList.typeIs slot_list_getitem.lookup
   (wpAny_getItem_list_neg (Q:=fun r s'=>r=w∧EP X pins σ Q r s') pl.isList (by omega) (by rw [Z0s]<;>omega) (by omega) (by rw [hj];simpa using ew) ⟨rfl,fin⟩) hs
theorem Z2W:IxR X (rIxT X.K):=by
 intro value slice pins s σ H x y v u Q I rx ry h hs
 obtain⟨p,xs,i,z,rfl,rfl,hq,he,q⟩:=h
 cases rx
 obtain⟨t,rfl⟩:=ry
 obtain⟨its,r,pl,hz⟩:=I.tuple hq
 obtain⟨j,h1,h2,h3,h4,h5⟩:=Z9Q he
 obtain⟨w,ew,rw'⟩:=r.get h2
 have hl:=r.length
 have hn:=Z5A
 have fin:EP X pins σ Q w s:=⟨z,H,I,rw',q⟩
 exact subscriptTail_builtinR (x:=w) pl.typeIs slot_tuple_getitem.lookup
  (getItem_tuple (j:=j) (Q:=fun r s'=>r=w∧EP X pins σ Q r s') pl (by omega) (by omega) (by rw [Z0s,←hl];exact h1) (by simpa using ew) ⟨rfl,fin⟩) hs
theorem Zau(its:List Value)(n j:Nat)(u:Value):Obj.mapSeq (·.setIfInBounds j u) { cls:=.type "list",data:=.seq its.toArray n }={ cls:=.type "list",data:=.seq (its.set j u).toArray n }:=by
 simp [Obj.mapSeq]
theorem Inv.lst{pins:List (Addr×Obj)}{σ:St}{H:Hp}{s:Shared}{p:Addr}{xs:List V}(I:Inv X pins σ H s)(h:H p=some (.lst xs)) :
  ∃ (its:List Value)(n:Nat),Vals xs its∧s.heap.get? p=some { cls:=.type "list",data:=.seq its.toArray n }∧xs.length≤sizeLine:=by
 obtain⟨z,its,n,r,e⟩:=I.hok p _ h
 exact⟨its,n,r,e,z⟩
theorem Inv.lstUpd{pins:List (Addr×Obj)}{σ:St}{H:Hp}{s:Shared}{p:Addr}{xs ys:List V}{its its':List Value}{n n':Nat}{f:Obj→Obj}(I:Inv X pins σ H s)(h:H p=some (.lst xs))
  (ho:s.heap.get? p=some { cls:=.type "list",data:=.seq its.toArray n })(hf:f { cls:=.type "list",data:=.seq its.toArray n }={ cls:=.type "list",data:=.seq its'.toArray n' })(r:Vals ys its')(hz:ys.length≤sizeLine)(t:Nat) :
  Inv X pins σ (upd H p (.lst ys)) { s with heap:=s.heap.update p f,toks:=t }:=by
 have e:(s.heap.update p f).get? p=some { cls:=.type "list",data:=.seq its'.toArray n' }:=by
  rw [Z0O f ho (by rw [hf]<;>rfl),hf]
 refine I.write (x:=p) (e:=p) (by rw [h];trivial) (.inl rfl) (fun b u hb q=>(Z0G _ _ (Ne.symm hb)).trans q) ⟨_,e⟩ ?_
 exact⟨hz,its',n',r,e⟩
def rSetL:V→V→V→Hp→(Hp→Prop)→Prop:=fun o i v H Q=>∃ p xs k j,o=.ref p∧i=.int k∧H p=some (.lst xs)∧ixN xs.length k=some j∧Q (upd H p (.lst (xs.set j v)))
theorem Z8M:PSet X rSetL:=by
 intro pins s σ H o i v ov iv u Q I ro ri rv h
 obtain⟨p,xs,k,j,rfl,rfl,hp,hj,q⟩:=h
 cases ro
 obtain⟨t,rfl⟩:=ri
 obtain⟨its,n,r,ho,hz⟩:=I.lst hp
 obtain⟨h1,h2,h3,h4⟩:=Zaf hj
 have hl:=r.length
 have hn:=Z5A
 have I':Inv X pins σ (upd H p (.lst (xs.set j v))) { s with heap:=s.heap.update p (Obj.mapSeq (·.setIfInBounds j u)) } :=
  I.lstUpd hp ho (Zau its n j u) (r.set rv j) (by rw [List.length_set];exact hz) s.toks
 by_cases h0:0≤k
 ·have hk:k.toNat=j:=by
   rw [seqIndex_of h0 h4]at h1
   exact Option.some.inj h1
  exact PySem.W.ki_setAt ho h0 (by omega) (by rw [Z0s,←hl];exact h4) (by rw [hk];exact⟨_,I',q⟩)
 ·have hk:(k+(its.toArray.size:Int)).toNat=j:=by
   rw [seqIndex_neg (by omega) h3]at h1
   rw [Z0s,←hl]
   exact Option.some.inj h1
  exact PySem.W.ki_setBack ho (by omega) (by rw [Z0s,←hl];exact h3) (by omega) (by rw [hk];exact⟨_,I',q⟩)
theorem Z9i(lo hi:Option Int)(n:Nat):(sliceBounds lo hi none n).1=((HT.sIx n 0 lo:Nat):Int)∧(sliceBounds lo hi none n).2.1=((HT.sIx n n hi:Nat):Int)∧(sliceBounds lo hi none n).2.2=1:=by
 refine⟨?_,?_,rfl⟩
 ·cases lo with
  |none=>simp [sliceBounds,HT.sIx]
  |some i =>
   simp only [sliceBounds,HT.sIx,Option.getD_none,show(1:Int) > 0 by decide,if_true]
   by_cases h:i<0
   ·simp only [h,if_true]<;>omega
   ·simp only [h,if_false]<;>omega
 ·cases hi with
  |none=>simp [sliceBounds,HT.sIx]
  |some i =>
   simp only [sliceBounds,HT.sIx,Option.getD_none,show(1:Int) > 0 by decide,if_true]
   by_cases h:i<0
   ·simp only [h,if_true]<;>omega
   ·simp only [h,if_false]<;>omega
theorem Z8x(its:List Value)(lo hi:Option Int):slicePick its.toArray lo hi none=((its.drop (HT.sIx its.length 0 lo)).take (HT.sIx its.length its.length hi-HT.sIx its.length 0 lo)).toArray:=by
 obtain⟨h1,h2,h3⟩:=Z9i lo hi its.toArray.size
 unfold slicePick
 rw [h1,h2,h3]
 simp only [sliceRange_one,pick_run,Z0s]<;>rfl
def rSlL(K:Z0a):V→Option Int→Option Int→Hp→VK→Prop:=fun x lo hi H Q=>∃ a xs,x=.ref a∧SqL K H a xs∧∀ p,H p=none→Q (.ref p) (upd H p (.lst (cutV xs lo hi)))
theorem Zaj:SlR X (rSlL X.K):=by
 intro pins s σ H x v vl vu lo hi sl Q I rx hs pl pu h
 obtain⟨a,xs,rfl,hx,q⟩:=h
 cases rx
 obtain⟨its,r,ht,hz⟩:=I.list hx
 have hlen:=r.length
 refine⟨"list",_,slot_list_getitem.lookup,ht.isList.typeIs,?_⟩
 refine wpAny_getItem_list_slice ht.isList hs pl pu .none (by simp) ?_ (by rw [Z0s]<;>omega)
 rw [Z8x,←hlen]
 refine⟨.ref s.heap.objs.size,_,I.laid (t':=s.toks) (o:=.lst (cutV xs lo hi)) (fun b ob q=>Z0n _ q) (Z0d _) ?_,rfl,q _ (I.hok.fresh (Z0d _))⟩
 exact⟨Z0A (Z9H xs lo hi) hz,_,0,(r.drop (HT.sIx xs.length 0 lo)).take (HT.sIx xs.length xs.length hi-HT.sIx xs.length 0 lo),Z0E _ rfl⟩
def flatV:V→Bool
 |.non=>true
 |.bl _=>true
 |.int _=>true
 |.str _=>true
 |_=>false
def eqV:V→V→Bool
 |.non,.non=>true
 |.bl a,.bl b=>a==b
 |.bl a,.int b=>(if a then 1 else 0)==b
 |.int a,.bl b=>a==(if b then 1 else 0)
 |.int a,.int b=>a==b
 |.str a,.str b=>a==b
 |_,_=>false
theorem eqAt_V{A:Around}{s:Shared}{y x:V}{u v:Value}(ry:RelV y u)(rx:RelV x v)(fy:flatV y=true)(fx:flatV x=true):SeqAt.EqAt A s u v (eqV y x):=by
 cases y with
 |non =>
  cases ry
  cases x with
  |non=>cases rx;exact SeqAt.EqAt.same _
  |bl b=>cases rx;exact SeqAt.EqAt.none_bool b
  |int b=>obtain⟨t,rfl⟩:=rx;exact SeqAt.EqAt.none_int b t
  |str b=>obtain⟨t,rfl⟩:=rx;exact SeqAt.EqAt.none_str b t
  |_=>exact absurd (show false=true from fx) Z0t
 |bl a =>
  cases ry
  cases x with
  |non=>cases rx;exact SeqAt.EqAt.bool_none a
  |bl b=>cases rx;exact SeqAt.EqAt.bool_bool a b
  |int b=>obtain⟨t,rfl⟩:=rx;exact SeqAt.EqAt.bool_int a b t
  |str b=>obtain⟨t,rfl⟩:=rx;exact SeqAt.EqAt.bool_str a b t
  |_=>exact absurd (show false=true from fx) Z0t
 |int a =>
  obtain⟨t',rfl⟩:=ry
  cases x with
  |non=>cases rx;exact SeqAt.EqAt.int_none a t'
  |bl b=>cases rx;exact SeqAt.EqAt.int_bool a t' b
  |int b=>obtain⟨t,rfl⟩:=rx;exact SeqAt.EqAt.int_int a t' b t
  |str b=>obtain⟨t,rfl⟩:=rx;exact SeqAt.EqAt.int_str a t' b t
  |_=>exact absurd (show false=true from fx) Z0t
 |str a =>
  obtain⟨t',rfl⟩:=ry
  cases x with
  |non=>cases rx;exact SeqAt.EqAt.str_none a t'
  |bl b=>cases rx;exact SeqAt.EqAt.str_bool a t' b
  |int b=>obtain⟨t,rfl⟩:=rx;exact SeqAt.EqAt.str_int a t' b t
  |str b=>obtain⟨t,rfl⟩:=rx;exact SeqAt.EqAt.str_str a t' b t
  |_=>exact absurd (show false=true from fx) Z0t
 |_=>exact absurd (show false=true from fy) Z0t
def eqU(x:V)(u:Value):Bool:=match u with
 |.none=>eqV .non x
 |.bool b=>eqV (.bl b) x
 |.int i _=>eqV (.int i) x
 |.str z _=>eqV (.str z) x
 |_=>false
theorem eqU_of{x y:V}{u:Value}(r:RelV y u)(f:flatV y=true):eqU x u=eqV y x:=by
 cases y with
 |non=>cases r;rfl
 |bl b=>cases r;rfl
 |int i=>obtain⟨t,rfl⟩:=r;rfl
 |str z=>obtain⟨t,rfl⟩:=r;rfl
 |_=>exact absurd (show false=true from f) Z0t
theorem Z7S{x:V}:∀ {xs:List V}{us:List Value},Vals xs us→xs.all flatV=true→us.any (eqU x)=xs.any fun y=>eqV y x
 |_,_,.nil,_=>rfl
 |y::xs,u::us,.cons r t,f=>by
  rw [List.all_cons,Z0B]at f
  rw [Z1a,Z1a,eqU_of r f.1,Z7S t f.2]
theorem Z7d{A:Around}{s:Shared}{x:V}{v:Value}(rx:RelV x v)(fx:flatV x=true):∀ {xs:List V}{us:List Value},Vals xs us→xs.all flatV=true→∀ u∈us,SeqAt.EqAt A s u v (eqU x u)
 |_,_,.nil,_=>fun u hu=>by cases hu
 |y::xs,u::us,.cons r t,f=>fun u' hu=>by
  rw [List.all_cons,Z0B]at f
  rcases Z0e.mp hu with rfl |hu
  ·rw [eqU_of r f.1];exact eqAt_V r rx f.1 fx
  ·exact Z7d rx fx t f.2 u' hu
def inV(x:V)(xs:List V):Bool:=xs.any fun y=>eqV y x
def rIn(K:Z0a)(neg:Bool):R2:=fun x y H Q=>∃ p xs,y=.ref p∧(SqL K H p xs∨SqT K H p xs)∧flatV x=true∧xs.all flatV=true∧Q (.bl (if neg then !inV x xs else inV x xs)) H
theorem Zbi:OpR X (compareOp .In) (rIn X.K false):=by
 intro pins s σ H x y v u Q I rx ry h
 obtain⟨p,xs,rfl,hq,fx,fs,q⟩:=h
 cases ry
 rcases hq with hq |hq
 ·obtain⟨its,r,pl,hz⟩:=I.list hq
  refine SeqAt.in_listAt (eqU x) pl.isList (fun w hw=>Z7d rx fx r fs w (by simpa using hw)) ⟨.bl _,H,I,rfl,?_⟩
  rw [show its.toArray.any (eqU x)=its.any (eqU x) by simp,Z7S r fs]
  exact q
 ·obtain⟨its,r,pl,hz⟩:=I.tuple hq
  refine SeqAt.in_tupleAt (eqU x) pl (fun w hw=>Z7d rx fx r fs w (by simpa using hw)) ⟨.bl _,H,I,rfl,?_⟩
  rw [show its.toArray.any (eqU x)=its.any (eqU x) by simp,Z7S r fs]
  exact q
theorem Z2J:CallR X (.builtin "len") (fun xs H Q=>∃ p ys,xs=[.ref p]∧(SqL X.K H p ys∨SqT X.K H p ys)∧Q (.int ys.length) H):=by
 intro pins s σ H xs us Q I r h
 obtain⟨p,ys,rfl,hq,q⟩:=h
 obtain⟨u,rfl,rx⟩:=vals1 r
 cases rx
 have hn:=Z5A
 rcases hq with hq |hq
 ·obtain⟨its,r',pl,hz⟩:=I.list hq
  have hlen:=r'.length
  exact Calls.call_len_list pl.isList (by simp only [Z0s]<;>omega) ⟨.int ys.length,H,I.tok _,⟨s.toks+1,by rw [Z0s,hlen]⟩,q⟩
 ·obtain⟨its,r',pl,hz⟩:=I.tuple hq
  have hlen:=r'.length
  exact len_tuple pl (by simp only [Z0s]<;>omega) ⟨.int ys.length,H,I.tok _,⟨s.toks+1,by rw [Z0s,hlen]⟩,q⟩
def tyV(K:Z0a)(T:String)(x:V)(H:Hp):Prop:=match x with
 |.str _=>T = "str"
 |.int _=>T = "int"
 |.ref p=>(T = "list"∧∃ xs,SqL K H p xs)∨(T = "tuple"∧∃ o,K.lookup p=some o∧o.cls=.type "tuple"∧o.dict=none) ∨
   (T = "dict"∧((∃ kvs,H p=some (.dK kvs))∨∃ kvs,H p=some (.dT kvs)))∨(T = "set"∧∃ S n,H p=some (.set S n))
 |_=>False
theorem tyV_is{pins:List (Addr×Obj)}{σ:St}{H:Hp}{s:Shared}{T:String}{x:V}{v:Value}(I:Inv X pins σ H s)(r:RelV x v)(ty:tyV X.K T x H) :
  s.TypeIs v T∧∀ a,v=.ref a→∃ ob,s.heap.get? a=some ob∧ob.dict=none:=by
 cases x with
 |str z =>
  obtain⟨t,rfl⟩:=r
  cases (show T = "str" from ty)
  exact⟨typeIs_str s z t,fun _ e=>nomatch e⟩
 |int i =>
  obtain⟨t,rfl⟩:=r
  cases (show T = "int" from ty)
  exact⟨typeIs_int s i t,fun _ e=>nomatch e⟩
 |ref p =>
  cases r
  rcases ty with⟨rfl,xs,hq⟩ |⟨rfl,o,hk,hc,hd⟩ |⟨rfl,hk⟩ |⟨rfl,S,n,hk⟩
  ·obtain⟨its,_,pl,_⟩:=I.list hq
   refine⟨pl.isList.typeIs,fun a e=>?_⟩
   cases e
   obtain⟨o,n,e,c,hd,_⟩:=pl
   exact⟨o,e,hd⟩
  ·refine⟨⟨o,I.kIn p o hk,hc⟩,fun a e=>?_⟩
   cases e
   exact⟨o,I.kIn _ o hk,hd⟩
  ·have z:∃ o,s.heap.get? p=some o∧o.ExactDict:=by
    rcases hk with⟨kvs,hk⟩ |⟨kvs,hk⟩
    ·obtain⟨_,_,_,_,o,_,_,e,ex,_⟩:=I.hok p _ hk
     exact⟨o,e,ex⟩
    ·obtain⟨_,_,_,_,o,_,_,e,ex,_⟩:=I.hok p _ hk
     exact⟨o,e,ex⟩
   obtain⟨o,e,ex⟩:=z
   refine⟨⟨o,e,ex.1⟩,fun a e2=>?_⟩
   cases e2
   exact⟨o,e,ex.2.1⟩
  ·obtain⟨o,_,_,_,e,ex,_⟩:=I.hok p _ hk
   refine⟨⟨o,e,ex.1⟩,fun a e2=>?_⟩
   cases e2
   exact⟨o,e,ex.2.1⟩
 |_=>exact False.elim ty
def tBM0(K:Z0a)(T:String)(r:V→List V→Hp→VK→Prop)(to:TE):TE:=fun σ H Q=>to σ H fun x H1=>tyV K T x H1∧r x [] H1 Q
def tBM(K:Z0a)(T:String)(r:V→List V→Hp→VK→Prop)(to:TE)(t:TA):TE:=fun σ H Q=>to σ H fun x H1=>tyV K T x H1∧t σ H1 fun xs H2=>r x xs H2 Q
variable{o e:Expr}{es:List Expr}{to:TE}{t:TA}{name:Str}{apos cpos:Pos}{T id:String}{r:V→List V→Hp→VK→Prop}
theorem pe_bm0(pa:PlainAttrs T)(slot:Slot T name id)(hty:typeOf (.builtin id)=pure (.type "method_descriptor"))(hm:MtR X id r)(ho:PE X o to)
  (hbase:attributeBase o name X.env (eval o X.env)=eval o X.env:=by rfl)(hline:(apos.endLine==cpos.line)=true:=by rfl):PE X (.Call (.Attribute o name apos) [] [] cpos) (tBM0 X.K T r to):=by
 intro pins s σ H Q I h
 refine wpAny_Call_method0_late hbase hline (thn (ho pins s σ H _ I h) fun v s1 ⟨x,H1,I1,r1,ty,q1⟩=>?_)
 obtain⟨h1,h2⟩:=tyV_is I1 r1 ty
 exact⟨T,id,pa,slot,hty,h1,h2,Calls.callWith_builtin rfl (PySem.evalArgs_none (hm pins s1 σ H1 x [] v [] Q I1 r1 .nil q1))⟩
theorem pe_bm(pa:PlainAttrs T)(slot:Slot T name id)(hty:typeOf (.builtin id)=pure (.type "method_descriptor"))(hm:MtR X id r)(ho:PE X o to)(ha:PA X (e::es) t)
  (hbase:attributeBase o name X.env (eval o X.env)=eval o X.env:=by rfl)
  (hfew:((backTo cpos (starEach (e::es) X.env)).all (fun x=>!x.1)&&(backToKw cpos (keywordEach [] X.env)).all (fun x=>x.1.isSome)
    && decide ((e::es).length+([]:List Keyword).length+(if ([]:List Keyword).isEmpty then 0 else 1)<30))=true:=by rfl)
  (hline:(apos.endLine==cpos.line)=true:=by rfl)(hs:starEach (e::es) X.env=(false,eval e X.env)::starEach es X.env:=by rfl)(hplain:(backTo cpos (starEach es X.env)).any (·.1)=false:=by rfl) :
  PE X (.Call (.Attribute o name apos) (e::es) [] cpos) (tBM X.K T r to t):=by
 intro pins s σ H Q I h
 refine wpAny_Call_method_late hbase hfew hline rfl (thn (ho pins s σ H _ I h) fun v s1 ⟨x,H1,I1,r1,ty,q1⟩=>?_)
 obtain⟨h1,h2⟩:=tyV_is I1 r1 ty
 refine⟨T,id,pa,slot,hty,h1,h2,?_⟩
 have hA:=ha cpos pins s1 σ H1 _ I1 q1
 rw [hs]at hA ⊢
 refine Calls.callWith_builtin (by show(false ||(backTo cpos (starEach es X.env)).any (·.1))=false;rw [hplain]<;>rfl) (Calls.evalArgs_plain ?_)
 exact thn hA fun us s2 ⟨vs,H2,I2,r2,q2⟩=>hm pins s2 σ H2 x vs v us Q I2 r1 r2 q2
end
end L2
namespace L2
open PySem PySem.Spec PyProof.Rows
def MtM(X:Cx)(id:String)(r:V→List V→Hp→VK→Prop):Prop :=
 ∀ (pins:List (Addr×Obj))(s:Shared)(σ:St)(H:Hp)(x:V)(xs:List V)(v:Value)(us:List Value)(Q:VK),Inv X pins σ H s→RelV x v→Vals xs us→r x xs H Q →
  wpAny (model X.prog X.w) X.A (call (.builtin id) (v::us)) (EP X pins σ Q) X.xe s
theorem Vals.one:∀ {x:V}{us:List Value},Vals [x] us→∃ u,us=[u]∧RelV x u
 |_,_,.cons r .nil=>⟨_,rfl,r⟩
theorem Vals.zero:∀ {us:List Value},Vals [] us→us=[]
 |_,.nil=>rfl
theorem Vals.dropLast{xs:List V}{us:List Value}(h:Vals xs us):Vals xs.dropLast us.dropLast:=by
 induction h with
 |nil=>exact .nil
 |cons r t ih =>
  cases t with
  |nil=>exact .nil
  |cons q t'=>exact .cons r ih
theorem ZaA{α:Type}(l:List α):l.eraseIdx (l.length-1)=l.dropLast:=by
 induction l with
 |nil=>rfl
 |cons a r ih =>
  cases r with
  |nil=>rfl
  |cons b r =>
   have e:(a::b::r).length-1=((b::r).length-1)+1:=by
    have h1:(a::b::r).length=r.length+2:=rfl
    have h2:(b::r).length=r.length+1:=rfl
    omega
   rw [e,List.eraseIdx_cons_succ,ih]
   all_goals rfl
section
variable{X:Cx}{pins:List (Addr×Obj)}{σ:St}{H:Hp}{s:Shared}{l b:Addr}{xs ys zs:List V}
theorem Inv.lset{its its':List Value}{n:Nat}{f:Array Value→Array Value}{t':Nat}(I:Inv X pins σ H s)(hH:H l=some (.lst xs))
  (e:s.heap.get? l=some { cls:=.type "list",data:=.seq its.toArray n })(hf:f its.toArray=its'.toArray)(hv:Vals ys its')(hz:ys.length≤sizeLine) :
  Inv X pins σ (upd H l (.lst ys)) { s with heap:=s.heap.update l (Obj.mapSeq f),toks:=t' }:=by
 have q:=PySem.IsL.update e f
 rw [hf]at q
 refine I.write (x:=l) (e:=l) (by rw [hH];exact trivial) (.inl rfl) (fun b' u hb hu=>(Z0G s.heap (Obj.mapSeq f) (Ne.symm hb)).trans hu) ⟨_,q⟩ ?_
 exact⟨hz,its',_,hv,q⟩
theorem Inv.lnew{its:List Value}{t':Nat}(I:Inv X pins σ H s)(hv:Vals ys its)(hz:ys.length≤sizeLine) :
  Inv X pins σ (upd H s.heap.objs.size (.lst ys)) { s with heap:=s.heap.push { cls:=.type "list",data:=.seq its.toArray },toks:=t' } :=
 I.laid (fun _ _ q=>Z0n _ q) (Z0d _) ⟨hz,its,0,hv,Z0E _ rfl⟩
theorem Inv.fresh(I:Inv X pins σ H s):H s.heap.objs.size=none:=I.hok.fresh (Z0d _)
theorem Inv.lstM(I:Inv X pins σ H s)(hH:H l=some (.lst xs)):xs.length≤sizeLine∧∃ (its:List Value)(n:Nat),Vals xs its∧xs.length=its.length∧s.heap.get? l=some { cls:=.type "list",data:=.seq its.toArray n }:=by
 obtain⟨z,its,n,r,e⟩:=I.hok l _ hH
 exact⟨z,its,n,r,r.length,e⟩
theorem notLongL{n:Nat}(h:n≤sizeLine):Builtin.List.listTooLong n=false:=by
 unfold Builtin.List.listTooLong
 exact decide_eq_false (by omega)
end
section
variable{X:Cx}
def rAppend:V→List V→Hp→VK→Prop:=fun x vs H Q=>∃ l xs y,x=.ref l∧vs=[y]∧H l=some (.lst xs)∧xs.length<sizeLine∧Q .non (upd H l (.lst (xs++[y])))
theorem Z4E:MtM X "list.append" rAppend:=by
 intro pins s σ H x vs v us Q I rx rv h
 obtain⟨l,xs,y,rfl,rfl,hH,hz,q⟩:=h
 cases rx
 obtain⟨u,rfl,ru⟩:=rv.one
 obtain⟨z,its,n,r,hl,e⟩:=I.lstM hH
 refine call_meets F.slot_list_append ⟨_,e,rfl⟩ F.entry_list_append (F.args_list_append_2 _ _) (PySem.list_append l its.toArray n u (by rw [Z0s];omega)) ⟨e,?_⟩
 refine⟨.non,_,I.lset (its':=its++[u]) hH e (by simp) (r.append (.cons ru .nil)) ?_,rfl,q⟩
 rw [Z0x,Z2f]
 omega
def rExtend:V→List V→Hp→VK→Prop:=fun x vs H Q=>∃ l b xs zs,x=.ref l∧vs=[.ref b]∧H l=some (.lst xs)∧H b=some (.lst zs)∧xs.length+zs.length≤sizeLine∧Q .non (upd H l (.lst (xs++zs)))
theorem ZaV:MtM X "list.extend" rExtend:=by
 intro pins s σ H x vs v us Q I rx rv h
 obtain⟨l,b,xs,zs,rfl,rfl,hH,hB,hz,q⟩:=h
 cases rx
 obtain⟨u,rfl,ru⟩:=rv.one
 cases ru
 obtain⟨z,its,n,r,hl,e⟩:=I.lstM hH
 obtain⟨z2,its2,n2,r2,hl2,e2⟩:=I.lstM hB
 have hsz:its.toArray.size+its2.toArray.size≤sizeLine:=by rw [Z0s,Z0s];omega
 have hlong:¬ (!its.toArray.isEmpty&&Builtin.List.listTooLong (its.toArray.size+its2.toArray.size))=true:=by
  rw [notLongL hsz,Bool.and_false]
  exact Z0t
 refine call_meets F.slot_list_extend ⟨_,e,rfl⟩ F.entry_list_extend (F.args_list_extend_2 _ _)
  (AutoSeq1.list_extend_list_list_0 l its.toArray n b its2.toArray n2 hlong (by rw [Z0s];omega) (by omega)) ⟨e,e2,?_⟩
 refine⟨.non,_,I.lset (its':=its++its2) hH e (by simp) (r.append r2) ?_,rfl,q⟩
 rw [Z0x]
 omega
def rPop:V→List V→Hp→VK→Prop:=fun x vs H Q=>∃ l xs y,x=.ref l∧vs=[]∧H l=some (.lst xs)∧xs[xs.length-1]?=some y∧Q y (upd H l (.lst xs.dropLast))
theorem mt_pop:MtM X "list.pop" rPop:=by
 intro pins s σ H x vs v us Q I rx rv h
 obtain⟨l,xs,y,rfl,rfl,hH,hy,q⟩:=h
 cases rx
 have hus:=rv.zero
 subst hus
 obtain⟨z,its,n,r,hl,e⟩:=I.lstM hH
 obtain⟨u,hu,ru⟩:=r.get hy
 have hy':its.toArray[its.toArray.size-1]?=some u:=by
  show its.toArray[its.length-1]?=some u
  rw [←Array.getElem?_toList,←hl]
  exact hu
 refine call_meets F.slot_list_pop ⟨_,e,rfl⟩ F.entry_list_pop (F.args_list_pop_1 _) (MeetsSeq.list_pop_last l its.toArray n u hy' (by rw [Z0s];omega)) ⟨e,?_⟩
 refine⟨y,_,I.lset (its':=its.dropLast) hH e ?_ r.dropLast ?_,ru,q⟩
 ·show its.toArray.eraseIdxIfInBounds (its.toArray.size-1)=its.dropLast.toArray
  rw [Z0s,List.eraseIdxIfInBounds_toArray,ZaA]
 ·rw [List.length_dropLast]
  omega
def rCat:R2:=fun x y H Q=>∃ l b xs zs,x=.ref l∧y=.ref b∧H l=some (.lst xs)∧H b=some (.lst zs)∧xs.length+zs.length≤sizeLine∧∀ p,H p=none→Q (.ref p) (upd H p (.lst (xs++zs)))
theorem Z7A:OpR X (binaryOp .Add) rCat:=by
 intro pins s σ H x y v u Q I rx ry h
 obtain⟨l,b,xs,zs,rfl,rfl,hH,hB,hz,q⟩:=h
 cases rx
 cases ry
 obtain⟨z,its,n,r,hl,e⟩:=I.lstM hH
 obtain⟨z2,its2,n2,r2,hl2,e2⟩:=I.lstM hB
 refine PySem.P.add_list e e2 ?_ (by rw [Z0s,Z0s];omega)
 have ea:its.toArray++its2.toArray=(its++its2).toArray:=by simp
 rw [ea]
 exact⟨.ref _,_,I.lnew (t':=s.toks) (r.append r2) (by rw [Z0x];omega),rfl,q _ I.fresh⟩
end
section
variable{prog:Program}{w:World}{A:Around}{E:Value→Shared→Prop}{s:Shared}
end
section
variable{X:Cx}
end
end L2
namespace L2
open PySem PySem.Spec PyProof.Rows
section
variable{prog:Program}{w:World}{A:Around}{E:Value→Shared→Prop}{s:Shared}{l:Addr}{its:List Value}{ns:List Int}{Q:Value→Shared→Prop}
end
section
variable{X:Cx}
end
section
variable{X:Cx}
end
section
variable{X:Cx}
end
section
variable{X:Cx}
end
section
variable{X:Cx}{pins:List (Addr×Obj)}{σ:St}{H:Hp}{s:Shared}
end
section
variable{X:Cx}
end
end L2
namespace L2
open PySem PySem.Spec PyProof.Rows
abbrev CellAt(h:Heap)(c:Addr)(v:Option Value):Prop:=h.IsCell c v
def relS(scope sc:Scope):Scope :=
 { scope with names:=scope.names.map fun(n,k)=>if (k==.free&&sc.kind==.function&&sc.names.lookup n==some .cell)then(n,.cell)else(n,k) }
def Z2C(cells:List (Str×Addr)):List (Str×NameKind)→List (Str×Addr)→List (Str×Addr)
 |[],acc=>acc
 |(n,k)::r,acc=>if k==.free then Z2C cells r ((n,(cells.lookup n).getD 0)::acc)else Z2C cells r acc
theorem Z6o(env:Env)(f:Str×NameKind→List (Str×Addr)→Sem (ForInStep (List (Str×Addr))))
  (hf:∀ n k c,f (n,k) c=if k==.free then(do let a ←cellOf env n;pure (.yield ((n,a)::c)))else pure (.yield c)) :
  ∀ (names:List (Str×NameKind))(acc:List (Str×Addr)),(∀ y∈names,y.2=.free→∃ c,env.cells.lookup y.1=some c)→forIn names acc f=pure (Z2C env.cells names acc)
 |[],acc,_=>by rw [List.forIn_nil];rfl
 |(n,k)::r,acc,h=>by
  rw [List.forIn_cons,hf]
  have ih:=fun acc=>Z6o env f hf r acc fun y hy=>h y (Z0g _ hy)
  unfold Z2C
  by_cases hk:(k==NameKind.free)=true
  ·rw [if_pos hk,if_pos hk]
   obtain⟨c,hc⟩:=h (n,k) Z0h (by simpa using hk)
   have e:cellOf env n=pure c:=by unfold cellOf;rw [hc]
   rw [e]
   have e2:(env.cells.lookup n).getD 0=c:=by rw [hc];rfl
   rw [e2]
   exact ih _
  ·rw [if_neg hk,if_neg hk]
   exact ih _
theorem Z5Z{scope:Scope}{env:Env}(h:∀ y∈scope.names,y.2=.free→∃ c,env.cells.lookup y.1=some c):closureFor scope env=pure (Z2C env.cells scope.names []):=by
 simp only [closureFor]
 rw [Z6o env _ (fun n k c=>rfl) scope.names [] h]
 rfl
theorem Z4n{α:Type}:∀ {l:List (Str×α)}{n:Str}{c:α},(n,c)∈l→∃ c',l.lookup n=some c'
 |(k,v)::r,n,c,h=>by
  rw [Z0c]
  cases hb:n==k with
  |true=>exact⟨_,rfl⟩
  |false =>
   rcases Z0e.mp h with e |h
   ·cases e;simp at hb
   ·exact Z4n h
theorem Z3V{cells:List (Str×Addr)}:∀ {names:List (Str×NameKind)}{acc:List (Str×Addr)}{n:Str}{c:Addr},(n,c)∈Z2C cells names acc→(n,c)∈acc∨((n,.free)∈names∧c=(cells.lookup n).getD 0)
 |[],_,_,_,h=>.inl h
 |(m,k)::r,acc,n,c,h=>by
  unfold Z2C at h
  split at h
  ·rename_i hk
   have hk:k=.free:=by simpa using hk
   rcases Z3V h with h |⟨h1,h2⟩
   ·rcases Z0e.mp h with e |h
    ·cases e;exact .inr ⟨hk ▸ Z0h,rfl⟩
    ·exact .inl h
   ·exact .inr ⟨Z0g _ h1,h2⟩
  ·rcases Z3V h with h |⟨h1,h2⟩
   ·exact .inl h
   ·exact .inr ⟨Z0g _ h1,h2⟩
theorem Z5y{cells:List (Str×Addr)}:∀ {names:List (Str×NameKind)}{acc:List (Str×Addr)}{p:Str×Addr},p∈acc→p∈Z2C cells names acc
 |[],_,_,h=>h
 |(m,k)::r,acc,p,h=>by
  unfold Z2C
  split
  ·exact Z5y (Z0g _ h)
  ·exact Z5y h
theorem Z3U{cells:List (Str×Addr)}:∀ {names:List (Str×NameKind)}{acc:List (Str×Addr)}{n:Str},(n,.free)∈names→(n,(cells.lookup n).getD 0)∈Z2C cells names acc
 |(m,k)::r,acc,n,h=>by
  unfold Z2C
  rcases Z0e.mp h with e |h
  ·cases e
   exact Z5y Z0h
  ·split
   ·exact Z3U h
   ·exact Z3U h
theorem Z4M:∀ {names:List (Str×NameKind)}{h:Heap}{acc:List (Str×Addr)}{x:Str}{c:Addr},(x,c)∈cellsFrom h.objs.size names acc →
  (x,c)∈acc∨((x,.cell)∈names∧h.objs.size≤c∧CellAt (pushCells h names) c none)
 |[],_,_,_,_,h=>.inl h
 |(n,k)::r,h,acc,x,c,hm=>by
  unfold cellsFrom at hm
  unfold pushCells
  split at hm
  ·rename_i hk
   rw [if_pos hk]
   have hk:k=.cell:=by simpa using hk
   rw [←Z0I h { cls:=.type "cell",data:=.cell none }]at hm
   rcases Z4M hm with hm |⟨h1,h2,h3⟩
   ·rcases Z0e.mp hm with e |hm
    ·cases e
     exact .inr ⟨hk ▸ Z0h,Z0d _,_,pushCells_keeps r _ _ _ (Z0E _ rfl),rfl⟩
    ·exact .inl hm
   ·rw [Z0I]at h2
    exact .inr ⟨Z0g _ h1,Z1M h2,h3⟩
  ·rename_i hk
   rw [if_neg hk]
   rcases Z4M hm with hm |⟨h1,h2,h3⟩
   ·exact .inl hm
   ·exact .inr ⟨Z0g _ h1,h2,h3⟩
theorem Z5r:∀ {names:List (Str×NameKind)}{n:Nat}{acc:List (Str×Addr)}{p:Str×Addr},p∈acc→p∈cellsFrom n names acc
 |[],_,_,_,h=>h
 |(m,k)::r,n,acc,p,h=>by
  unfold cellsFrom
  split
  ·exact Z5r (Z0g _ h)
  ·exact Z5r h
theorem Z6B:∀ {names:List (Str×NameKind)}{n:Nat}{acc:List (Str×Addr)}{x:Str},(x,.cell)∈names→∃ c,(x,c)∈cellsFrom n names acc
 |(m,k)::r,n,acc,x,h=>by
  unfold cellsFrom
  rcases Z0e.mp h with e |h
  ·cases e
   exact⟨n,Z5r Z0h⟩
  ·split
   ·exact Z6B h
   ·exact Z6B h
theorem Z6j:∀ {names:List (Str×NameKind)}{h:Heap}{acc:List (Str×Addr)}{x y:Str}{c:Addr},(∀ p∈acc,p.2<h.objs.size)→(∀ x y c,(x,c)∈acc→(y,c)∈acc→x=y) →
  (x,c)∈cellsFrom h.objs.size names acc→(y,c)∈cellsFrom h.objs.size names acc→x=y
 |[],_,_,_,_,_,_,hi,h1,h2=>hi _ _ _ h1 h2
 |(n,k)::r,h,acc,x,y,c,hl,hi,h1,h2=>by
  unfold cellsFrom at h1 h2
  split at h1
  ·rename_i hk
   rw [if_pos hk]at h2
   rw [←Z0I h { cls:=.type "cell",data:=.cell none }]at h1 h2
   refine Z6j (h:=h.push _) (fun p hp=>?_) (fun x y c a b=>?_) h1 h2
   ·rw [Z0I]
    rcases Z0e.mp hp with rfl |hp
    ·exact Z1L _
    ·exact Z1x (hl p hp)
   ·rcases Z0e.mp a with e |a<;>rcases Z0e.mp b with e' |b
    ·cases e;cases e';rfl
    ·cases e;exact absurd (hl _ b) (Z0v _)
    ·cases e';exact absurd (hl _ a) (Z0v _)
    ·exact hi _ _ _ a b
  ·rename_i hk
   rw [if_neg hk]at h2
   exact Z6j hl hi h1 h2
theorem Z6Q{M:Model}{A:Around}{E:Value→Shared→Prop}{s:Shared}{scope:Scope}{globals:Addr}{closure:List (Str×Addr)}{qual:Str}{func:Option Addr}{code:Value}{around:Env}{builtins:Addr}{Q:Env→Shared→Prop}
  (h:Q (newEnv scope s.heap.objs.size globals (cellsFrom (s.heap.objs.size+1) scope.names closure) qual func code (some around) builtins)
    { s with heap:=pushCells (s.heap.push { cls:=.type "dict",data:=.dict #[] }) scope.names }) :
  wpAny M A (newFunctionEnv scope globals closure [] qual func code (some around) builtins) Q E s:=by
 simp only [newFunctionEnv,Option.isSome_some,if_true]
 refine wpAny_bind (wpAny_alloc ?_)
 refine wpAny_bind (wpAny_layCells _ (fun n k c=>rfl) scope.names closure _ _ ?_)
 rw [show({ s with heap:=s.heap.push { cls:=.type "dict",data:=.dict #[] } }:Shared).heap.objs.size=s.heap.objs.size+1 from Z0I ..]
 rw [List.forIn_nil]
 exact wpAny_bind (wpAny_pure (wpAny_pure h))
theorem Z5x{sc:Scope}:∀ {names:List (Str×NameKind)}{x:Str}{k:NameKind},
  (names.map fun(n,k)=>if (k==NameKind.free&&sc.kind==.function&&sc.names.lookup n==some .cell)then(n,NameKind.cell)else(n,k)).lookup x=some k →
  ∃ k',names.lookup x=some k'∧(k=k'∨(k'=.free∧k=.cell))
 |[],_,_,h=>by simp at h
 |(n,k₀)::r,x,k,h=>by
  have ih:=@Z5x sc r x k
  have h':List.lookup x ((if (k₀==NameKind.free&&sc.kind==.function&&sc.names.lookup n==some .cell)=true then(n,NameKind.cell)else(n,k₀))::(r.map _))=some k:=h
  cases hx:x==n with
  |true =>
   simp only [Z0c,hx]
   by_cases hc:(k₀==NameKind.free&&sc.kind==.function&&sc.names.lookup n==some .cell)=true
   ·rw [if_pos hc]at h'
    simp only [Z0c,hx]at h'
    cases h'
    simp only [Z0B,beq_iff_eq]at hc
    exact⟨k₀,rfl,.inr ⟨hc.1.1,rfl⟩⟩
   ·rw [if_neg hc]at h'
    simp only [Z0c,hx]at h'
    cases h'
    exact⟨_,rfl,.inl rfl⟩
  |false =>
   simp only [Z0c,hx]
   by_cases hc:(k₀==NameKind.free&&sc.kind==.function&&sc.names.lookup n==some .cell)=true
   ·rw [if_pos hc]at h'
    simp only [Z0c,hx]at h'
    exact ih h'
   ·rw [if_neg hc]at h'
    simp only [Z0c,hx]at h'
    exact ih h'
structure BlkOk(N:List Str)(sc scope:Scope)(own:List (Str×Nat)):Prop where
 kind:scope.kind=.function
 uniq:∀ y∈scope.names,scope.names.lookup y.1=some y.2
 ix:∀ p∈own,N[p.2]?=some p.1
 free:∀ y∈scope.names,y.2=.free→sc.names.lookup y.1=some .cell∨sc.names.lookup y.1=some .free
 own:∀ y∈scope.names,y.2=.local∨y.2=.cell→y.1∈own.map (·.1)∨y.1∉N
def wipe(σ:St):List Nat→St
 |[]=>σ
 |v::vs=>(wipe σ vs).set v none
theorem Z4D(σ:St):∀ vs:List Nat,(wipe σ vs).length=σ.length
 |[]=>rfl
 |v::vs=>by unfold wipe;rw [List.length_set,Z4D σ vs]
theorem Z5q{σ:St}{i:Nat}{x:V}:∀ {vs:List Nat},(wipe σ vs)[i]?=some (some x)→σ[i]?=some (some x)∧i∉vs
 |[],h=>⟨h,by simp⟩
 |v::vs,h=>by
  unfold wipe at h
  by_cases hi:v=i
  ·subst hi
   by_cases hv:v<(wipe σ vs).length
   ·rw [Z1w hv]at h;cases h
   ·rw [List.getElem?_eq_none (by simpa using hv)]at h;cases h
  ·rw [Z1J hi]at h
   obtain⟨h1,h2⟩:=Z5q h
   exact⟨h1,by simp only [Z0e,not_or];exact⟨fun e=>hi e.symm,h2⟩⟩
abbrev Cx.blk(X:Cx)(s:Shared)(H:Hp)(scope:Scope)(cenv:Env)(fp:List Addr):Cx:={ X with s_0:=s,H_0:=H,env:=cenv,outer:=X.stack,ex:=fp,fn:=fun x=>scope.names.lookup x==some .cell,pn:=[],xe:=fun _ _=>False }
section
variable{X:Cx}{pins:List (Addr×Obj)}{σ:St}{H:Hp}{s:Shared}
theorem Z6N{scope:Scope}{own:List (Str×Nat)}{fp:List Addr}(I:Inv X pins σ H s)(ok:BlkOk X.N X.env.scope scope own)(hN:X.N.Nodup)(hfp:∀ b∈fp,FpOk X pins H b∧b<s.heap.objs.size) :
  Inv (X.blk s H scope (compEnvC scope (cellsFrom (s.heap.objs.size+1) scope.names (Z2C X.env.cells scope.names [])) s.heap.objs.size X.env) fp) [] (wipe σ (own.map (·.2))) H { s with heap:=pushCells (s.heap.push { cls:=.type "dict",data:=.dict #[] }) scope.names }:=by
 have hfree:∀ y∈scope.names,y.2=.free→∃ c,X.env.cells.lookup y.1=some c:=fun y hy e=>by
  rcases ok.free y hy e with k |k
  ·exact I.ok.has _ (.inl k)
  ·exact I.ok.has _ (.inr k)
 generalize hcenv:compEnvC scope (cellsFrom (s.heap.objs.size+1) scope.names (Z2C X.env.cells scope.names [])) s.heap.objs.size X.env=cenv
 have kp:∀ b o,s.heap.get? b=some o→(pushCells (s.heap.push { cls:=.type "dict",data:=.dict #[] }) scope.names).get? b=some o:=fun b o e=>pushCells_keeps _ _ _ _ (Z0n _ e)
 have hL:cenv.locals=s.heap.objs.size:=by rw [←hcenv];rfl
 have hcl:cenv.cells=cellsFrom (s.heap.objs.size+1) scope.names (Z2C X.env.cells scope.names []):=by rw [←hcenv];rfl
 have hsc:cenv.scope=relS scope X.env.scope:=by rw [←hcenv];rfl
 rw [←Z0I s.heap { cls:=.type "dict",data:=.dict #[] }]at hcl
 have cm:∀ {y c},(y,c)∈Z2C X.env.cells scope.names []→X.env.cells.lookup y=some c∧c<s.heap.objs.size:=fun{y c} hm=>by
  rcases Z3V hm with hm |⟨h1,rfl⟩
  ·cases hm
  ·obtain⟨c,hc⟩:=hfree _ h1 rfl
   rw [hc]
   obtain⟨w,z⟩:=I.cell _ _ hc
   exact⟨rfl,z.lt⟩
 have mem:∀ {y c},cenv.cells.lookup y=some c→(X.env.cells.lookup y=some c∧c<s.heap.objs.size)∨(s.heap.objs.size+1≤c∧CellAt (pushCells (s.heap.push { cls:=.type "dict",data:=.dict #[] }) scope.names) c none):=fun{y c} e=>by
  rw [hcl]at e
  rcases Z4M (PySem.mem_of_lookup e)with hm |⟨_,h2,h3⟩
  ·exact .inl (cm hm)
  ·rw [Z0I]at h2;exact .inr ⟨h2,h3⟩
 have look:∀ {y},scope.names.lookup y=some .free→∃ c,cenv.cells.lookup y=some c∧X.env.cells.lookup y=some c:=fun{y} hl=>by
  have hy:(y,NameKind.free)∈scope.names:=PySem.mem_of_lookup hl
  obtain⟨c',e'⟩:=Z4n (Z5r (names:=scope.names) (n:=(s.heap.push { cls:=.type "dict",data:=.dict #[] }).objs.size) (Z3U (cells:=X.env.cells) (acc:=[]) hy))
  rw [←hcl]at e'
  refine⟨c',e',?_⟩
  rw [hcl]at e'
  rcases Z4M (PySem.mem_of_lookup e')with hm |⟨h1,_,_⟩
  ·exact(cm hm).1
  ·have:=ok.uniq _ h1
   rw [hl]at this;cases this
 have okB:(X.blk s H scope cenv fp).Ok:=by
  refine⟨I.ok.mod,by show cenv.scope.kind=_;rw [hsc];exact ok.kind,by show cenv.globals=_;rw [←hcenv];exact I.ok.glob,by show cenv.builtins=_;rw [←hcenv];exact I.ok.blt,by show s.heap.objs.size≤cenv.locals;rw [hL];exact Z0d _,
   fun y z c e1 e2=>?_,fun y hy=>?_,fun y c z e=>?_,I.ok.hd,I.ok.frames,.inl rfl,fun b hb=>⟨?_,fun y c e z=>?_⟩,I.bs,Z0A I.ok.bsz I.sz,fun b o e hb=>?_,fun b hb z=>?_,I.stack,I.stkFree⟩
  ·have e1:cenv.cells.lookup y=some c:=e1
   have e2:cenv.cells.lookup z=some c:=e2
   rw [hcl]at e1 e2
   refine Z6j (fun p hp=>?_) (fun y z c a b=>I.ok.inj y z c (cm a).1 (cm b).1) (PySem.mem_of_lookup e1) (PySem.mem_of_lookup e2)
   rw [Z0I]
   exact Z1x (cm (y:=p.1) (c:=p.2) hp).2
  ·show ∃ c,cenv.cells.lookup y=some c
   have key:∀ k,cenv.kindOf y=some k→(k=.cell∨k=.free)→∃ c,cenv.cells.lookup y=some c:=fun k hk hk'=>by
    unfold Env.kindOf at hk
    rw [hsc]at hk
    obtain⟨k',e,r⟩:=Z5x hk
    have:k'=.cell∨k'=.free:=by
     rcases r with rfl |⟨rfl,_⟩
     ·exact hk'
     ·exact .inr rfl
    rcases this with rfl |rfl
    ·obtain⟨c,hm⟩:=Z6B (n:=(s.heap.push { cls:=.type "dict",data:=.dict #[] }).objs.size) (acc:=Z2C X.env.cells scope.names []) (PySem.mem_of_lookup e)
     obtain⟨c',e'⟩:=Z4n hm
     exact⟨c',by rw [hcl];exact e'⟩
    ·obtain⟨c,h1,_⟩:=look e
     exact⟨c,h1⟩
   rcases hy with hy |hy
   ·exact key _ hy (.inl rfl)
   ·exact key _ hy (.inr rfl)
  ·have z:(scope.names.lookup y==some NameKind.cell)=true:=z
   have z:scope.names.lookup y=some .cell:=by simpa using z
   have e:cenv.cells.lookup y=some c:=e
   rw [hcl]at e
   rcases Z4M (PySem.mem_of_lookup e)with hm |⟨_,h2,_⟩
   ·rcases Z3V hm with hm |⟨h1,_⟩
    ·cases hm
    ·have q:=ok.uniq _ h1
     rw [z]at q;cases q
   ·rw [Z0I]at h2
    exact Z1M h2
  ·show b≠cenv.locals
   rw [hL];exact Z0o (hfp b hb).2
  ·have e:cenv.cells.lookup y=some c:=e
   rcases mem e with⟨h1,_⟩ |⟨h1,_⟩
   ·exact(hfp b hb).1.2.2.2.2.1 y c h1 z
   ·have h2:s.heap.objs.size+1≤b:=by rw [←z];exact h1
    exact absurd (Z0w (hfp b hb).2 (Z1M h2)) (Z0v _)
  ·rcases(hfp b hb).1.2.2.2.1 with z |z
   ·exact I.ok.noex b o e z
   ·exact absurd (Z0w (Z0f e) (Z0A I.ok.bsz z)) (Z0v _)
  ·rcases Z0e.mp (I.stkSub b z)with z |z
   ·exact(hfp b hb).1.2.1 z
   ·exact(hfp b hb).1.2.2.1 z
 refine⟨okB,rfl,I.bare,Un.kept kp,⟨fun _=>none,?_,fun i y av e1 e2 e3=>?_⟩,fun y c e=>?_,?_,fun y c e=>?_,fun p hp=>?_,I.hok.kept kp,by rw [Z4D];exact I.len⟩
 ·show Heap.Ns _ cenv.locals _
  rw [hL]
  exact Heap.Ns.keeps (Heap.Ns.new ..) fun b o e=>pushCells_keeps _ _ _ _ e
 ·obtain⟨e2,hne⟩:=Z5q e2
  have hfr:scope.names.lookup y=some .free∧(cenv.kindOf y=some .cell∨cenv.kindOf y=some .free):=by
   have key:∀ k,cenv.scope.names.lookup y=some k→k=.local∨k=.cell∨k=.free→scope.names.lookup y=some .free∧(cenv.kindOf y=some .cell∨cenv.kindOf y=some .free):=fun k hk hk'=>by
    have hk0:=hk
    rw [hsc]at hk
    obtain⟨k',e,r⟩:=Z5x hk
    have no:¬ (k'=.local∨k'=.cell):=fun hh=>by
     rcases ok.own _ (PySem.mem_of_lookup e) hh with e' |e'
     ·obtain⟨p,hp,hpy⟩:=Z0H.mp e'
      have e3:=ok.ix p hp
      have:p.1=y:=hpy
      rw [this]at e3
      exact hne (Z0H.mpr ⟨p,hp,Z7e hN e3 e1⟩)
     ·exact e' (Z0u e1)
    rcases r with rfl |⟨rfl,rfl⟩
    ·rcases hk' with rfl |rfl |rfl
     ·exact absurd (.inl rfl) no
     ·exact absurd (.inr rfl) no
     ·exact⟨e,.inr hk0⟩
    ·exact⟨e,.inl hk0⟩
   have e3:Vis cenv.scope y:=e3
   rcases e3 with e3 |e3 |e3
   ·exact key _ e3 (.inl rfl)
   ·exact key _ e3 (.inr (.inl rfl))
   ·exact key _ e3 (.inr (.inr rfl))
  obtain⟨m,hn,hl⟩:=I.loc
  have hvis:Vis X.env.scope y:=(ok.free _ (PySem.mem_of_lookup hfr.1) rfl).elim (fun k=>.inr (.inl k)) (fun k=>.inr (.inr k))
  obtain⟨w,r,q⟩:=hl i y av e1 e2 hvis
  refine⟨w,r,.inr ⟨hfr.2,?_⟩⟩
  obtain⟨c,h1,h2⟩:=look hfr.1
  rcases q with⟨k,_⟩ |⟨_,c',e',z⟩
  ·have k:X.env.scope.names.lookup y=some .local:=k
   rcases ok.free _ (PySem.mem_of_lookup hfr.1) rfl with k' |k'<;>rw [show X.env.scope.names.lookup y=_ from k']at k<;>cases k
  ·rw [h2]at e';cases e'
   exact⟨c,h1,z.keeps kp⟩
 ·have e:cenv.cells.lookup y=some c:=e
  rcases mem e with⟨h1,_⟩ |⟨_,z⟩
  ·obtain⟨w,z⟩:=I.cell y c h1
   exact⟨w,z.keeps kp⟩
  ·exact⟨_,z⟩
 ·show H cenv.locals=none
  rw [hL];exact I.hok.fresh (Z0d _)
 ·have e:cenv.cells.lookup y=some c:=e
  rcases mem e with⟨h1,_⟩ |⟨h1,_⟩
  ·exact I.freeC y c h1
  ·exact I.hok.fresh (Z1M h1)
 ·exact absurd (show p∈([]:List (Addr×Obj))++[]from hp) (by simp)
theorem app_ok{E:Value→Shared→Prop}{D:Addr}{xs:List V}{y:V}{v:Value}{Q:Value→Shared→Prop}(I:Inv X pins σ H s)(hD:H D=some (.lst xs))(hz:xs.length<sizeLine)(r:RelV y v)
  (h:∀ s',Inv X pins σ (upd H D (.lst (xs++[y]))) s'→Q .none s'):wpAny (model X.prog X.w) X.A (call (.builtin "list.append") [.ref D,v]) Q E s:=by
 obtain⟨hz',its,n,ri,e⟩:=I.hok D _ hD
 have hl:=ri.length
 refine append_at (hsz:=by rw [Z0s];omega) e fun h' sb ho'=>?_
 refine h { s with heap:=h' } (I.write (t':=s.toks) (by rw [hD];trivial) (.inl rfl) (fun b u hb q=>(sb.2 b hb).trans q) ⟨_,ho'⟩ ⟨by rw [Z0x];exact hz,its++[v],n+1,ri.append (.cons r .nil),?_⟩)
 rw [ho']
 simp
def PTs(X:Cx)(ifs:List Expr)(t:TT):Prop :=
 ∀ (pins:List (Addr×Obj))(s:Shared)(σ:St)(H:Hp)(Q:Bool→Hp→Prop),Inv X pins σ H s→t σ H Q →
  wpAny (model X.prog X.w) X.A (forIn ifs true fun c r=>if r=true then do let ok ←isTrue c X.env (eval c X.env);pure (ForInStep.yield ok)else pure (ForInStep.yield r)) (TP X pins σ Q) X.xe s
def tYes:TT:=fun _ H Q=>Q true H
theorem Z4f:PTs X [] tYes:=fun _ _ _ H _ I h=>wpAny_tests_nil ⟨H,I,h⟩
end
theorem thnF{α:Type}{t:Sem α}{Q Q':α→Shared→Prop}{M:Model}{A:Around}{E:Value→Shared→Prop}{s:Shared}(h:wpAny M A t Q (fun _ _=>False) s)(hQ:∀ a s,Q a s→Q' a s):wpAny M A t Q' E s:=wpAny_mono h hQ fun _ _ z=>False.elim z
theorem Z6u{prog:Program}{w:World}{A:Around}{R:Result→Shared→Prop}{s:Shared}{elt target iter:Expr}{ifs:List Expr}{scope:Scope}{pos:Pos}{it acc:Value}{env:Env}(I:Nat→Shared→Prop)
  (turn:∀ n s,I n s→wpAny (model prog w) A (pyNext it) (fun r s₁=>match r with
    |none=>R (.ok .next) s₁
    |some v=>wpAny (model prog w) A (letOwnedTupleGo target it v) (fun _ s₁'=>wpAny (model prog w) A (assign target env v) (fun _ s₂ =>
      wpAny (model prog w) A (forIn ifs true fun c r=>if r=true then do let ok ←isTrue c env (eval c env);pure (ForInStep.yield ok)else pure (ForInStep.yield r)) (fun ok s₃ =>
       if ok=true then wpAny (model prog w) A (eval elt env) (fun x s₄ =>
        wpAny (model prog w) A (call (.builtin "list.append") [acc,x]) (fun _ s₅=>∃ m,m<n∧I m s₅) (notedBy (model prog w) A env fun e s'=>R (.error e) s') s₄) (notedBy (model prog w) A env fun e s'=>R (.error e) s') s₃
       else ∃ m,m<n∧I m s₃) (notedBy (model prog w) A env fun e s'=>R (.error e) s') s₂) (notedBy (model prog w) A env fun e s'=>R (.error e) s') s₁') (notedBy (model prog w) A env fun e s'=>R (.error e) s') s₁) (notedBy (model prog w) A env fun e s'=>R (.error e) s') s)
  (n:Nat)(h:I n s) :
  codeAny (model prog w) A (.compLoop (.ListComp elt [⟨target,iter,ifs,0⟩] scope pos) 0 it acc env) R s:=by
 refine codeAny_loop rfl I (fun n s hI=>?_) n h
 show wpAny _ A ((compTurn (.ListComp elt [⟨target,iter,ifs,0⟩] scope pos) 0 it acc env).onRaise (fun x=>do noteFrame x env;theTreesLotGoes x)) _ _ s
 refine wpAny_noted ?_
 rw [compTurn_list]
 refine wpAny_bind (wpAny_standAt (wpAny_bind (wpAny_mono (turn n s hI) (fun r s₁ h₁=>?_) fun _ _ h'=>h')))
 cases r with
 |none=>exact wpAny_pure h₁
 |some v =>
  refine wpAny_bind (wpAny_mono h₁ (fun _ s₁' h₁'=>?_) fun _ _ h'=>h')
  refine wpAny_bind (wpAny_mono h₁' (fun _ s₂ h₂=>wpAny_bind (wpAny_mono h₂ (fun ok s₃ h₃=>?_) fun _ _ h'=>h')) fun _ _ h'=>h')
  cases ok with
  |false=>exact wpAny_pure ⟨rfl,h₃⟩
  |true =>
   exact wpAny_bind (wpAny_bind (wpAny_mono h₃ (fun x s₄ h₄=>wpAny_bind (wpAny_mono h₄ (fun _ s₅ h₅=>wpAny_pure (wpAny_pure ⟨rfl,h₅⟩)) fun _ _ h'=>h')) fun _ _ h'=>h'))
section
variable{X:Cx}
def tLc(wi:TI)(g:TG)(tt:TT)(te:TE)(vs:List Nat):TE:=fun σ H Q=>wi σ H fun J H1=>∀ D,H1 D=none→∃ W:Nat→Nat→Hp→Prop,(∃ m,W 0 m (upd H1 D (.lst [])))∧∀ i m H,W i m H →
 (J.stop i H∧Q (.ref D) H)∨(J.go i H∧∃ Nx:Hp→Prop,(∀ H',Nx H'→∃ m',m' < m∧W (i+1) m' H')∧∀ x H',J.yld i H x H'→g x (wipe σ vs) H' fun σ2 H2=>wipe σ2 vs=wipe σ vs∧tt σ2 H2 fun b H3 =>
   if b=true then te σ2 H3 fun y H4=>∃ acc,H4 D=some (.lst acc)∧acc.length<sizeLine∧Nx (upd H4 D (.lst (acc++[y])))else Nx H3)
theorem lc_core{pins:List (Addr×Obj)}{s:Shared}{σ:St}{H:Hp}{Q:VK}{elt tg iter:Expr}{ifs:List Expr}{scope:Scope}{own:List (Str×Nat)}{pos pos':Pos}{wi:TI}{g:TG}{tt:TT}{te:TE}{use:Option (Value→Sem Unit)}{Qf:Value→Shared→Prop}
  (hc:X.calm=true)(hN:X.N.Nodup)(I:Inv X pins σ H s)(hi:PI X tg iter wi)(ok:BlkOk X.N X.env.scope scope own)
  (hg:∀ (s:Shared)(H:Hp)(C:Addr)(cl:List (Str×Addr))(fp:List Addr),PG (X.blk s H scope (compEnvC scope cl C X.env) fp) tg g)(ht:∀ (s:Shared)(H:Hp)(C:Addr)(cl:List (Str×Addr))(fp:List Addr),PTs (X.blk s H scope (compEnvC scope cl C X.env) fp) ifs tt)
  (he:∀ (s:Shared)(H:Hp)(C:Addr)(cl:List (Str×Addr))(fp:List Addr),PE (X.blk s H scope (compEnvC scope cl C X.env) fp) elt te)(hs:∀ x,foldedSetIterable iter X.env x=pure x)
  (h:tLc wi g tt te (own.map (·.2)) σ H Q)
  (hRR:∀ D C s' m H',Inv X pins σ H' s'→Q (.ref D) H'→s'.heap.Ns C m→FpOk X pins H' C→compPost (model X.prog X.w) X.A X.xe use Qf (.ref D) C (.ok .next) s') :
  wpAny (model X.prog X.w) X.A (comprehension (.ListComp elt [⟨tg,iter,ifs,0⟩] scope pos) scope X.env pos' (newList []) false (eval iter X.env) use) Qf X.xe s:=by
 have hfree:∀ y∈scope.names,y.2=.free→∃ c,X.env.cells.lookup y.1=some c:=fun y hy e=>by
  rcases ok.free y hy e with k |k
  ·exact I.ok.has _ (.inl k)
  ·exact I.ok.has _ (.inr k)
 refine wpAny_comprehension_free (use:=use) rfl hs (Z5Z hfree) ok.kind (fun y hy e=>by rw [ok.uniq y hy,e])
  (thn (hi pins s σ H _ I h) fun xv s1 hx=>thn hx fun itv s2 h2=>?_)
 obtain⟨it,fp,tn,J,H2,e,I2,T,st2,f2,q⟩:=h2
 subst e
 refine wpAny_newObj_type (Z6Q ?_) (by show 0≤sizeLine;decide)
 generalize hD:s2.heap.objs.size=D
 have hDn:H2 D=none:=I2.hok.fresh (Z0Y hD)
 obtain⟨W,⟨m0,w0⟩,turn⟩:=q D hDn
 generalize hs3:({ s2 with heap:=s2.heap.push { cls:=.type "list",data:=.seq ([]:List Value).toArray } }:Shared)=s3
 have I3:Inv X pins σ (upd H2 D (.lst [])) s3:=by
  rw [←hs3]
  refine I2.laid (t':=s2.toks) (fun b o e=>Z0n _ e) (Z0Y hD) ⟨Z0p _,[],0,.nil,?_⟩
  rw [←hD]
  exact Z0E _ rfl
 have h3:s3.heap=s2.heap.push { cls:=.type "list",data:=.seq ([]:List Value).toArray }:=by rw [←hs3]
 have sz:∀ b∈fp,b<s2.heap.objs.size:=fun b hb=>by
  obtain⟨o,e,_⟩:=T.obj _ _ st2 b hb
  exact Z0f e
 have f3:∀ b∈fp,FpOk X pins (upd H2 D (.lst [])) b∧b<s3.heap.objs.size:=fun b hb=>by
  have hlt:=sz b hb
  refine⟨⟨?_,(f2 b hb).2⟩,by rw [h3,Z0I];exact Z1x hlt⟩
  rw [Z2m (by rw [←hD];exact Z0o hlt)]
  exact(f2 b hb).1
 have st3:tn 0 s3.heap:=T.keep _ _ _ st2 fun b _ o e=>by rw [h3];exact Z0n _ e
 have I4:=Z6N I3 ok hN f3
 have pg:=hg s3 (upd H2 D (.lst [])) s3.heap.objs.size (cellsFrom (s3.heap.objs.size+1) scope.names (Z2C X.env.cells scope.names [])) fp
 have pt:=ht s3 (upd H2 D (.lst [])) s3.heap.objs.size (cellsFrom (s3.heap.objs.size+1) scope.names (Z2C X.env.cells scope.names [])) fp
 have pe:=he s3 (upd H2 D (.lst [])) s3.heap.objs.size (cellsFrom (s3.heap.objs.size+1) scope.names (Z2C X.env.cells scope.names [])) fp
 show codeAny _ _ (.compStart (.ListComp elt [⟨tg,iter,ifs,0⟩] scope pos) 0 (.ref it) (.ref D) (compEnvC scope (cellsFrom (s3.heap.objs.size+1) scope.names (Z2C X.env.cells scope.names [])) s3.heap.objs.size X.env)) (compPost (model X.prog X.w) X.A X.xe use Qf (.ref D) s3.heap.objs.size) { s3 with heap:=pushCells (s3.heap.push { cls:=.type "dict",data:=.dict #[] }) scope.names }
 have nfp:∀ b∈fp,(upd H2 D (.lst [])) b=none:=fun b hb=>(f3 b hb).1.1
 generalize hce:compEnvC scope (cellsFrom (s3.heap.objs.size+1) scope.names (Z2C X.env.cells scope.names [])) s3.heap.objs.size X.env=ce at I4 pg pt pe ⊢
 have cL:ce.locals=s3.heap.objs.size:=by subst hce;rfl
 generalize hH3:upd H2 D (.lst [])=H3 at I3 I4 pg pt pe w0 nfp f3
 generalize hs4:({ s3 with heap:=pushCells (s3.heap.push { cls:=.type "dict",data:=.dict #[] }) scope.names }:Shared)=s4 at I4 ⊢
 have st4:tn 0 s4.heap:=T.keep _ _ _ st3 fun b _ o e=>by rw [←hs4];exact pushCells_keeps _ _ _ _ (Z0n _ e)
 have stat:∀ {σ':St}{H':Hp}{s':Shared},Inv (X.blk s3 H3 scope ce fp) [] σ' H' s'→(∀ b∈fp,H' b=none)→∀ b∈fp,FpOk (X.blk s3 H3 scope ce fp) [] H' b:=fun{σ' H' s'} I' hn b hb =>
  ⟨hn b hb,(I'.ok.exf b hb).1,I'.ok.exfs b hb,.inl hb,fun x c e=>(I'.ok.exf b hb).2 x c e,fun p hp=>absurd (show p∈([]:List (Addr×Obj))++[]from hp) (by simp)⟩
 have loop:codeAny (model X.prog X.w) X.A (.compLoop (.ListComp elt [⟨tg,iter,ifs,0⟩] scope pos) 0 (.ref it) (.ref D) ce) (compPost (model X.prog X.w) X.A X.xe use Qf (.ref D) s3.heap.objs.size) s4:=by
  refine Z6u (fun n s'=>∃ i H',Inv (X.blk s3 H3 scope ce fp) [] (wipe σ (own.map (·.2))) H' s'∧tn i s'.heap∧(∀ b∈fp,H' b=none)∧W i n H') ?_ m0 ⟨0,H3,I4,st4,nfp,w0⟩
  rintro n s5 ⟨i,H5,I5,st5,n5,w5⟩
  rcases turn i n H5 w5 with⟨stop,qq⟩ |⟨go,Nx,hNx,step⟩
  ·have td:=T.done (X.blk s3 H3 scope ce fp) rfl rfl rfl hc i [] s5 _ H5 (fun _ _=>False) I5 (stat I5 n5) st5 stop
   refine thnF td fun r s6 ⟨hr,I6⟩=>?_
   subst hr
   have I7:Inv X pins σ H5 s6:=I3.call' (ch:=fp) I6.os I6.base I6.hok I6.bare fun b hb=>⟨(f3 b hb).1.2.2.2.1,(f3 b hb).1.2.1,(f3 b hb).1.2.2.2.2.1,(f3 b hb).1.2.2.2.2.2⟩
   have nC:H5 s3.heap.objs.size=none:=by
    have z:H5 ce.locals=none:=I6.free
    rw [cL]at z
    exact z
   obtain⟨m,hn,_⟩:=I6.loc
   have hn:s6.heap.Ns ce.locals m:=hn
   rw [cL]at hn
   exact hRR D s3.heap.objs.size s6 m H5 I7 qq hn (I3.fpOk (Z0d _) nC)
  ·have ti:=T.item (X.blk s3 H3 scope ce fp) rfl rfl rfl hc i [] s5 _ H5 (fun _ _=>False) I5 (stat I5 n5) st5 go
   refine thnF ti fun r s6 ⟨u,hr,h6⟩=>?_
   subst hr
   refine thnF h6 fun _ s7 ⟨x,H7,I7,r7,y7,st7,n7⟩=>?_
   have I7':=I7.pinned (stat I7 n7) (T.obj _ _ st7)
   refine thnF (pg _ s7 _ H7 x u _ I7' r7 (step x H7 y7)) fun _ s8 ⟨σ8,H8,I8,hw8,q8⟩=>?_
   refine thnF (pt _ s8 σ8 H8 _ I8 q8) fun b s9 ⟨H9,I9,q9⟩=>?_
   have fin:∀ {s':Shared}{H':Hp},Inv (X.blk s3 H3 scope ce fp) ([]++Z5B fp s7.heap) σ8 H' s'→Nx H'→∃ m,m<n∧∃ i H',Inv (X.blk s3 H3 scope ce fp) [] (wipe σ (own.map (·.2))) H' s'∧tn i s'.heap∧(∀ b∈fp,H' b=none)∧W i m H':=fun{s' H'} I' nx=>by
    obtain⟨m',hm,w'⟩:=hNx H' nx
    have pin':∀ b∈fp,∀ o,s7.heap.get? b=some o→s'.heap.get? b=some o∧H' b=none:=fun b hb o e =>
     let z:=I'.pin (b,o) (Z0L _ (Z0L _ (Z4P hb e)))
     ⟨z.1,z.2.1⟩
    have hl:(wipe σ (own.map (·.2))).length=σ8.length:=by rw [←hw8,Z4D]
    refine⟨m',hm,i+1,H',(I'.unpinned (pins:=[])).weak hl (fun j v e=>?_),T.keep _ _ _ st7 fun b hb o e=>(pin' b hb o e).1,fun b hb=>?_,w'⟩
    ·rw [←hw8]at e
     exact(Z5q e).1
    ·obtain⟨o,e,_⟩:=T.obj _ _ st7 b hb
     exact(pin' b hb o e).2
   cases b with
   |false =>
    simp only [Bool.false_eq_true,if_false]at q9 ⊢
    exact fin I9 q9
   |true =>
    simp only [if_true]at q9 ⊢
    refine thnF (pe _ s9 σ8 H9 _ I9 q9) fun z s10 ⟨yv,H10,I10,r10,acc,hD10,hz10,nx⟩=>?_
    exact app_ok (X:=X.blk s3 H3 scope ce fp) I10 hD10 hz10 r10 fun s11 I11=>fin I11 nx
 exact codeAny_compStart_list loop (T.self X.A 0 _ _ _ st4 loop)
theorem Z5o{i:Nat}{y:Str}{py:Pos}{elt tg iter:Expr}{ifs:List Expr}{scope:Scope}{own:List (Str×Nat)}{pos spos:Pos}{wi:TI}{g:TG}{tt:TT}{te:TE}(hc:X.calm=true)(hN:X.N.Nodup)(hy:X.N[i]?=some y)(hyl:X.env.scope.names.lookup y=some .local)
  (hsw:swapsWith (.ListComp elt [⟨tg,iter,ifs,0⟩] scope pos) (some (.Name y py)) spos.line X.env=pure true)(hi:PI X tg iter wi)(ok:BlkOk X.N X.env.scope scope own)
  (hg:∀ (s:Shared)(H:Hp)(C:Addr)(cl:List (Str×Addr))(fp:List Addr),PG (X.blk s H scope (compEnvC scope cl C X.env) fp) tg g)(ht:∀ (s:Shared)(H:Hp)(C:Addr)(cl:List (Str×Addr))(fp:List Addr),PTs (X.blk s H scope (compEnvC scope cl C X.env) fp) ifs tt)
  (he:∀ (s:Shared)(H:Hp)(C:Addr)(cl:List (Str×Addr))(fp:List Addr),PE (X.blk s H scope (compEnvC scope cl C X.env) fp) elt te)(hs:∀ x,foldedSetIterable iter X.env x=pure x:=by intro _;rfl) :
  PS X (.Assign [.Name y py] (.ListComp elt [⟨tg,iter,ifs,0⟩] scope pos) spos) (tAsg (tLc wi g tt te (own.map (·.2))) (gName i)):=by
 intro pins s σ H D I h
 rw [exec_Assign_Name_used _ _ _ _ hsw]
 refine wpAny_bind (wpAny_standAt (wpAny_bind ?_))
 show wpAny _ X.A (do let _ ←comprehension (.ListComp elt [⟨tg,iter,ifs,0⟩] scope pos) scope X.env (firstIterPos [⟨tg,iter,ifs,0⟩] pos) (newList []) false (eval iter X.env) (some (assign (.Name y py) X.env))) _ _ s
 have h:tLc wi g tt te (own.map (·.2)) σ H (fun x H1=>gName i x σ H1 D.nx):=h
 refine wpAny_bind (thn (lc_core (Qf:=fun _ s'=>SP X pins D .next s') hc hN I hi ok hg ht he hs h fun L C s' m H' I' q hn f=>?_) fun _ s' hq=>wpAny_pure (wpAny_pure hq))
 show wpAny _ _ (assign (.Name y py) X.env (.ref L)) _ _ _
 refine wpAny_assign_Name (Z6r (v:=V.ref L) I' hN hy (.inl hyl) rfl (fun s2 I2 ⟨a,sb,ha⟩=>?_) (.inr hyl))
 obtain⟨f0,f1,f2,f3,f4,f5⟩:=f
 have haC:C≠a:=by
  rcases ha with z |z
  ·rw [z];exact f1
  ·exact fun e=>f4 y a z e.symm
 refine⟨m,hn.sameBut sb haC,fun h3 sb3=>?_⟩
 exact⟨_,H',I2.turned (t':=s2.toks) (fun b o hb e=>(sb3.2 b hb).trans e) f0 f1 f3 f4 f5,q⟩
theorem Z4g{elt:Expr}{gs:List Comprehension}{scope:Scope}{pos py:Pos}{y:Str}{l:Nat}{env:Env}(hk:env.scope.kind=.function)(hy:env.scope.names.lookup y=some .local)(hl:(py.line==pos.line)=true)
  (ha:(scope.names.any fun(n,k)=>n==y&&(k==.local ||k==.cell))=false):swapsWith (.ListComp elt gs scope pos) (some (.Name y py)) l env=pure true:=by
 have ky:env.kindOf y=some .local:=hy
 have hb:env.blockKind=.function:=by unfold Env.blockKind;rw [hk];rfl
 unfold swapsWith
 simp only [hb,ky,ha,Expr.pos,hl]
 rfl
end
theorem Z6c{lo:Int}{n:Nat}{g:TG}{tt:TT}{te:TE}{vs:List Nat}{σ:St}{H1:Hp}{D:Addr}{Qd:Hp→Prop}(Pv:Nat→Hp→Prop)(h0:Pv 0 (upd H1 D (.lst [])))
  (hs:∀ i H,i<n→Pv i H→g (.int (lo+i)) (wipe σ vs) H fun σ2 H2=>wipe σ2 vs=wipe σ vs∧tt σ2 H2 fun b H3 =>
    if b=true then te σ2 H3 fun y H4=>∃ acc,H4 D=some (.lst acc)∧acc.length<sizeLine∧Pv (i+1) (upd H4 D (.lst (acc++[y])))else Pv (i+1) H3)(hd:∀ H,Pv n H→Qd H) :
  ∃ W:Nat→Nat→Hp→Prop,(∃ m,W 0 m (upd H1 D (.lst [])))∧∀ i m H,W i m H →
   ((Itr lo n).stop i H∧Qd H)∨((Itr lo n).go i H∧∃ Nx:Hp→Prop,(∀ H',Nx H'→∃ m',m' < m∧W (i+1) m' H')∧∀ x H',(Itr lo n).yld i H x H'→g x (wipe σ vs) H' fun σ2 H2=>wipe σ2 vs=wipe σ vs∧tt σ2 H2 fun b H3 =>
     if b=true then te σ2 H3 fun y H4=>∃ acc,H4 D=some (.lst acc)∧acc.length<sizeLine∧Nx (upd H4 D (.lst (acc++[y])))else Nx H3):=by
 refine⟨fun i m H=>m=n-i∧i≤n∧Pv i H,⟨n,by simp,Z0p _,h0⟩,?_⟩
 rintro i m H ⟨rfl,hi,p⟩
 by_cases hlt:i<n
 ·refine .inr ⟨hlt,Pv (i+1),fun H' p'=>⟨n-(i+1),by omega,rfl,hlt,p'⟩,fun x H' y=>?_⟩
  obtain⟨e,y⟩:=y
  subst e y
  exact hs i _ hlt p
 ·have e:i=n:=by omega
  subst e
  exact .inl ⟨Z0d _,hd H p⟩
theorem Z9O{K:Z0a}{a:Addr}{xs:List V}{g:TG}{tt:TT}{te:TE}{vs:List Nat}{σ:St}{H1:Hp}{D:Addr}{Qd:Hp→Prop}(Pv:Nat→Hp→Prop)(h0:Pv 0 (upd H1 D (.lst [])))(hl:∀ i H,i≤xs.length→Pv i H→SqL K H a xs)
  (hs:∀ i x H,xs[i]?=some x→Pv i H→g x (wipe σ vs) H fun σ2 H2=>wipe σ2 vs=wipe σ vs∧tt σ2 H2 fun b H3 =>
    if b=true then te σ2 H3 fun y H4=>∃ acc,H4 D=some (.lst acc)∧acc.length<sizeLine∧Pv (i+1) (upd H4 D (.lst (acc++[y])))else Pv (i+1) H3)(hd:∀ H,Pv xs.length H→Qd H) :
  ∃ W:Nat→Nat→Hp→Prop,(∃ m,W 0 m (upd H1 D (.lst [])))∧∀ i m H,W i m H →
   ((Itl K a).stop i H∧Qd H)∨((Itl K a).go i H∧∃ Nx:Hp→Prop,(∀ H',Nx H'→∃ m',m' < m∧W (i+1) m' H')∧∀ x H',(Itl K a).yld i H x H'→g x (wipe σ vs) H' fun σ2 H2=>wipe σ2 vs=wipe σ vs∧tt σ2 H2 fun b H3 =>
     if b=true then te σ2 H3 fun y H4=>∃ acc,H4 D=some (.lst acc)∧acc.length<sizeLine∧Nx (upd H4 D (.lst (acc++[y])))else Nx H3):=by
 refine⟨fun i m H=>m=xs.length-i∧i≤xs.length∧Pv i H,⟨xs.length,by simp,Z0p _,h0⟩,?_⟩
 rintro i m H ⟨rfl,hi,p⟩
 have q:=hl i H hi p
 by_cases hlt:i<xs.length
 ·refine .inr ⟨⟨xs,xs[i],q,by simp [hlt]⟩,Pv (i+1),fun H' p'=>⟨xs.length-(i+1),by omega,rfl,hlt,p'⟩,fun x H' y=>?_⟩
  obtain⟨e,y⟩:=y
  subst e
  exact hs i x _ (y xs q) p
 ·have e:i=xs.length:=by omega
  subst e
  exact .inl ⟨⟨xs,q,Z0d _⟩,hd H p⟩
end L2
namespace L2
open PySem PySem.Spec PyProof.Rows
section
variable{prog:Program}{w:World}{A:Around}{R:Result→Shared→Prop}{s:Shared}{elt t0 i0 t1 i1:Expr}{ifs0 ifs1:List Expr}{scope:Scope}{pos:Pos}{it acc:Value}{env:Env}
end
section
variable{X:Cx}
end
end L2
namespace L2
open PySem PySem.Spec PyProof.Rows
section
variable{κ:Type}[DecidableEq κ]
def valV(kvs:List (κ×V))(k:κ):Option V:=(kvs.find? fun kv=>decide (kv.1=k)).map (·.2)
def putK(kvs:List (κ×V))(k:κ)(v:V):List (κ×V) :=
 if (kvs.any fun kv=>decide (kv.1=k))=true then kvs.map (fun kv=>if kv.1=k then(kv.1,v)else kv)else kvs++[(k,v)]
theorem valV_nil{k:κ}:valV ([]:List (κ×V)) k=none:=rfl
theorem Z3q{p:κ×V}{r:List (κ×V)}{k:κ}(e:p.1=k):valV (p::r) k=some p.2:=by simp [valV,Z1b,e]
theorem Z3o{p:κ×V}{r:List (κ×V)}{k:κ}(e:¬ p.1=k):valV (p::r) k=valV r k:=by simp [valV,Z1b,e]
theorem Z5l(k:κ):∀ kvs:List (κ×V),(kvs.any fun kv=>decide (kv.1=k))=(valV kvs k).isSome
 |[]=>rfl
 |p::r=>by
  rw [Z1a]
  by_cases e:p.1=k
  ·simp only [Z3q e,decide_eq_true e,Bool.true_or,Option.isSome_some]
  ·rw [Z3o e,decide_eq_false e,Bool.false_or];exact Z5l k r
theorem Z9s(k j:κ)(y:V):∀ kvs:List (κ×V),valV (kvs.map fun kv=>if kv.1=k then(kv.1,y)else kv) j=(valV kvs j).map fun x=>if j=k then y else x
 |[]=>rfl
 |p::r=>by
  have ih:=Z9s k j y r
  rw [Z0D]
  by_cases h:p.1=k
  ·rw [if_pos h]
   by_cases e:p.1=j
   ·rw [Z3q (p:=(p.1,y)) e,Z3q e,Z1c,if_pos (e.symm.trans h)]
   ·rw [Z3o (p:=(p.1,y)) e,Z3o e,ih]
  ·rw [if_neg h]
   by_cases e:p.1=j
   ·rw [Z3q (p:=p) e,Z3q e,Z1c,if_neg (fun z=>h (e.trans z))]
   ·rw [Z3o (p:=p) e,Z3o e,ih]
theorem Z8e(k j:κ)(y:V):∀ kvs:List (κ×V),valV kvs k=none→valV (kvs++[(k,y)]) j=if j=k then some y else valV kvs j
 |[],_=>by
  by_cases e:k=j
  ·rw [if_pos e.symm];exact Z3q (p:=(k,y)) e
  ·rw [if_neg (fun z=>e z.symm)];exact Z3o (p:=(k,y)) e
 |p::r,hn=>by
  rw [List.cons_append]
  have hk:¬ p.1=k:=fun z=>by rw [Z3q z]at hn;cases hn
  rw [Z3o hk]at hn
  have ih:=Z8e k j y r hn
  by_cases e:p.1=j
  ·rw [Z3q e,Z3q e,if_neg (fun z=>hk (e.trans z))]
  ·rw [Z3o e,Z3o e,ih]
theorem Z2M(kvs:List (κ×V))(k j:κ)(y:V):valV (putK kvs k y) j=if j=k then some y else valV kvs j:=by
 unfold putK
 by_cases a:(kvs.any fun kv=>decide (kv.1=k))=true
 ·rw [if_pos a,Z9s]
  rw [Z5l]at a
  by_cases e:j=k
  ·obtain⟨x,hx⟩:=Option.isSome_iff_exists.mp a
   rw [if_pos e,e,hx,Z1c,if_pos rfl]
  ·rw [if_neg e]
   cases valV kvs j with
   |none=>rfl
   |some x=>rw [Z1c,if_neg e]
 ·rw [if_neg a]
  refine Z8e k j y kvs ?_
  rw [Z5l]at a
  cases q:valV kvs k with
  |none=>rfl
  |some x=>rw [q]at a;exact(a rfl).elim
theorem Z2R(kvs:List (κ×V))(k:κ)(v:V):(putK kvs k v).length≤kvs.length+1:=by
 unfold putK
 split
 ·rw [Z0b];omega
 ·rw [Z0x,Z0q,Z0U];omega
theorem RelO.isSome_eq{o:Option V}{u:Option Value}(r:RelO o u):o.isSome=u.isSome:=by
 cases o with
 |none=>cases u with
  |none=>rfl
  |some _=>exact(show False from r).elim
 |some _=>cases u with
  |none=>exact(show False from r).elim
  |some _=>rfl
theorem KV.val{kvs:List (κ×V)}{vs:List (κ×Value)}(r:KV kvs vs)(k:κ):RelO (valV kvs k) (valueAt vs k):=by
 unfold KV at r
 induction r with
 |nil=>exact True.intro
 | @cons p q ps qs h t ih =>
  obtain⟨h1,h2⟩:=h
  by_cases e:p.1=k
  ·have e':q.1=k:=h1.symm.trans e
   have b:valueAt (q::qs) k=some q.2:=by simp [valueAt,Z1b,e']
   rw [Z3q e,b];exact h2
  ·have e':¬ q.1=k:=fun z=>e (h1.trans z)
   have b:valueAt (q::qs) k=valueAt qs k:=by simp [valueAt,Z1b,e']
   rw [Z3o e,b];exact ih
theorem KV.any{kvs:List (κ×V)}{vs:List (κ×Value)}(r:KV kvs vs)(k:κ):(kvs.any fun kv=>decide (kv.1=k))=vs.any fun kv=>decide (kv.1=k):=by
 unfold KV at r
 induction r with
 |nil=>rfl
 |cons h t ih=>rw [Z1a,Z1a,ih,h.1]
theorem KV.repl{kvs:List (κ×V)}{vs:List (κ×Value)}(r:KV kvs vs)(k:κ){y:V}{u:Value}(ry:RelV y u) :
  KV (kvs.map fun kv=>if kv.1=k then(kv.1,y)else kv) (vs.map fun kv=>if kv.1=k then(kv.1,u)else kv):=by
 unfold KV at r ⊢
 induction r with
 |nil=>exact .nil
 | @cons p q ps qs h t ih =>
  rw [Z0D,Z0D]
  refine .cons ?_ ih
  obtain⟨h1,h2⟩:=h
  by_cases e:p.1=k
  ·rw [if_pos e,if_pos (h1.symm.trans e)];exact⟨h1,ry⟩
  ·rw [if_neg e,if_neg (fun z=>e (h1.trans z))];exact⟨h1,h2⟩
theorem KV.put{kvs:List (κ×V)}{vs:List (κ×Value)}(r:KV kvs vs)(k:κ){y:V}{u:Value}(ry:RelV y u):KV (putK kvs k y) (stored vs k u):=by
 unfold putK stored
 rw [r.any k]
 by_cases e:(vs.any fun kv=>decide (kv.1=k))=true
 ·rw [if_pos e,if_pos e];exact r.repl k ry
 ·rw [if_neg e,if_neg e];exact Paired.snoc r ⟨rfl,ry⟩
theorem KV.length{kvs:List (κ×V)}{vs:List (κ×Value)}(r:KV kvs vs):kvs.length=vs.length:=Paired.length r
end
theorem kV_is{P:Program}{w:World}{k:Key}{u:Value}(r:RelV (kV k) u):(Z2V P w).is k u=true:=by
 cases k with
 |inl i=>obtain⟨t,e⟩:=(show ∃ t,u=Value.int i t from r);subst e;exact Z9D P w i t
 |inr x=>obtain⟨t,e⟩:=(show ∃ t,u=Value.str x t from r);subst e;exact Z9I P w x t
theorem Z8c{P:Program}{w:World}:∀ {ks:List Key}{us:List Value},Vals (ks.map kV) us→ItemsAre (Z2V P w) ks us
 |[],_,r=>by rw [List.map_nil]at r;cases r;exact .nil
 |k::ks,_,r=>by
  rw [Z0D]at r
  cases r with
  |cons h t=>exact .cons (kV_is h) (Z8c t)
abbrev KT(H:Hp):List (List Key×V)→List (List Key×Addr×Value)→Prop:=Paired fun p q=>p.1=q.1∧H q.2.1=some (.tup (p.1.map kV))∧RelV p.2 q.2.2
theorem KT.val{H:Hp}{kvs:List (List Key×V)}{xs:List (List Key×Addr×Value)}(r:KT H kvs xs)(k:List Key):RelO (valV kvs k) ((atKey xs k).map (·.2)):=by
 induction r with
 |nil=>exact True.intro
 | @cons p q ps qs h t ih =>
  obtain⟨h1,_,h2⟩:=h
  by_cases e:p.1=k
  ·have e':q.1=k:=h1.symm.trans e
   have b:atKey (q::qs) k=some q.2:=by simp [atKey,Z1b,e']
   rw [Z3q e,b];exact h2
  ·have e':¬ q.1=k:=fun z=>e (h1.trans z)
   have b:atKey (q::qs) k=atKey qs k:=by simp [atKey,Z1b,e']
   rw [Z3o e,b];exact ih
theorem KT.repl{H:Hp}{kvs:List (List Key×V)}{xs:List (List Key×Addr×Value)}(r:KT H kvs xs)(k:List Key){y:V}{u:Value}(ry:RelV y u) :
  KT H (kvs.map fun kv=>if kv.1=k then(kv.1,y)else kv) (xs.map (putAt k u)):=by
 induction r with
 |nil=>exact .nil
 | @cons p q ps qs h t ih =>
  rw [Z0D,Z0D]
  refine .cons ?_ ih
  obtain⟨h1,h2,h3⟩:=h
  unfold putAt
  by_cases e:p.1=k
  ·rw [if_pos e,if_pos (h1.symm.trans e)];exact⟨h1,h2,ry⟩
  ·rw [if_neg e,if_neg (fun z=>e (h1.trans z))];exact⟨h1,h2,h3⟩
theorem KT.put{H:Hp}{kvs:List (List Key×V)}{xs:List (List Key×Addr×Value)}(r:KT H kvs xs)(k:List Key){b:Addr}{y:V}{u:Value}(hb:H b=some (.tup (k.map kV)))(ry:RelV y u) :
  KT H (putK kvs k y) (storedH xs k b u):=by
 have e:(kvs.any fun kv=>decide (kv.1=k))=(atKey xs k).isSome:=by
  rw [Z5l,(r.val k).isSome_eq,Option.isSome_map]
 unfold putK storedH
 rw [e]
 by_cases q:(atKey xs k).isSome=true
 ·rw [if_pos q,if_pos q];exact r.repl k ry
 ·rw [if_neg q,if_neg q];exact Paired.snoc r ⟨rfl,hb,ry⟩
theorem KT.keeps{H H':Hp}{kvs:List (List Key×V)}{xs:List (List Key×Addr×Value)}(r:KT H kvs xs)(ht:∀ b ys,H b=some (.tup ys)→H' b=some (.tup ys)):KT H' kvs xs :=
 Paired.mapP r fun _ _ z=>⟨z.1,ht _ _ z.2.1,z.2.2⟩
section
variable{P:Program}{w:World}{H:Hp}{h:Heap}{a:Addr}
theorem rd_of{u:HO}(ok:HOk P w H h)(e:Rd H a u):ObjOk P w H h a u:=e.ok ok
theorem dk_rd{kvs:List (Key×V)}(ok:HOk P w H h)(e:Rd H a (.dK kvs)):kvs.length≤sizeLine∧(a==sysModules)=false∧∃ vs,KV kvs vs∧h.DictOf (Z2V P w) a vs :=
 show ObjOk P w H h a (.dK kvs)from rd_of ok e
theorem dk_of{kvs:List (Key×V)}(ok:HOk P w H h)(e:H a=some (.dK kvs)):kvs.length≤sizeLine∧(a==sysModules)=false∧∃ vs,KV kvs vs∧h.DictOf (Z2V P w) a vs:=dk_rd ok (.inl e)
theorem Z6h{ks:List Key}(ok:HOk P w H h)(e:H a=some (.tup (ks.map kV))):(tupleKind (Z2V P w)).is h ks a:=by
 obtain⟨_,its,r,o,h1,h2,n,h3⟩:=(show ObjOk P w H h a (.tup (ks.map kV))from ok a _ e)
 exact⟨o,its.toArray,n,h1,h2,h3,by simpa using Z8c r⟩
theorem dt_rd{kvs:List (List Key×V)}(ok:HOk P w H h)(e:Rd H a (.dT kvs)):kvs.length≤sizeLine∧(a==sysModules)=false ∧
  ∃ xs,KT H kvs xs∧h.DictOfH (tupleKind (Z2V P w)) a xs:=by
 obtain⟨z,y,xs,r,o,es,ep,h1,h2,h3,h4,h5⟩:=(show ObjOk P w H h a (.dT kvs)from rd_of ok e)
 refine⟨z,y,xs,r,o,es,ep,h1,h2,h3,h4,fun x hx=>?_,h5⟩
 have all:∀ {l:List (List Key×V)}{m:List (List Key×Addr×Value)},KT H l m→∀ x∈m,(tupleKind (Z2V P w)).is h x.1 x.2.1:=by
  intro l m q
  induction q with
  |nil=>intro x hx;exact nomatch hx
  | @cons p q ps qs hq t ih =>
   intro x hx
   rcases Z0e.mp hx with e |hx
   ·subst e
    exact Z6h ok (by rw [←hq.1];exact hq.2.1)
   ·exact ih x hx
 exact all r x hx
theorem dt_of{kvs:List (List Key×V)}(ok:HOk P w H h)(e:H a=some (.dT kvs)):kvs.length≤sizeLine∧(a==sysModules)=false ∧
  ∃ xs,KT H kvs xs∧h.DictOfH (tupleKind (Z2V P w)) a xs:=dt_rd ok (.inl e)
end
def DGet(H:Hp)(a:Addr)(y:V)(r:Option V):Prop :=
 (∃ kvs k,Rd H a (.dK kvs)∧y=kV k∧r=valV kvs k)∨∃ kvs k b,Rd H a (.dT kvs)∧y=.ref b∧H b=some (.tup (k.map kV))∧r=valV kvs k
def DPut(H:Hp)(a:Addr)(y v:V)(H':Hp):Prop :=
 (∃ kvs k,H a=some (.dK kvs)∧y=kV k∧kvs.length<sizeLine∧H'=upd H a (.dK (putK kvs k v))) ∨
 ∃ kvs k b,H a=some (.dT kvs)∧y=.ref b∧H b=some (.tup (k.map kV))∧kvs.length<sizeLine∧H'=upd H a (.dT (putK kvs k v))
theorem DGet.k{H:Hp}{a:Addr}{kvs:List (Key×V)}{k:Key}(e:H a=some (.dK kvs)):DGet H a (kV k) (valV kvs k):=.inl ⟨kvs,k,.inl e,rfl,rfl⟩
theorem DGet.t{H:Hp}{a b:Addr}{kvs:List (List Key×V)}{k:List Key}(e:H a=some (.dT kvs))(eb:H b=some (.tup (k.map kV))):DGet H a (.ref b) (valV kvs k):=.inr ⟨kvs,k,b,.inl e,rfl,eb,rfl⟩
theorem DPut.k{H:Hp}{a:Addr}{kvs:List (Key×V)}{k:Key}{v:V}(e:H a=some (.dK kvs))(hl:kvs.length<sizeLine):DPut H a (kV k) v (upd H a (.dK (putK kvs k v))):=.inl ⟨kvs,k,e,rfl,hl,rfl⟩
theorem DPut.t{H:Hp}{a b:Addr}{kvs:List (List Key×V)}{k:List Key}{v:V}(e:H a=some (.dT kvs))(eb:H b=some (.tup (k.map kV)))(hl:kvs.length<sizeLine) :
  DPut H a (.ref b) v (upd H a (.dT (putK kvs k v))):=.inr ⟨kvs,k,b,e,rfl,eb,hl,rfl⟩
section
variable{X:Cx}{pins:List (Addr×Obj)}{σ:St}{H:Hp}{s:Shared}{a:Addr}{y v:V}{u r:Value}{o:Option V}{A:Around}{E:Value→Shared→Prop}
theorem Inv.big(I:Inv X pins σ H s):sysModules<s.heap.objs.size:=by
 have h:mainGlobals<s.heap.objs.size:=(I.mod.glob.keeps I.bk).lt
 exact Z0Q (by decide) h
theorem ZaJ{Q:Value→Shared→Prop}(hu:A.units+1<cLine)(I:Inv X pins σ H s)(g:DGet H a y (some v))(ry:RelV y u)(h:∀ w' s',Inv X pins σ H s'→RelV v w'→Q w' s') :
  wpAny (model X.prog X.w) A (getItem (.ref a) u) Q E s:=by
 rcases g with⟨kvs,k,e,ey,l⟩ |⟨kvs,k,b,e,ey,eb,l⟩
 ·subst ey
  obtain⟨z,hd,vs,rel,dd⟩:=dk_rd I.hok e
  obtain⟨w',hw,rw'⟩:=RelO.some_of (v:=v) (o:=valueAt vs k) (by rw [l];exact rel.val k)
  exact wpAny_getItem_of (kV_is ry) dd.mapOf hw (h w' _ (I.tok _) rw')
 ·subst ey
  cases (show u=Value.ref b from ry)
  obtain⟨z,hd,xs,rel,dd⟩:=dt_rd I.hok e
  obtain⟨w',hw,rw'⟩:=RelO.some_of (v:=v) (o:=(atKey xs k).map (·.2)) (by rw [l];exact rel.val k)
  obtain⟨p,hp,hp2⟩:=Z2a.mp hw
  refine wpAny_getItem_heap (tupleKind_room_in1 hu) (Z6h I.hok eb) dd hp ?_
  rw [hp2]
  exact h w' _ (I.tok _) rw'
theorem d_in{Q:Value→Shared→Prop}(hu:A.units+1<cLine)(I:Inv X pins σ H s)(g:DGet H a y o)(ry:RelV y u)(h:∀ s',Inv X pins σ H s'→Q (.bool o.isSome) s') :
  wpAny (model X.prog X.w) A (compareOp .In u (.ref a)) Q E s:=by
 rcases g with⟨kvs,k,e,ey,l⟩ |⟨kvs,k,b,e,ey,eb,l⟩
 ·subst ey
  obtain⟨z,hd,vs,rel,dd⟩:=dk_rd I.hok e
  refine wpAny_in_of (kV_is ry) hd dd.mapOf ?_
  rw [←(rel.val k).isSome_eq,←l]
  exact h _ (I.tok _)
 ·subst ey
  cases (show u=Value.ref b from ry)
  obtain⟨z,hd,xs,rel,dd⟩:=dt_rd I.hok e
  refine wpAny_in_heap (tupleKind_room_in1 hu) (Z6h I.hok eb) hd dd ?_
  have q:=(rel.val k).isSome_eq
  rw [Option.isSome_map]at q
  rw [←q,←l]
  exact h _ (I.tok _)
theorem d_notIn{Q:Value→Shared→Prop}(hu:A.units+1<cLine)(I:Inv X pins σ H s)(g:DGet H a y o)(ry:RelV y u)(h:∀ s',Inv X pins σ H s'→Q (.bool (!o.isSome)) s') :
  wpAny (model X.prog X.w) A (compareOp .NotIn u (.ref a)) Q E s:=by
 rcases g with⟨kvs,k,e,ey,l⟩ |⟨kvs,k,b,e,ey,eb,l⟩
 ·subst ey
  obtain⟨z,hd,vs,rel,dd⟩:=dk_rd I.hok e
  refine wpAny_notIn_of (kV_is ry) hd dd.mapOf ?_
  rw [←(rel.val k).isSome_eq,←l]
  exact h _ (I.tok _)
 ·subst ey
  cases (show u=Value.ref b from ry)
  obtain⟨z,hd,xs,rel,dd⟩:=dt_rd I.hok e
  refine wpAny_notIn_heap (tupleKind_room_in1 hu) (Z6h I.hok eb) hd dd ?_
  have q:=(rel.val k).isSome_eq
  rw [Option.isSome_map]at q
  rw [←q,←l]
  exact h _ (I.tok _)
theorem Z7K{h':Heap}{t':Nat}{ob:HO}(I:Inv X pins σ H s)(mu:Mut (H a))(hs:Heap.SameBut a s.heap h')(he:∃ q,h'.get? a=some q)(new:ObjOk X.prog X.w (upd H a ob) h' a ob) :
  Inv X pins σ (upd H a ob) { s with heap:=h',toks:=t' } :=
 I.write (x:=a) (e:=a) mu (.inl rfl) (fun b q hb z=>(hs.2 b hb).trans z) he new
theorem dk_new{P:Program}{w:World}{H':Hp}{h':Heap}{kvs:List (Key×V)}{vs:List (Key×Value)}(z:kvs.length≤sizeLine)(hd:(a==sysModules)=false)(rel:KV kvs vs)(dd:h'.DictOf (Z2V P w) a vs) :
  ObjOk P w H' h' a (.dK kvs):=⟨z,hd,vs,rel,dd⟩
theorem ZaL{H':Hp}{Q:Unit→Shared→Prop}(hu:A.units+1<cLine)(I:Inv X pins σ H s)(g:DPut H a y v H')(ry:RelV y u)(rv:RelV v r)(h:∀ s',Inv X pins σ H' s'→Q () s') :
  wpAny (model X.prog X.w) A (setItem (.ref a) u r) Q E s:=by
 rcases g with⟨kvs,k,e,ey,l,eH⟩ |⟨kvs,k,b,e,ey,eb,l,eH⟩
 ·subst ey eH
  obtain⟨z,hd,vs,rel,dd⟩:=dk_of I.hok e
  have hz:vs.length≤sizeLine:=by rw [←rel.length];exact z
  have hl:(putK kvs k v).length≤sizeLine:=by have:=Z2R kvs k v;omega
  refine wpAny_setItem_pairs (hsz:=hz) (kV_is ry) dd fun h' dd' hs=>h _ ?_
  have he:∃ q,h'.get? a=some q:=let ⟨q,_,_,hq,_⟩:=dd';⟨q,hq⟩
  exact Z7K I (by rw [e];exact True.intro) hs he (dk_new hl hd (rel.put k rv) dd')
 ·subst ey eH
  cases (show u=Value.ref b from ry)
  obtain⟨z,hd,xs,rel,dd⟩:=dt_of I.hok e
  have hz:xs.length≤sizeLine:=by rw [←Paired.length rel];exact z
  have hl:(putK kvs k v).length≤sizeLine:=by have:=Z2R kvs k v;omega
  refine wpAny_setItem_heap (hsz:=hz) (tupleKind_room_in1 hu) (Z6h I.hok eb) dd fun h' dd' hs=>h _ ?_
  obtain⟨q,es,ep,hq,h2,h3,h4,_,h5⟩:=dd'
  refine Z7K I (by rw [e];exact True.intro) hs ⟨q,hq⟩ ⟨hl,hd,_,(rel.put k eb rv).keeps fun c ys ec=>?_,q,es,ep,hq,h2,h3,h4,h5⟩
  rw [Z2m (ne_of ec e (fun z=>nomatch z))]
  exact ec
end
section
variable{X:Cx}{pins:List (Addr×Obj)}{σ:St}{H:Hp}{s:Shared}{a:Addr}{kvs:List (Key×V)}{k:Key}{u:Value}{A:Around}{E:Value→Shared→Prop}
end
def NoSl(i:Expr):Prop:=∀ ov iv,subscripted i false ov iv=operate [ov,iv] (getItem ov iv)
theorem subD_of{prog:Program}{w:World}{A:Around}{E:Value→Shared→Prop}{s:Shared}{env:Env}{value slice:Expr}{pos:Pos}{T id:String}{Q:Value→Shared→Prop}
  (hl:typeLookup (.type T) "__getitem__" = pure (some (.builtin id)))(hs:NoSl slice)
  (h:wpAny (model prog w) A (eval value env) (fun o s₁=>wpAny (model prog w) A (eval slice env) (fun i s₂=>s₂.TypeIs o T∧wpAny (model prog w) A (getItem o i) Q E s₂) E s₁) E s) :
  wpAny (model prog w) A (eval (.Subscript value slice pos) env) Q E s:=by
 refine Subscript_ (wpAny_mono h (fun o s₁ h₁=>wpAny_mono h₁ (fun i s₂ h₂=>?_) fun _ _ x=>x) fun _ _ x=>x)
 obtain⟨hT,h₂⟩:=h₂
 unfold subscriptTail
 refine wpAny_bind ?_
 rw [getitemInPython_of_ne hT.not_modules]
 refine wpAny_bind (wpAny_specialOf hT hl ?_)
 have fin:wpAny (model prog w) A (subscripted slice false o i) (fun r s₃=>wpAny (model prog w) A (letTemporaryGo value o r >>= fun _=>pure r) Q E s₃) E s₂:=by
  rw [hs o i]
  exact wpAny_operating (wpAny_mono h₂ (fun r s₃ h₃=>wpAny_bind (wpAny_letTemporaryGo (wpAny_pure h₃))) fun _ _ x=>x)
 first
  |exact wpAny_pure (wpAny_bind fin)
  |exact wpAny_bind (wpAny_pure (wpAny_bind fin))
  |exact wpAny_bind fin
theorem Z9C{X:Cx}{pins:List (Addr×Obj)}{σ:St}{H:Hp}{s:Shared}{a:Addr}{y:V}{o:Option V}(I:Inv X pins σ H s)(g:DGet H a y o):s.TypeIs (.ref a) "dict":=by
 rcases g with⟨kvs,k,e,_,_⟩ |⟨kvs,k,b,e,_,_,_⟩
 ·obtain⟨_,_,vs,_,dd⟩:=dk_rd I.hok e
  exact dd.typeIs
 ·obtain⟨_,_,xs,_,dd⟩:=dt_rd I.hok e
  exact dd.typeIs
def tDGet(td ty:TE):TE:=fun σ H Q=>td σ H fun x H1=>ty σ H1 fun y H2=>∃ a v,x=.ref a∧DGet H2 a y (some v)∧Q v H2
def tDIn(ty td:TE):TE:=fun σ H Q=>ty σ H fun y H1=>td σ H1 fun x H2=>∃ a o,x=.ref a∧DGet H2 a y o∧Q (.bl o.isSome) H2
def tDNotIn(ty td:TE):TE:=fun σ H Q=>ty σ H fun y H1=>td σ H1 fun x H2=>∃ a o,x=.ref a∧DGet H2 a y o∧Q (.bl (!o.isSome)) H2
def sDPut(td ty tv:TE):TS:=fun D σ H=>tv σ H fun v H1=>td σ H1 fun x H2=>ty σ H2 fun y H3=>∃ a H4,x=.ref a∧DPut H3 a y v H4∧D.nx σ H4
section
variable{X:Cx}{o i e value:Expr}{pos pos' tpos:Pos}{td ty tv:TE}
theorem Z4h(hu:X.A.units+1<cLine)(ho:PE X o td)(hi:PE X i ty)(hs:NoSl i):PE X (.Subscript o i pos) (tDGet td ty):=by
 intro pins s σ H Q I h
 refine subD_of PySem.F.slot_dict_getitem.lookup hs (thn (ho pins s σ H _ I h) fun u s1 ⟨x,H1,I1,rx,q1⟩=>thn (hi pins s1 σ H1 _ I1 q1) fun iv s2 ⟨y,H2,I2,ry,a,v,ex,g,q2⟩=>?_)
 subst ex
 obtain rfl:u=Value.ref a:=rx
 exact⟨Z9C I2 g,ZaJ hu I2 g ry fun w' s3 I3 rw'=>⟨v,H2,I3,rw',q2⟩⟩
theorem pc_din(hu:X.A.units+1<cLine)(hi:PE X i ty)(ho:PE X o td):PC X .In i o (tDIn ty td):=by
 intro pins s σ H Q I h
 refine thn (hi pins s σ H _ I h) fun iv s1 ⟨y,H1,I1,ry,q1⟩=>thn (ho pins s1 σ H1 _ I1 q1) fun u s2 ⟨x,H2,I2,rx,a,ov,ex,g,q2⟩=>?_
 subst ex
 obtain rfl:u=Value.ref a:=rx
 exact d_in hu I2 g ry fun s3 I3=>⟨.bl ov.isSome,H2,I3,rfl,q2⟩
theorem Z6z(hu:X.A.units+1<cLine)(hi:PE X i ty)(ho:PE X o td):PC X .NotIn i o (tDNotIn ty td):=by
 intro pins s σ H Q I h
 refine thn (hi pins s σ H _ I h) fun iv s1 ⟨y,H1,I1,ry,q1⟩=>thn (ho pins s1 σ H1 _ I1 q1) fun u s2 ⟨x,H2,I2,rx,a,ov,ex,g,q2⟩=>?_
 subst ex
 obtain rfl:u=Value.ref a:=rx
 exact d_notIn hu I2 g ry fun s3 I3=>⟨.bl (!ov.isSome),H2,I3,rfl,q2⟩
theorem Z4u(hu:X.A.units+1<cLine)(ho:PE X o td)(hi:PE X i ty)(hv:PE X value tv)(hs:swapsWith value (some (.Subscript o i pos')) pos.line X.env=pure false) :
  PS X (.Assign [.Subscript o i pos'] value pos) (sDPut td ty tv):=by
 intro pins s σ H D I h
 refine wpAny_Assign_Subscript (thn (hv pins s σ H _ I h) fun r s1 ⟨v,H1,I1,rv,q1⟩=>thn (ho pins s1 σ H1 _ I1 q1) fun u s2 ⟨x,H2,I2,rx,q2⟩=>thn (hi pins s2 σ H2 _ I2 q2) fun iv s3 ⟨y,H3,I3,ry,a,H4,ex,g,q3⟩=>?_) hs
 subst ex
 obtain rfl:u=Value.ref a:=rx
 exact ZaL hu I3 g ry rv fun s4 I4=>⟨σ,H4,I4,q3⟩
end
theorem Z9w{P:Program}{w:World}{H:Hp}(h:Heap)(hb:sysModules<h.objs.size):ObjOk P w H (h.push { cls:=.type "dict",data:=.dict #[] }) h.objs.size (.dK []) :=
 ⟨Z0p _,beq_eq_false_iff_ne.mpr (Ne.symm (Z0o hb)),[],.nil,Heap.DictOf.new h⟩
theorem dt_empty{P:Program}{w:World}{H:Hp}(h:Heap)(hb:sysModules<h.objs.size):ObjOk P w H (h.push { cls:=.type "dict",data:=.dict #[] }) h.objs.size (.dT []) :=
 ⟨Z0p _,beq_eq_false_iff_ne.mpr (Ne.symm (Z0o hb)),[],.nil,_,#[],0,Z0E _ rfl,⟨rfl,rfl,rfl⟩,rfl,rfl,Z1N⟩
def tDNewK:TE:=fun _ H Q=>∀ p,H p=none→Q (.ref p) (upd H p (.dK []))
def tDNewT:TE:=fun _ H Q=>∀ p,H p=none→Q (.ref p) (upd H p (.dT []))
section
variable{X:Cx}{pos:Pos}
theorem Z8J:PE X (.Dict [] [] pos) tDNewK:=fun pins s σ H Q I h =>
 wpAny_Dict_empty ⟨.ref s.heap.objs.size,_,I.laid (a:=s.heap.objs.size) (o:=.dK []) (t':=s.toks) (fun _ _ q=>Z0n _ q) (Z0d _) (Z9w s.heap I.big),rfl,h _ (I.hok.fresh (Z0d _))⟩
theorem pe_dnewT:PE X (.Dict [] [] pos) tDNewT:=fun pins s σ H Q I h =>
 wpAny_Dict_empty ⟨.ref s.heap.objs.size,_,I.laid (a:=s.heap.objs.size) (o:=.dT []) (t':=s.toks) (fun _ _ q=>Z0n _ q) (Z0d _) (dt_empty s.heap I.big),rfl,h _ (I.hok.fresh (Z0d _))⟩
end
def Z8z:List (TE×TE)→St→Hp→(List (V×V)→Hp→Prop)→Prop
 |[],_,H,Q=>Q [] H
 |(tk,tv)::r,σ,H,Q=>tk σ H fun x H1=>tv σ H1 fun y H2=>Z8z r σ H2 fun ps H3=>Q ((x,y)::ps) H3
abbrev VV:List (V×V)→List (Value×Value)→Prop:=Paired fun p q=>RelV p.1 q.1∧RelV p.2 q.2
def PPs(X:Cx)(pos:Pos)(keys:List (Option Expr))(values:List Expr)(trs:List (TE×TE)):Prop :=
 ∀ (pins:List (Addr×Obj))(s:Shared)(σ:St)(H:Hp)(Q:List (V×V)→Hp→Prop),Inv X pins σ H s→Z8z trs σ H Q →
  wpAny (model X.prog X.w) X.A (evalPairs (pairTrees keys values X.env pos)) (fun vs s'=>∃ ps H',Inv X pins σ H' s'∧VV ps vs∧Q ps H') X.xe s
theorem Z7R{X:Cx}{pos:Pos}:PPs X pos [] [] []:=fun pins s σ H Q I h=>pairTrees_nil_walk ⟨[],H,I,.nil,h⟩
theorem Z5i{X:Cx}{pos:Pos}{k v:Expr}{ks:List (Option Expr)}{vs:List Expr}{tk tv:TE}{trs:List (TE×TE)}(hk:PE X k tk)(hv:PE X v tv)(hr:PPs X pos ks vs trs) :
  PPs X pos (some k::ks) (v::vs) ((tk,tv)::trs):=fun pins s σ H Q I h =>
 pairTrees_cons_walk (thn (hk pins s σ H _ I h) fun u s1 ⟨x,H1,I1,rx,q1⟩=>thn (hv pins s1 σ H1 _ I1 q1) fun w2 s2 ⟨y,H2,I2,ry,q2⟩ =>
  thn (hr pins s2 σ H2 _ I2 q2) fun ws s3 ⟨ps,H3,I3,rel,q3⟩=>⟨(x,y)::ps,H3,I3,.cons ⟨rx,ry⟩ rel,q3⟩)
def Z5E(kvs more:List (Key×V)):List (Key×V):=more.foldl (fun acc kv=>putK acc kv.1 kv.2) kvs
theorem KV.merge:∀ {more:List (Key×V)}{rs:List (Key×Value)}{kvs:List (Key×V)}{vs:List (Key×Value)},KV more rs→KV kvs vs→KV (Z5E kvs more) (merged vs rs):=by
 intro more rs kvs vs r
 unfold KV at r
 induction r generalizing kvs vs with
 |nil=>intro q;exact q
 | @cons p q ps qs h t ih =>
  intro r0
  have e:KV (putK kvs p.1 p.2) (stored vs q.1 q.2):=by
   have:=r0.put p.1 h.2
   rw [←h.1];exact this
  exact ih e
theorem Z6e:∀ (more kvs:List (Key×V)),(Z5E kvs more).length≤kvs.length+more.length
 |[],kvs=>by show kvs.length≤kvs.length+0;omega
 |p::r,kvs=>by
  have h1:=Z6e r (putK kvs p.1 p.2)
  have h2:=Z2R kvs p.1 p.2
  show(Z5E (putK kvs p.1 p.2) r).length≤_
  rw [Z0q];omega
theorem Z7t{P:Program}{w:World}:∀ {kvs:List (Key×V)}{ws:List (Value×Value)},VV (kvs.map fun kv=>(kV kv.1,kv.2)) ws→∃ rs,Carries (Z2V P w) ws rs∧KV kvs rs
 |[],_,r=>by rw [List.map_nil]at r;cases r;exact⟨[],True.intro,.nil⟩
 |p::kvs,_,r=>by
  rw [Z0D]at r
  cases r with
  | @cons a b as bs h t =>
   obtain⟨rs,c,q⟩:=Z7t (P:=P) (w:=w) t
   obtain⟨b1,b2⟩:=b
   exact⟨(p.1,b2)::rs,⟨kV_is h.1,rfl,c⟩,.cons ⟨rfl,h.2⟩ q⟩
def tDisp(trs:List (TE×TE)):TE:=fun σ H Q=>∀ p,H p=none→Z8z trs σ (upd H p (.dK [])) fun ps H2=>H2 p=some (.dK [])∧∃ kvs:List (Key×V),ps=kvs.map (fun kv=>(kV kv.1,kv.2))∧kvs.length≤15∧Q (.ref p) (upd H2 p (.dK (Z5E [] kvs)))
theorem Z7Y{X:Cx}{pos:Pos}{keys:List (Option Expr)}{values:List Expr}{trs:List (TE×TE)}(h:PPs X pos keys values trs)(hall:keys.all (·.isSome)=true)(hl:keys.length=values.length)(h0:keys≠[])
  (h15:keys.length≤15):PE X (.Dict keys values pos) (tDisp trs):=by
 intro pins s σ H Q I q
 have hn:=I.hok.fresh (Z0d s.heap.objs.size)
 have I1:=I.laid (a:=s.heap.objs.size) (o:=.dK []) (h':=s.heap.push { cls:=.type "dict",data:=.dict #[] }) (t':=s.toks) (fun _ _ q=>Z0n _ q) (Z0d _) (Z9w s.heap I.big)
 refine wpAny_Dict_walk (knd:=Z2V X.prog X.w) hall hl h0 h15 (thn (h pins _ σ _ _ I1 (q _ hn)) fun ws s2 ⟨ps,H2,I2,rel,e,kvs,ep,lk,q2⟩=>?_)
 subst ep
 obtain⟨rs,c,rk⟩:=Z7t (P:=X.prog) (w:=X.w) rel
 obtain⟨z,hd,vs0,r0,dd⟩:=dk_of I2.hok e
 cases r0
 refine⟨rs,c,dd,fun h' dd' hs=>⟨.ref s.heap.objs.size,_,?_,rfl,q2⟩⟩
 have hz:(Z5E [] kvs).length≤sizeLine:=by
  have h1:=Z6e kvs []
  rw [Z0U]at h1
  rw [sizeLine_eq];omega
 have he:∃ q,h'.get? s.heap.objs.size=some q:=let ⟨q,_,_,hq,_⟩:=dd';⟨q,hq⟩
 exact Z7K I2 (by rw [e];exact True.intro) hs he (dk_new hz hd (rk.merge .nil) dd')
section
variable{X:Cx}{pins:List (Addr×Obj)}{σ:St}{H:Hp}{s:Shared}{a:Addr}{y d:V}{u r:Value}{o:Option V}{A:Around}{E:Value→Shared→Prop}
end
section
variable{X:Cx}{o e f:Expr}{apos cpos:Pos}{td ty tx:TE}
end
section
variable{X:Cx}{pins:List (Addr×Obj)}{σ:St}{H:Hp}{s:Shared}{a:Addr}{kvs:List (Key×V)}{A:Around}{E:Value→Shared→Prop}
end
section
variable{X:Cx}{pins:List (Addr×Obj)}{σ:St}{H:Hp}{s:Shared}{a:Addr}{y:V}{u:Value}{A:Around}{E:Value→Shared→Prop}
end
end L2
namespace L2
open PySem PySem.Spec PyProof.Rows
section
variable{prog:Program}{w:World}{A:Around}{E:Value→Shared→Prop}
end
section
variable{X:Cx}
end
end L2
namespace L2
open PySem PySem.Spec PyProof.Rows
theorem Z7T:bootBuiltins "reversed" = some (.type "reversed"):=by decide +kernel
section
variable{X:Cx}{pins:List (Addr×Obj)}{σ:St}{H:Hp}{s:Shared}{h':Heap}
theorem Inv.turnedL{t':Nat}{ch:List Addr}(I:Inv X pins σ H s)(k:∀ b o,b∉ch→s.heap.get? b=some o→h'.get? b=some o)(hf:∀ b∈ch,FpOk X pins H b):Inv X pins σ H { s with heap:=h',toks:=t' }:=by
 have nit:∀ b u,H b=some u→b∉ch:=fun b u e z=>by
  have q:=(hf b z).1
  rw [q]at e;cases e
 refine I.step (g':=s.gens) (d':=s.drawn) (ch:=ch) (fun b hb=>⟨(hf b hb).2.2.2.1,(hf b hb).2.1,(hf b hb).2.2.2.2.1,(hf b hb).2.2.2.2.2⟩) (fun b o _ _ hc e _=>k b o hc e) (fun b o _ _ hc e _=>⟨o.slots,k b o hc e⟩)
  (fun _ _ _ _ n=>n) (fun b o hc e=>⟨o,k b o hc e⟩) (fun _ _ e=>e) (fun _ _ _ e=>e) (fun b ps e=>⟨#[],by rw [e];simp⟩) (fun m hm=>?_) (fun b u e=>?_) I.bare
 ·obtain⟨o,es,ep,ho,r⟩:=hm
  exact⟨o,es,ep,k _ o (fun z=>(hf _ z).2.1 rfl) ho,r⟩
 ·refine(I.hok b u e).stay (fun c v hc q=>k c v ?_ q) (fun _ q=>q) fun _ _ q=>q
  rcases hc with z |z
  ·rw [z];exact nit b u e
  ·exact nit c _ z
theorem Inv.turnedNew{t':Nat}{ch:List Addr}{T:Addr}{ob:HO}(I:Inv X pins σ H s)(k:∀ b o,b∉ch→s.heap.get? b=some o→h'.get? b=some o)(hf:∀ b∈ch,FpOk X pins H b)(hT:s.heap.objs.size≤T)
  (new:ObjOk X.prog X.w (upd H T ob) h' T ob):Inv X pins σ (upd H T ob) { s with heap:=h',toks:=t' }:=by
 have hn:H T=none:=I.hok.fresh hT
 have nit:∀ b u,H b=some u→b∉ch:=fun b u e z=>by
  have q:=(hf b z).1
  rw [q]at e;cases e
 refine I.step (g':=s.gens) (d':=s.drawn) (ch:=ch) (fun b hb=>⟨(hf b hb).2.2.2.1,(hf b hb).2.1,(hf b hb).2.2.2.2.1,(hf b hb).2.2.2.2.2⟩) (fun b o _ _ hc e _=>k b o hc e) (fun b o _ _ hc e _=>⟨o.slots,k b o hc e⟩)
  (fun b o _ e n=>?_) (fun b o hc e=>⟨o,k b o hc e⟩) (fun b xs e=>?_) (fun b o u e=>?_) (fun b ps e=>⟨#[],?_⟩) (fun m hm=>?_) (fun b u e=>?_) I.bare
 ·rw [Z2m (Z0o (Z0w (Z0f e) hT))];exact n
 ·rw [Z2m (Z2p e hn)];exact e
 ·rw [Z2m (Z2p e hn)];exact e
 ·rw [Z2m (Z2p e hn),e];simp
 ·obtain⟨o,es,ep,ho,r⟩:=hm
  exact⟨o,es,ep,k _ o (fun z=>(hf _ z).2.1 rfl) ho,r⟩
 ·by_cases hb:b=T
  ·subst hb
   rw [Z2n]at e
   cases e
   exact new
  ·rw [Z2m hb]at e
   refine(I.hok b u e).stay (fun c v hc q=>k c v ?_ q) (fun c q=>by rw [Z2m (Z2p q hn)];exact q) fun c xs q=>by rw [Z2m (Z2p q hn)];exact q
   rcases hc with z |z
   ·rw [z];exact nit b u e
   ·exact nit c _ z
end
section
variable{X:Cx}
theorem pi_one{tg:Expr}{pins:List (Addr×Obj)}{σ:St}{H:Hp}{s:Shared}{R:It→Hp→Prop}{J:It}{tn:Nat→Heap→Prop}{tk:Nat}(I:Inv X pins σ H s)(o:Obj)
  (T:Turn X.prog X.w X.K tg J [s.heap.objs.size] s.heap.objs.size tn)(st:tn 0 (s.heap.push o))(q:R J H):PIE X pins σ tg R (.ref s.heap.objs.size) { s with heap:=s.heap.push o,toks:=tk }:=by
 refine⟨s.heap.objs.size,[s.heap.objs.size],tn,J,H,rfl,I.kept fun b ob e=>Z0n _ e,T,st,fun b hb=>?_,q⟩
 have e:b=s.heap.objs.size:=by simpa using hb
 subst e
 exact I.fpOk (Z0d _) (I.hok.fresh (Z0d _))
end
def Itc(lo c:Int)(n:Nat):It:=⟨fun i _=>i<n,fun i H x H'=>H'=H∧x=.int (lo+(i:Nat)*c),fun i _=>n≤i⟩
theorem Z9L{P:Program}{w:World}{K:Z0a}{tg:Expr}(it:Addr)(lo c:Int)(n:Nat):Turn P w K tg (Itc lo c n) [it] it (fun i h=>IsRangeIter h it (lo+(i:Nat)*c) ((n:Int)-(i:Nat)) c) where
 mem:=by simp
 obj:=fun i h st b hb=>by
  have e:b=it:=by simpa using hb
  subst e
  exact⟨_,st,fun v z=>nomatch z⟩
 keep:=fun i h h' st k=>k it (by simp) _ st
 item:=by
  intro X hP hw hK hc i pins s σ H E I hf st hg
  subst hP hw hK
  obtain⟨f0,f1,f2,f3,f4,f5⟩:=hf it (by simp)
  have W:=Walks.range (prog:=X.prog) (w:=X.w) (I.ok.hd hc) it lo c n
  refine W.item i s _ _ hg st fun v h' tk hv st' kk=>?_
  obtain⟨t,rfl⟩:=hv
  have I1:Inv X pins σ H { s with heap:=h',toks:=tk }:=I.turned (fun b o hb e=>kk b o (by simpa using hb) e) f0 f1 f3 f4 f5
  exact⟨_,rfl,go_of (s:={ s with heap:=h',toks:=tk }) (n:="range_iterator") st' rfl rfl (by decide) ⟨.int (lo+(i:Nat)*c),H,I1,⟨t,rfl⟩,⟨rfl,rfl⟩,st',fun b hb=>(hf b hb).1⟩⟩
 done:=by
  intro X hP hw hK hc i pins s σ H E I hf st hg
  subst hP hw hK
  obtain⟨f0,f1,f2,f3,f4,f5⟩:=hf it (by simp)
  exact wpAny_pyNext_range_end (I.ok.hd hc) st (by have:n≤i:=hg;omega) fun h' eb=>⟨rfl,I.turned (t':=s.toks) (fun b o hb e=>eb b o hb e) f0 f1 f3 f4 f5⟩
 self:=fun A i s Q E st h=>wpAny_pyIter_rangeiter st h
def RgC(i j c:Int)(n:Nat):Prop:=c≠0∧c.natAbs<1073741824∧Builtin.Range.small i j c=true∧Builtin.Range.rangeSize i j c=n
def iRng3(ta:TA):TI:=fun σ H R=>ta σ H fun vs H1=>∃ (i j c:Int)(n:Nat),vs=[.int i,.int j,.int c]∧RgC i j c n∧R (Itc i c n) H1
section
variable{X:Cx}{tg:Expr}
theorem Zbb{a b c:Expr}{ta:TA}{p pos:Pos}(hg:Gl X "range")(hm:X.mg "range" = none)(ha:PA X [a,b,c] ta)
  (hs:starEach [a,b,c] X.env=(false,eval a X.env)::starEach [b,c] X.env:=by rfl)(hpl:(backTo pos (starEach [b,c] X.env)).any (·.1)=false:=by rfl) :
  PI X tg (.Call (.Name "range" p) [a,b,c] [] pos) (iRng3 ta):=by
 intro pins s σ H R I h
 refine Call_ (Z5J I hg hm boot_range (PyProof.Rows.callWith_type1 (thn (ha pos pins s σ H _ I h) fun us s1 ⟨vs,H1,I1,r1,q1⟩=>?_) hs hpl))
 obtain⟨i,j,k,n,e,⟨c0,c1,c2,c3⟩,q⟩:=q1
 subst e
 cases r1 with
 |cons r rr =>
  cases rr with
  |cons r' rr =>
   cases rr with
   |cons r'' rr =>
    cases rr
    obtain⟨t,rfl⟩:=r
    obtain⟨t',rfl⟩:=r'
    obtain⟨t'',rfl⟩:=r''
    refine call_range_3 c0 ?_ (.inl (PyProof.noPylong_small c1))
    refine wpAny_pyIter_range (IsRange.new ..) c2 ?_
    have I2:Inv X pins σ H1 { s1 with heap:=s1.heap.push { cls:=.type "range",data:=.fields #[.int i t,.int j t',.int k t''] } }:=I1.kept (t':=s1.toks) fun b o e=>Z0n _ e
    refine pi_one (tk:=s1.toks) I2 _ (Z9L _ i k n) ?_ q
    have e1:i+((0:Nat):Int)*k=i:=by simp
    have e2:(n:Int)-((0:Nat):Int)=Builtin.Range.rangeSize i j k:=by rw [c3];simp
    show IsRangeIter _ _ (i+((0:Nat):Int)*k) ((n:Int)-((0:Nat):Int)) k
    rw [e1,e2]
    exact Z0E _ rfl
end
theorem Zaz{lo c:Int}{n:Nat}{g:TG}{tb:TS}{D:Ends}{σ:St}{H:Hp}(Pv:Nat→St→Hp→Prop)(h0:Pv 0 σ H)
  (hs:∀ i σ H,i<n→Pv i σ H→g (.int (lo+(i:Nat)*c)) σ H fun σ2 H2=>tb { D with nx:=Pv (i+1),ct:=Pv (i+1),bk:=D.nx } σ2 H2)(hd:∀ σ H,Pv n σ H→D.nx σ H) :
  ∃ W:Nat→Nat→St→Hp→Prop,(∃ m,W 0 m σ H)∧∀ i m σ H,W i m σ H →
   ((Itc lo c n).stop i H∧D.nx σ H)∨((Itc lo c n).go i H∧∃ N:St→Hp→Prop,(∀ σ' H',N σ' H'→∃ m',m' < m∧W (i+1) m' σ' H')∧∀ x H',(Itc lo c n).yld i H x H'→g x σ H' fun σ2 H2=>tb { D with nx:=N,ct:=N,bk:=D.nx } σ2 H2):=by
 refine⟨fun i m σ H=>m=n-i∧i≤n∧Pv i σ H,⟨n,by simp,Z0p _,h0⟩,?_⟩
 rintro i m σ H ⟨rfl,hi,p⟩
 by_cases hlt:i<n
 ·refine .inr ⟨hlt,Pv (i+1),fun σ' H' p'=>⟨n-(i+1),by omega,rfl,hlt,p'⟩,fun x H' y=>?_⟩
  obtain⟨e,y⟩:=y
  subst e y
  exact hs i σ _ hlt p
 ·have e:i=n:=by omega
  subst e
  exact .inl ⟨Z0d _,hd σ H p⟩
def Itv(K:Z0a)(a:Addr)(n:Nat):It :=
 ⟨fun i H=>i<n∧∃ (xs:List V)(x:V),SqL K H a xs∧xs[n-1-i]?=some x,fun i H x H'=>H'=H∧∀ xs,SqL K H a xs→xs[n-1-i]?=some x,fun i _=>n≤i⟩
theorem turn_rev{P:Program}{w:World}{K:Z0a}{tg:Expr}(a it:Addr)(n:Nat):Turn P w K tg (Itv K a n) [it] it (fun i h=>i≤n∧h.IsRevIter it a ((n:Int)-1-(i:Nat))) where
 mem:=by simp
 obj:=fun i h st b hb=>by
  have e:b=it:=by simpa using hb
  subst e
  obtain⟨_,o,e,c,d⟩:=st
  exact⟨o,e,fun v z=>by rw [d]at z;cases z⟩
 keep:=fun i h h' st k=>⟨st.1,st.2.at fun o e=>k it (by simp) o e⟩
 item:=by
  intro X hP hw hK hc i pins s σ H E I hf st hg
  subst hP hw hK
  obtain⟨hin,xs,x,hq,hx⟩:=hg
  obtain⟨its,rv,p,hz⟩:=I.list hq
  obtain⟨u,hu,ru⟩:=rv.get hx
  obtain⟨f0,f1,f2,f3,f4,f5⟩:=hf it (by simp)
  obtain⟨_,hit⟩:=st
  have e1:(n:Int)-1-((i:Nat):Int)=((n-1-i:Nat):Int):=by omega
  rw [e1]at hit
  refine wpAny_pyNext_rev_item hit p.isList (x:=u) (by simpa using hu) fun h' st' sb=>?_
  have e2:((n-1-i:Nat):Int)-1=(n:Int)-1-((i+1:Nat):Int):=by omega
  rw [e2]at st'
  have I1:Inv X pins σ H { s with heap:=h' }:=I.turned (t':=s.toks) (fun b o hb e=>(sb.2 b hb).trans e) f0 f1 f3 f4 f5
  obtain⟨o,e,c,d⟩:=id st'
  exact⟨u,rfl,go_of (s:={ s with heap:=h' }) e c d (by decide) ⟨x,H,I1,ru,⟨rfl,fun ys hy=>by rw [I.list_inj hy hq];exact hx⟩,⟨hin,st'⟩,fun b hb=>(hf b hb).1⟩⟩
 done:=by
  intro X hP hw hK hc i pins s σ H E I hf st hg
  subst hP hw hK
  obtain⟨f0,f1,f2,f3,f4,f5⟩:=hf it (by simp)
  obtain⟨hin,hit⟩:=st
  have hge:n≤i:=hg
  have e1:(n:Int)-1-((i:Nat):Int)=-1:=by omega
  rw [e1]at hit
  exact wpAny_pyNext_rev_end (I.ok.hd hc) hit fun h' eb=>⟨rfl,I.turned (t':=s.toks) (fun b o hb e=>eb b o hb e) f0 f1 f3 f4 f5⟩
 self:=fun A i s Q E st h=>wpAny_pyIter_revIter st.2 h
def iRev(K:Z0a)(ta:TA):TI:=fun σ H R=>ta σ H fun vs H1=>∃ (a:Addr)(xs:List V),vs=[.ref a]∧SqL K H1 a xs∧R (Itv K a xs.length) H1
section
variable{X:Cx}{tg:Expr}
theorem Z9G{e:Expr}{ta:TA}{p pos:Pos}(hg:Gl X "reversed")(hm:X.mg "reversed" = none)(ha:PA X [e] ta)(hs:starEach [e] X.env=[(false,eval e X.env)]:=by rfl):PI X tg (.Call (.Name "reversed" p) [e] [] pos) (iRev X.K ta):=by
 intro pins s σ H R I h
 refine Call_ (Z5J I hg hm Z7T (PyProof.Rows.callWith_type1 (thn (ha pos pins s σ H _ I h) fun us s1 ⟨vs,H1,I1,r1,q1⟩=>?_) hs rfl))
 obtain⟨a,xs,e,hq,q⟩:=q1
 subst e
 cases r1 with
 |cons r rr =>
  cases rr
  cases r
  obtain⟨its,rv,p',hz⟩:=I1.list hq
  have hl:=rv.length
  have e1:((its.toArray.size:Nat):Int)-1=(xs.length:Int)-1-((0:Nat):Int):=by simp only [Z0s];omega
  refine call_reversed_list p'.isList (wpAny_pyIter_revIter (l:=a) (i:=((its.toArray.size:Nat):Int)-1) ⟨_,Z0E _ rfl,rfl,rfl⟩ ?_)
  refine pi_one (tk:=s1.toks) I1 _ (turn_rev a _ xs.length) ⟨Z0p _,?_⟩ q
  rw [←e1]
  exact⟨_,Z0E _ rfl,rfl,rfl⟩
end
section
variable{prog:Program}{w:World}{A:Around}{E:Value→Shared→Prop}{s:Shared}
end
section
variable{X:Cx}{pins:List (Addr×Obj)}{σ:St}{H:Hp}{s:Shared}{d:Addr}{o:Obj}
end
section
variable{P:Program}{w:World}{K:Z0a}{tg:Expr}{d:Addr}{o:Obj}{es:Array DictEntry}{ep:Nat}
end
section
variable{X:Cx}{tg e:Expr}{td:TE}{apos cpos:Pos}
end
def Ite(K:Z0a)(a:Addr):It :=
 ⟨fun i H=>∃ (xs:List V)(x:V),SqL K H a xs∧xs[i]?=some x,fun i H v H'=>∃ T x,v=.ref T∧H T=none∧H'=upd H T (.tup [.int (i:Nat),x])∧∀ xs,SqL K H a xs→xs[i]?=some x,fun i H=>∃ xs:List V,SqL K H a xs∧xs.length≤i⟩
theorem ZaW{P:Program}{w:World}{K:Z0a}{elts:List Expr}{kk:Nat}{tpos:Pos}(a e it:Addr) :
  Turn P w K (.Tuple elts kk tpos) (Ite K a) [e,it] e (fun i h=>(∃ old,IsEnum h e it ((i:Nat):Int) old)∧h.IsListIter it a i∧e≠it) where
 mem:=by simp
 obj:=fun i h st b hb=>by
  obtain⟨⟨old,he⟩,⟨o,ho,hc,hd⟩,_⟩:=st
  have e':b=e∨b=it:=by simpa using hb
  rcases e' with z |z
  ·rw [z];exact⟨_,he,fun v q=>nomatch q⟩
  ·rw [z];exact⟨o,ho,fun v q=>by rw [hd]at q;cases q⟩
 keep:=fun i h h' st k=>let ⟨⟨old,he⟩,hi,hne⟩:=st;⟨⟨old,k e (by simp) _ he⟩,hi.at fun o q=>k it (by simp) o q,hne⟩
 item:=by
  intro X hP hw hK hc i pins s σ H E I hf st hg
  subst hP hw hK
  obtain⟨⟨old,he⟩,hit,hne⟩:=st
  obtain⟨xs,x,hq,hx⟩:=hg
  obtain⟨its,rv,p,hz⟩:=I.list hq
  obtain⟨u,hu,ru⟩:=rv.get hx
  have hel:e<s.heap.objs.size:=Z0f he
  have hil:it<s.heap.objs.size:=by obtain⟨_,q,_⟩:=hit;exact Z0f q
  refine wpAny_pyNext_enum_item he hit p.isList (x:=u) (by simpa using hu) hne fun h' ho hit' hT hsz hk=>?_
  refine⟨_,rfl,wpAny_letOwnedTupleGo_enum (s:={ s with heap:=h',toks:=s.toks+1 }) ho fun h'' he' sb=>?_⟩
  have hT2:h''.get? s.heap.objs.size=some { cls:=.type "tuple",data:=.seq #[.int i s.toks,u] }:=(sb.2 _ (Z1j hel)).trans hT
  have new:ObjOk X.prog X.w (upd H s.heap.objs.size (.tup [.int (i:Nat),x])) h'' s.heap.objs.size (.tup [.int (i:Nat),x]) :=
   ⟨by show 2≤sizeLine;decide,[.int i s.toks,u],.cons ⟨_,rfl⟩ (.cons ru .nil),⟨_,hT2,rfl,_,rfl⟩⟩
  have I1:Inv X pins σ (upd H s.heap.objs.size (.tup [.int (i:Nat),x])) { s with heap:=h'',toks:=s.toks+1 } :=
   I.turnedNew (ch:=[e,it]) (fun b ob hb q=>(sb.2 b (fun z=>hb (by simp [z]))).trans (hk b ob (fun z=>hb (by simp [z])) (fun z=>hb (by simp [z])) q)) hf (Z0d _) new
  refine⟨.ref s.heap.objs.size,_,I1,rfl,⟨_,x,rfl,I.hok.fresh (Z0d _),rfl,fun ys hy=>by rw [I.list_inj hy hq];exact hx⟩,⟨⟨u,?_⟩,hit'.at fun o q=>(sb.2 it (Ne.symm hne)).trans q,hne⟩,fun b hb=>?_⟩
  ·have e1:((i+1:Nat):Int)=(i:Int)+1:=by omega
   rw [e1];exact he'
  ·have hb':b<s.heap.objs.size:=by
    have e':b=e∨b=it:=by simpa using hb
    rcases e' with z |z
    ·rw [z];exact hel
    ·rw [z];exact hil
   rw [Z2m (Z0o hb')]
   exact(hf b hb).1
 done:=by
  intro X hP hw hK hc i pins s σ H E I hf st hg
  subst hP hw hK
  obtain⟨⟨old,he⟩,hit,hne⟩:=st
  obtain⟨xs,hq,hx⟩:=hg
  obtain⟨its,rv,p,hz⟩:=I.list hq
  obtain⟨f0,f1,f2,f3,f4,f5⟩:=hf it (by simp)
  have hl:=rv.length
  exact wpAny_pyNext_enum_end (I.ok.hd hc) he hit p.isList (by simp;omega) fun h' eb=>⟨rfl,I.turned (t':=s.toks) (fun b o hb q=>eb b o hb q) f0 f1 f3 f4 f5⟩
 self:=fun A i s Q E st h=>let ⟨⟨_,he⟩,_⟩:=st;wpAny_pyIter_enum he h
def iEnum(K:Z0a)(ta:TA):TI:=fun σ H R=>ta σ H fun vs H1=>∃ a xs,vs=[.ref a]∧SqL K H1 a xs∧R (Ite K a) H1
theorem Z6M{X:Cx}{e:Expr}{ta:TA}{p pos tpos:Pos}{elts:List Expr}{kk:Nat}(hg:Gl X "enumerate")(hm:X.mg "enumerate" = none)(ha:PA X [e] ta)(hs:starEach [e] X.env=[(false,eval e X.env)]:=by rfl) :
  PI X (.Tuple elts kk tpos) (.Call (.Name "enumerate" p) [e] [] pos) (iEnum X.K ta):=by
 intro pins s σ H R I h
 refine Call_ (Z5J I hg hm boot_enumerate (PyProof.Rows.callWith_type1 (thn (ha pos pins s σ H _ I h) fun us s1 ⟨vs,H1,I1,r1,q1⟩=>?_) hs rfl))
 obtain⟨a,xs,ex,hq,q⟩:=q1
 subst ex
 cases r1 with
 |cons r rr =>
  cases rr
  cases r
  obtain⟨its,rv,p',hz⟩:=I1.list hq
  refine call_enumerate_list p'.isList fun h' he hit hsz hk=>wpAny_pyIter_enum he ?_
  have I2:Inv X pins σ H1 { s1 with heap:=h' }:=I1.kept (t':=s1.toks) hk
  refine⟨s1.heap.objs.size+1,[s1.heap.objs.size+1,s1.heap.objs.size],_,_,H1,rfl,I2,ZaW a (s1.heap.objs.size+1) s1.heap.objs.size,⟨⟨.none,he⟩,hit,Nat.succ_ne_self _⟩,fun b hb=>?_,q⟩
  have e':b=s1.heap.objs.size+1∨b=s1.heap.objs.size:=by simpa using hb
  have hle:s1.heap.objs.size≤b:=by
   rcases e' with z |z
   ·rw [z];exact Z1m _ _
   ·rw [z];exact Z0d _
  exact I1.fpOk hle (I1.hok.fresh hle)
theorem Zbg:bootBuiltins "zip" = some (.type "zip"):=by decide +kernel
def Itz(K:Z0a)(a b:Addr):It :=
 ⟨fun i H=>∃ (xs ys:List V)(x y:V),SqL K H a xs∧SqL K H b ys∧xs[i]?=some x∧ys[i]?=some y,
  fun i H v H'=>∃ T x y,v=.ref T∧H T=none∧H'=upd H T (.tup [x,y])∧(∀ xs,SqL K H a xs→xs[i]?=some x)∧∀ ys,SqL K H b ys→ys[i]?=some y,
  fun i H=>∃ xs ys:List V,SqL K H a xs∧SqL K H b ys∧(xs.length≤i∨ys.length≤i)⟩
theorem turn_zip{P:Program}{w:World}{K:Z0a}{elts:List Expr}{kk:Nat}{tpos:Pos}{a b z TI TO i1 i2:Addr}(D:ZipApart z TI TO i1 i2 a b) :
  Turn P w K (.Tuple elts kk tpos) (Itz K a b) [z,TI,TO,i1,i2] z (fun i h=>IsZip h z TI TO .none∧IsPair h TI (.ref i1) (.ref i2)∧(∃ x y,IsPair h TO x y)∧h.IsListIter i1 a i∧h.IsListIter i2 b i) where
 mem:=by simp
 obj:=fun i h st c hc=>by
  obtain⟨hz,hTI,⟨x,y,hTO⟩,⟨o1,e1,_,d1⟩,⟨o2,e2,_,d2⟩⟩:=st
  have e':c=z∨c=TI∨c=TO∨c=i1∨c=i2:=by simpa using hc
  rcases e' with q |q |q |q |q
  ·rw [q];exact⟨_,hz,fun v q=>nomatch q⟩
  ·rw [q];exact⟨_,hTI,fun v q=>nomatch q⟩
  ·rw [q];exact⟨_,hTO,fun v q=>nomatch q⟩
  ·rw [q];exact⟨o1,e1,fun v q=>by rw [d1]at q;cases q⟩
  ·rw [q];exact⟨o2,e2,fun v q=>by rw [d2]at q;cases q⟩
 keep:=fun i h h' st k=>by
  obtain⟨hz,hTI,⟨x,y,hTO⟩,h1,h2⟩:=st
  exact⟨k z (by simp) _ hz,k TI (by simp) _ hTI,⟨x,y,k TO (by simp) _ hTO⟩,h1.at fun o q=>k i1 (by simp) o q,h2.at fun o q=>k i2 (by simp) o q⟩
 item:=by
  intro X hP hw hK hc i pins s σ H E I hf st hg
  subst hP hw hK
  obtain⟨hz,hTI,⟨x0,y0,hTO⟩,h1,h2⟩:=st
  obtain⟨xs,ys,x,y,hqx,hqy,hx,hy⟩:=hg
  obtain⟨its,rv,p,_⟩:=I.list hqx
  obtain⟨its2,rv2,p2,_⟩:=I.list hqy
  obtain⟨u,hu,ru⟩:=rv.get hx
  obtain⟨u2,hu2,ru2⟩:=rv2.get hy
  have hzl:z<s.heap.objs.size:=Z0f hz
  refine wpAny_pyNext_zip_item D hz hTI hTO h1 h2 p.isList p2.isList (x:=u) (y:=u2) (by simpa using hu) (by simpa using hu2) fun h' z' TO' h1' h2' hT hsz hk=>?_
  refine⟨_,rfl,wpAny_letOwnedTupleGo_zip (s:={ s with heap:=h' }) z' fun h'' z'' sb=>?_⟩
  have hT2:h''.get? s.heap.objs.size=some { cls:=.type "tuple",data:=.seq #[u,u2] }:=(sb.2 _ (Z1j hzl)).trans hT
  have new:ObjOk X.prog X.w (upd H s.heap.objs.size (.tup [x,y])) h'' s.heap.objs.size (.tup [x,y]) :=
   ⟨by show 2≤sizeLine;decide,[u,u2],.cons ru (.cons ru2 .nil),⟨_,hT2,rfl,_,rfl⟩⟩
  have I1:Inv X pins σ (upd H s.heap.objs.size (.tup [x,y])) { s with heap:=h'' } :=
   I.turnedNew (t':=s.toks) (ch:=[z,TI,TO,i1,i2]) (fun c o hb q=>(sb.2 c (fun q'=>hb (by simp [q']))).trans (hk c o (fun q'=>hb (by simp [q'])) (fun q'=>hb (by simp [q'])) (fun q'=>hb (by simp [q'])) (fun q'=>hb (by simp [q'])) q)) hf (Z0d _) new
  refine⟨.ref s.heap.objs.size,_,I1,rfl,⟨_,x,y,rfl,I.hok.fresh (Z0d _),rfl,fun l hl=>by rw [I.list_inj hl hqx];exact hx,fun l hl=>by rw [I.list_inj hl hqy];exact hy⟩,⟨z'',?_,⟨u,u2,?_⟩,?_,?_⟩,fun c hcm=>?_⟩
  ·exact(sb.2 _ D.TIz).trans (hk _ _ D.TIz D.TITO D.TIi1 D.TIi2 hTI)
  ·exact(sb.2 _ D.TOz).trans TO'
  ·exact h1'.at fun o q=>(sb.2 _ D.i1z).trans q
  ·exact h2'.at fun o q=>(sb.2 _ D.i2z).trans q
  ·have hlt:c<s.heap.objs.size:=by
    have e':c=z∨c=TI∨c=TO∨c=i1∨c=i2:=by simpa using hcm
    rcases e' with q |q |q |q |q
    ·rw [q];exact hzl
    ·rw [q];exact Z0f hTI
    ·rw [q];exact Z0f hTO
    ·rw [q];obtain⟨_,e1,_⟩:=h1;exact Z0f e1
    ·rw [q];obtain⟨_,e2,_⟩:=h2;exact Z0f e2
   rw [Z2m (Z0o hlt)]
   exact(hf c hcm).1
 done:=by
  intro X hP hw hK hc i pins s σ H E I hf st hg
  subst hP hw hK
  obtain⟨hz,hTI,⟨x0,y0,hTO⟩,h1,h2⟩:=st
  obtain⟨xs,ys,hqx,hqy,hend⟩:=hg
  obtain⟨its,rv,p,_⟩:=I.list hqx
  obtain⟨its2,rv2,p2,_⟩:=I.list hqy
  have l1:=rv.length
  have l2:=rv2.length
  have he:its.toArray[i]?=none∨its2.toArray[i]?=none:=by
   rcases hend with q |q
   ·exact .inl (by simp;omega)
   ·exact .inr (by simp;omega)
  exact wpAny_pyNext_zip_end (I.ok.hd hc) D hz hTI hTO h1 h2 p.isList p2.isList he fun h' hk=>⟨rfl,I.turnedL (t':=s.toks) (ch:=[z,TI,TO,i1,i2]) (fun c o hb q =>
   hk c o (fun q'=>hb (by simp [q'])) (fun q'=>hb (by simp [q'])) (fun q'=>hb (by simp [q'])) (fun q'=>hb (by simp [q'])) q) hf⟩
 self:=fun A i s Q E st h=>wpAny_pyIter_zip st.1 h
def iZip(K:Z0a)(ta:TA):TI:=fun σ H R=>ta σ H fun vs H1=>∃ a b xs ys,vs=[.ref a,.ref b]∧SqL K H1 a xs∧SqL K H1 b ys∧R (Itz K a b) H1
theorem pi_zip{X:Cx}{e e2:Expr}{ta:TA}{p pos tpos:Pos}{elts:List Expr}{kk:Nat}(hg:Gl X "zip")(hm:X.mg "zip" = none)(ha:PA X [e,e2] ta)
  (hs:starEach [e,e2] X.env=(false,eval e X.env)::starEach [e2] X.env:=by rfl)(hpl:(backTo pos (starEach [e2] X.env)).any (·.1)=false:=by rfl) :
  PI X (.Tuple elts kk tpos) (.Call (.Name "zip" p) [e,e2] [] pos) (iZip X.K ta):=by
 intro pins s σ H R I h
 refine Call_ (Z5J I hg hm Zbg (PyProof.Rows.callWith_type1 (thn (ha pos pins s σ H _ I h) fun us s1 ⟨vs,H1,I1,r1,q1⟩=>?_) hs hpl))
 obtain⟨a,b,xs,ys,ex,hqx,hqy,q⟩:=q1
 subst ex
 cases r1 with
 |cons r rr =>
  cases rr with
  |cons r' rr =>
   cases rr
   cases r
   cases r'
   obtain⟨its,rv,p1,_⟩:=I1.list hqx
   obtain⟨its2,rv2,p2,_⟩:=I1.list hqy
   have la:a<s1.heap.objs.size:=p1.lt
   have lb:b<s1.heap.objs.size:=p2.lt
   refine call_zip_2 p1.isList p2.isList fun h' hz hTI hTO h1 h2 hsz hk=>wpAny_pyIter_zip hz ?_
   have I2:Inv X pins σ H1 { s1 with heap:=h' }:=I1.kept (t':=s1.toks) hk
   refine⟨s1.heap.objs.size+4,[s1.heap.objs.size+4,s1.heap.objs.size+2,s1.heap.objs.size+3,s1.heap.objs.size,s1.heap.objs.size+1],_,_,H1,rfl,I2,turn_zip (PySem.W.ktu_apart s1.heap.objs.size a b la lb),⟨hz,hTI,⟨_,_,hTO⟩,h1,h2⟩,fun c hcm=>?_,q⟩
   have e':c=s1.heap.objs.size+4∨c=s1.heap.objs.size+2∨c=s1.heap.objs.size+3∨c=s1.heap.objs.size∨c=s1.heap.objs.size+1:=by simpa using hcm
   have hle:s1.heap.objs.size≤c:=by
    rcases e' with z |z |z |z |z
    ·rw [z];exact Z1m _ _
    ·rw [z];exact Z1m _ _
    ·rw [z];exact Z1m _ _
    ·rw [z];exact Z0d _
    ·rw [z];exact Z1m _ _
   exact I1.fpOk hle (I1.hok.fresh hle)
end L2
section
namespace Bits
open PySem PyProof.Rows
end Bits
end
section
namespace TL
open PySem PySem.Builtin PySem.Builtin.Str PySem.StrLaws
end TL
end
namespace L2
open PySem PySem.Spec PyProof.Rows
section
variable{X:Cx}{pins:List (Addr×Obj)}{σ:St}{H:Hp}{s:Shared}{Q:VK}
end
section
variable{X:Cx}
end
section
variable{X:Cx}{o e:Expr}{to te:TE}
end
end L2
namespace L2
open PySem PySem.Spec PyProof.Rows
section
variable{X:Cx}
end
end L2
namespace Att
open PySem PySem.W PySem.Calls PyProof.Rows
section
variable{prog:Program}{w:World}{A:Around}{E:Value→Shared→Prop}{s:Shared}{K:Frag}
end
end Att
namespace L2
open PySem PySem.Spec PyProof.Rows
end L2
namespace L2
open PySem PySem.Spec PyProof.Rows
end L2
namespace L2
open PySem PySem.Spec PyProof.Rows
def Z2O(s:Stmt)(j:Nat):Stmt:=match s with
 |.ClassDef _ _ _ body _ _ _ _ _ _ _=>body.getD j (.Pass ⟨0,0,0,0⟩)
 |_=>.Pass ⟨0,0,0,0⟩
def Z3m(s:Stmt):Arguments:=match s with
 |.FunctionDef _ a _ _ _ _ _ _ _ _=>a
 |_=>{ posonlyargs:=[],args:=[],vararg:=none,kwonlyargs:=[],kw_defaults:=[],kwarg:=none,defaults:=[] }
def Z2F(s:Stmt):List Stmt:=match s with
 |.FunctionDef _ _ b _ _ _ _ _ _ _=>b
 |_=>[]
def Z2r(s:Stmt):Scope:=match s with
 |.FunctionDef _ _ _ _ _ _ sc _ _ _=>sc
 |_=>{ kind:=.function,names:=[],isGenerator:=false,isCoroutine:=false }
abbrev CX0:CXT:=fun _ _ _ _ _ _=>False
abbrev E0:XK:=fun _ _ _=>False
theorem pass0{X:Cx}:Z3g CX0 X E0:=fun _ _ _ _ _ _ _ h=>h.elim
structure Fun(K:Z0a)(x qual:Str)(st:Stmt)(f:Addr)(fd:FuncData):Prop where
 ex:∃ (oc:Value)(od:Option Addr)(kV doc pm:Value)(an:Option Addr)(cdv ct:Value)(osl:Array (Option Value)),
  fd=PySem.W.fnOf x qual (Z3m st) (Z2F st) (Z2r st) .none kV doc pm an cdv ct∧K.lookup f=some ⟨oc,od,.func fd,osl⟩∧PySem.W.codeIn K cdv qual=true
 kp:PySem.W.keepIn K (.ref f)=true
section
variable{P:Program}{w:World}{K:Z0a}{mg:Str→Option Value}{base:Heap}
theorem Fun.ok{x qual:Str}{st:Stmt}{f:Addr}{fd:FuncData}{N ps:List Str}{k:Nat}{sp:Sp}(F:Fun K x qual st f fd)(S:Z2v N ps (Z2r st))(len:∀ vs H Q E,sp vs H Q E→vs.length=ps.length)
  (hbody:∀ (cdv:Value)(A:Around)(outer:List Env)(s:Shared)(H:Hp)(vs:List V)(Q:VK)(E:XK),Room k (A.deeper (envOfC qual (Z2r st) s.heap.objs.size f cdv))→sp vs H Q E →
    ∃ t,PSs (cxOf CX0 P w K mg base N qual (Z2r st) f cdv A outer s H E).nox (Z2F st) t∧t { nx:=fun _ H'=>Q .non H',rt:=Q } (start N vs) H):FnOk P w K mg base CX0 (k+1) f fd ps sp:=by
 obtain⟨oc,od,kV,doc,pm,an,cdv,ct,osl,rfl,lk,hcd⟩:=F.ex
 refine fn_of lk hcd S len fun A outer s H vs Q E hr hsp=>?_
 obtain⟨t,h,q⟩:=hbody cdv A outer s H vs Q E hr hsp
 exact⟨t,h.nox,q⟩
theorem Fun.binds{x qual:Str}{st:Stmt}{f:Addr}{fd:FuncData}{ps:List Str}(F:Fun K x qual st f fd)
  (h:∀ (kV doc pm:Value)(an:Option Addr)(cdv ct:Value)(us:List Value),us.length=ps.length→bindArgs (PySem.W.fnOf x qual (Z3m st) (Z2F st) (Z2r st) .none kV doc pm an cdv ct) ⟨us,[]⟩=pure (ps.zip us)):Binds K fd ps []:=by
 obtain⟨oc,od,kV,doc,pm,an,cdv,ct,osl,rfl,lk,hcd⟩:=F.ex
 exact .all (h kV doc pm an cdv ct)
theorem fun_mk{x qual:Str}{st:Stmt}{f:Addr}{oc:Value}{od an:Option Addr}{osl:Array (Option Value)}{kV doc pm cdv ct:Value}(l:K.lookup f=some ⟨oc,od,.func (PySem.W.fnOf x qual (Z3m st) (Z2F st) (Z2r st) .none kV doc pm an cdv ct),osl⟩)
  (c:PySem.W.codeIn K cdv qual=true)(k:PySem.W.keepIn K (.ref f)=true):Fun K x qual st f (PySem.W.fnOf x qual (Z3m st) (Z2F st) (Z2r st) .none kV doc pm an cdv ct):=⟨⟨oc,od,kV,doc,pm,an,cdv,ct,osl,rfl,l,c⟩,k⟩
end
theorem hu_of{A:Around}{k:Nat}(hr:Room k A):A.units+1<cLine:=Z1n (Nat.add_le_add_left (by decide:1≤64) _) hr.units
section
variable{X:Cx}
theorem pv(i:Nat){x:Str}{pos:Pos}(hN:X.N[i]?=some x:=by rfl)(hv:Vis X.env.scope x:=by first |exact Or.inl rfl |exact Or.inr (Or.inl rfl) |exact Or.inr (Or.inr rfl))(hd:(x==("__debug__" : Str))=false:=by decide)
  (hcd:(x==("__classdict__" : Str))=false:=by decide):PE X (.Name x pos) (tVar i):=pe_var hN hv hd hcd
end
theorem ite2{c A B:Prop}[Decidable c](h1:c→A)(h2:¬ c→B):if c then A else B:=by
 by_cases h:c
 ·rw [if_pos h]
  exact h1 h
 ·rw [if_neg h]
  exact h2 h
def Same(H H':Hp):Prop:=∀ b o,H b=some o→H' b=some o
theorem Same.refl(H:Hp):Same H H:=fun _ _ h=>h
theorem Same.trans{H H1 H2:Hp}(a:Same H H1)(b:Same H1 H2):Same H H2:=fun c o h=>b c o (a c o h)
theorem Same.free{H H':Hp}(e:Same H H'){l:Addr}(h:H' l=Option.none):H l=Option.none:=by
 cases q:H l with
 |none=>rfl
 |some o =>
  rw [e l o q]at h
  cases h
theorem Same.seq{K:Z0a}{H H':Hp}{a:Addr}{xs:List V}(e:Same H H')(h:SqL K H a xs):SqL K H' a xs:=by
 rcases h with(h |⟨o,h⟩) |h
 ·exact .inl (.inl (e _ _ h))
 ·exact .inl (.inr ⟨o,e _ _ h⟩)
 ·exact .inr h
section
variable{κ:Type}[DecidableEq κ]
end
end L2
end
section
set_option maxHeartbeats 2000000
namespace L2
open PySem PySem.Spec PyProof.Rows
open PySem.W (WData Codec OpenSpec Well WellAll ReadsW ReadsAllW)
mutual
inductive Dw (K:Z0a)(H:Hp):V→WData→Prop
 |non:Dw K H .non .none
 |bl (b:Bool):Dw K H (.bl b) (.bool b)
 |int (i:Int):Dw K H (.int i) (.int i)
 |str (x:Str):Dw K H (.str x) (.str x)
 |byt (b:Array UInt8):Dw K H (.byt b) (.bytes b.toList)
 |lst {a:Addr}{xs:List V}{ds:List WData}:SqL K H a xs→DwAll K H xs ds→Dw K H (.ref a) (.list ds)
 |tup {a:Addr}{xs:List V}{ds:List WData}:SqT K H a xs→DwAll K H xs ds→Dw K H (.ref a) (.tuple ds)
inductive DwAll (K:Z0a)(H:Hp):List V→List WData→Prop
 |nil:DwAll K H [] []
 |cons {v:V}{vs:List V}{d:WData}{ds:List WData}:Dw K H v d→DwAll K H vs ds→DwAll K H (v::vs) (d::ds)
end
theorem Zbs{K:Z0a}{H:Hp}:∀ ns:List Int,DwAll K H (ns.map V.int) (ns.map WData.int)
 |[]=>.nil
 |n::r=>.cons (.int n) (Zbs r)
theorem Zbt{K:Z0a}{H:Hp}:∀ (ns:List Int)(xs:List V),DwAll K H xs (ns.map WData.int)→xs=ns.map V.int
 |[],xs,h=>by
  cases h
  rfl
 |n::r,xs,h=>by
  cases h with
  |cons h1 h2 =>
   cases h1
   rw [Zbt r _ h2]<;>rfl
section
variable{P:Program}{w:World}{K:Z0a}{H:Hp}{h:Heap}{R:PySem.W.WRecords}{cl:Str→Option Addr}
theorem sqL_at{a:Addr}{xs:List V}(hok:HOk P w H h)(KX:K.In h)(q:SqL K H a xs):∃ (its:List Value)(o:Obj)(n:Nat),Vals xs its∧h.get? a=some o∧o.cls=.type "list"∧o.data=.seq its.toArray n:=by
 rcases q with q |⟨o,its,n,e,hc,_,hd,_,hv⟩
 ·obtain⟨_,its,n,hv,e⟩:=(show ObjOk P w H h a (.lst xs)from q.ok hok)
  exact⟨its,_,n,hv,e,rfl,rfl⟩
 ·exact⟨its.toList,o,n,hv,KX _ _ e,hc,by simp [hd]⟩
theorem sqT_at{a:Addr}{xs:List V}(hok:HOk P w H h)(KX:K.In h)(q:SqT K H a xs):∃ (its:List Value)(o:Obj)(n:Nat),Vals xs its∧h.get? a=some o∧o.cls=.type "tuple"∧o.data=.seq its.toArray n:=by
 rcases q with q |⟨o,its,n,e,hc,hd,_,hv⟩
 ·obtain⟨_,its,hv,o,e,hc,n,hd⟩:=(show ObjOk P w H h a (.tup xs)from q.ok hok)
  exact⟨its,o,n,hv,e,hc,hd⟩
 ·exact⟨its.toList,o,n,hv,KX _ _ e,hc,by simp [hd]⟩
mutual
theorem Dw.reads(hok:HOk P w H h)(KX:K.In h):∀ (d:WData)(v:V)(u:Value),Dw K H v d→RelV v u→∃ as,ReadsW R cl h u d as
 |.none,_,_,x,r=>by
  cases x
  cases r
  exact⟨_,ReadsW.none⟩
 |.bool b,_,_,x,r=>by
  cases x
  cases r
  exact⟨_,ReadsW.bool b⟩
 |.int i,_,_,x,r=>by
  cases x
  obtain⟨t,rfl⟩:=r
  exact⟨_,ReadsW.int i t⟩
 |.str s,_,_,x,r=>by
  cases x
  obtain⟨t,rfl⟩:=r
  exact⟨_,ReadsW.str s t⟩
 |.bytes b,_,_,x,r=>by
  cases x
  obtain⟨t,rfl⟩:=r
  exact⟨_,ReadsW.bytes _ t⟩
 |.list ds,_,_,x,r=>by
  cases x with
  |lst hs ha =>
   cases r
   obtain⟨its,o,n,rv,ho,hc,hd⟩:=sqL_at hok KX hs
   obtain⟨as,hr⟩:=Dw.readsAll hok KX ds _ its ha rv
   exact⟨_,ReadsW.list ho hc hd hr⟩
 |.tuple ds,_,_,x,r=>by
  cases x with
  |tup hs ha =>
   cases r
   obtain⟨its,o,n,rv,ho,hc,hd⟩:=sqT_at hok KX hs
   obtain⟨as,hr⟩:=Dw.readsAll hok KX ds _ its ha rv
   exact⟨_,ReadsW.tuple ho hc hd hr⟩
 |.float _,_,_,x,_=>by cases x
 |.dict _,_,_,x,_=>by cases x
 |.bytearray _,_,_,x,_=>by cases x
 |.set _,_,_,x,_=>by cases x
 |.frozenset _,_,_,x,_=>by cases x
 |.obj _ _,_,_,x,_=>by cases x
theorem Dw.readsAll(hok:HOk P w H h)(KX:K.In h):∀ (ds:List WData)(vs:List V)(us:List Value),DwAll K H vs ds→Vals vs us→∃ as,ReadsAllW R cl h us ds as
 |[],_,_,x,r=>by
  cases x
  cases r
  exact⟨_,ReadsAllW.nil⟩
 |d::ds,_,_,x,r=>by
  cases x with
  |cons h1 h2 =>
   cases r with
   |cons r1 r2 =>
    obtain⟨as,q1⟩:=Dw.reads hok KX d _ _ h1 r1
    obtain⟨bs,q2⟩:=Dw.readsAll hok KX ds _ _ h2 r2
    exact⟨_,ReadsAllW.cons q1 q2⟩
end
end
mutual
def plW:WData→Bool
 |.none=>true
 |.bool _=>true
 |.int _=>true
 |.str _=>true
 |.bytes _=>true
 |.list xs=>plWs xs
 |.tuple xs=>plWs xs
 |_=>false
def plWs:List WData→Bool
 |[]=>true
 |x::r=>plW x&&plWs r
end
theorem Z8C{α:Type}{f:α→WData}(h:∀ a,plW (f a)=true):∀ l:List α,plWs (l.map f)=true
 |[]=>rfl
 |x::r=>by
  show(plW (f x)&&plWs (r.map f))=true
  rw [h x,Z8C h r]<;>rfl
theorem Z4K:∀ (c:Codec)(a:c.denote),plW (c.enc a)=true
 |.unit,_=>rfl
 |.bool,_=>rfl
 |.int _ _,_=>rfl
 |.nat _ _,_=>rfl
 |.u8,_=>rfl
 |.bytes _ _,_=>rfl
 |.text _ _ _ _,_=>rfl
 |.list _ _ c,a=>Z8C (fun x=>Z4K c x) a
 |.pair c d,a=>by
  show(plW (c.enc a.1)&&(plW (d.enc a.2)&&true))=true
  rw [Z4K c a.1,Z4K d a.2]<;>rfl
 |.triple c d e,a=>by
  show(plW (c.enc a.1)&&(plW (d.enc a.2.1)&&(plW (e.enc a.2.2)&&true)))=true
  rw [Z4K c a.1,Z4K d a.2.1,Z4K e a.2.2]<;>rfl
 |.option c,none=>rfl
 |.option c,some x=>Z4K c x
theorem Z8h:∀ (cs:List Codec)(a:Codec.denoteAll cs),plWs (Codec.encAll cs a)=true
 |[],_=>rfl
 |c::cs,a=>by
  show(plW (c.enc a.1)&&plWs (Codec.encAll cs a.2))=true
  rw [Z4K c a.1,Z8h cs a.2]<;>rfl
theorem Z5M:∀ {xs:List WData}{d:WData},d∈xs→d.weight≤WData.weightAll xs
 |[],d,h=>absurd h (by simp)
 |x::r,d,h=>by
  show d.weight≤x.weight+1+WData.weightAll r
  rcases Z0e.mp h with e |m
  ·rw [e]
   omega
  ·have z:=Z5M m
   omega
def toV:Value→V
 |.none=>.non
 |.bool b=>.bl b
 |.int i _=>.int i
 |.str x _=>.str x
 |.bytes b _=>.byt b
 |.ref a=>.ref a
 |_=>.non
def OkU(A:List Addr):Value→Prop
 |.none=>True
 |.bool _=>True
 |.int _ _=>True
 |.str _ _=>True
 |.bytes _ _=>True
 |.ref a=>a∈A
 |_=>False
theorem OkU.mono{A B:List Addr}(h:∀ a∈A,a∈B):∀ {u:Value},OkU A u→OkU B u:=fun{u} x=>by
 cases u with
 |ref a=>exact h a x
 |none=>trivial
 |bool b=>trivial
 |int i t=>trivial
 |str s t=>trivial
 |bytes b t=>trivial
 |_=>exact False.elim x
theorem relV_toV{A:List Addr}{u:Value}(x:OkU A u):RelV (toV u) u:=by
 cases u with
 |ref a=>rfl
 |none=>rfl
 |bool b=>rfl
 |int i t=>exact⟨t,rfl⟩
 |str s t=>exact⟨t,rfl⟩
 |bytes b t=>exact⟨t,rfl⟩
 |_=>exact False.elim x
theorem Z4t{A:List Addr}:∀ {vs:List Value},(∀ u∈vs,OkU A u)→Vals (vs.map toV) vs
 |[],_=>.nil
 |u::r,h=>.cons (relV_toV (h u (Z0h ..))) (Z4t fun x hx=>h x (Z0g _ hx))
def ArgOb(h:Heap)(A:List Addr)(a:Addr):Prop:=∃ vs:List Value,vs.length≤sizeLine∧(∀ u∈vs,OkU A u) ∧
 (h.get? a=some { cls:=.type "list",data:=.seq vs.toArray }∨h.get? a=some { cls:=.type "tuple",data:=.seq vs.toArray })
theorem ArgOb.mono{h:Heap}{A B:List Addr}{a:Addr}(k:∀ a∈A,a∈B)(x:ArgOb h A a):ArgOb h B a:=by
 obtain⟨vs,h1,h2,h3⟩:=x
 exact⟨vs,h1,fun u hu=>(h2 u hu).mono k,h3⟩
theorem Z4C{P:Params}{h:Heap}:∀ {vs:List Value}{ds:List WData},WellAll P h vs ds→vs.length=ds.length
 |_,_,.nil=>rfl
 |_,_,.cons _ b=>by
  show _+1=_+1
  rw [Z4C b]
theorem Z8t{P:Params}{h:Heap}{v:Value}{ds:List WData}(x:Well P h v (.list ds)):∃ (a:Addr)(vs:List Value),v=.ref a∧h.get? a=some { cls:=.type "list",data:=.seq vs.toArray }∧WellAll P h vs ds:=by
 cases x with
 |list ho hall=>exact⟨_,_,rfl,ho,hall⟩
theorem Z7p{P:Params}{h:Heap}{v:Value}{ds:List WData}(x:Well P h v (.tuple ds)):∃ (a:Addr)(vs:List Value),v=.ref a∧h.get? a=some { cls:=.type "tuple",data:=.seq vs.toArray }∧WellAll P h vs ds:=by
 cases x with
 |tuple ho hall=>exact⟨_,_,rfl,ho,hall⟩
theorem Z7Z{P:Params}{h:Heap}{us:List Value}{d:WData}{ds:List WData}(x:WellAll P h us (d::ds)):∃ (v:Value)(vs:List Value),us=v::vs∧Well P h v d∧WellAll P h vs ds:=by
 cases x with
 |cons a b=>exact⟨_,_,rfl,a,b⟩
theorem Zaq{n:Nat}(h:n≤1048576):n≤sizeLine:=Z0A h (by decide)
section
variable{P:Params}{h:Heap}
mutual
theorem area_one:∀ (d:WData)(v:Value),Well P h v d→plW d=true→d.weight≤1048576→∃ A:List Addr,OkU A v∧∀ a∈A,ArgOb h A a
 |.none,_,x,_,_=>by
  cases x
  exact⟨[],trivial,fun a m=>absurd m (by simp)⟩
 |.bool b,_,x,_,_=>by
  cases x
  exact⟨[],trivial,fun a m=>absurd m (by simp)⟩
 |.int i,_,x,_,_=>by
  cases x
  exact⟨[],trivial,fun a m=>absurd m (by simp)⟩
 |.str s,_,x,_,_=>by
  cases x
  exact⟨[],trivial,fun a m=>absurd m (by simp)⟩
 |.bytes b,_,x,_,_=>by
  cases x
  exact⟨[],trivial,fun a m=>absurd m (by simp)⟩
 |.list ds,_,x,p,z=>by
  obtain⟨a,vs,rfl,ho,hall⟩:=Z8t x
  have z2:WData.weightAll ds≤1048576:=z
  obtain⟨A,h1,h2⟩:=Z5U ds _ hall p fun d hd=>Z0A (Z5M hd) z2
  have k:∀ b∈A,b∈a::A:=fun b hb=>Z0g _ hb
  refine⟨a::A,Z0h ..,fun b hb=>?_⟩
  rcases Z0e.mp hb with e |m
  ·rw [e]
   exact⟨vs,Zaq (by rw [Z4C hall];exact Z0A (PySem.W.length_le_weightAllW ds) z2),fun u hu=>(h1 u hu).mono k,.inl ho⟩
  ·exact(h2 b m).mono k
 |.tuple ds,_,x,p,z=>by
  obtain⟨a,vs,rfl,ho,hall⟩:=Z7p x
  have z2:WData.weightAll ds≤1048576:=z
  obtain⟨A,h1,h2⟩:=Z5U ds _ hall p fun d hd=>Z0A (Z5M hd) z2
  have k:∀ b∈A,b∈a::A:=fun b hb=>Z0g _ hb
  refine⟨a::A,Z0h ..,fun b hb=>?_⟩
  rcases Z0e.mp hb with e |m
  ·rw [e]
   exact⟨vs,Zaq (by rw [Z4C hall];exact Z0A (PySem.W.length_le_weightAllW ds) z2),fun u hu=>(h1 u hu).mono k,.inr ho⟩
  ·exact(h2 b m).mono k
 |.float _,_,_,p,_=>Bool.noConfusion (show false=true from p)
 |.dict _,_,_,p,_=>Bool.noConfusion (show false=true from p)
 |.bytearray _,_,_,p,_=>Bool.noConfusion (show false=true from p)
 |.set _,_,_,p,_=>Bool.noConfusion (show false=true from p)
 |.frozenset _,_,_,p,_=>Bool.noConfusion (show false=true from p)
 |.obj _ _,_,_,p,_=>Bool.noConfusion (show false=true from p)
theorem Z5U:∀ (ds:List WData)(vs:List Value),WellAll P h vs ds→plWs ds=true→(∀ d∈ds,d.weight≤1048576)→∃ A:List Addr,(∀ u∈vs,OkU A u)∧∀ a∈A,ArgOb h A a
 |[],_,x,_,_=>by
  cases x
  exact⟨[],fun u m=>absurd m (by simp),fun a m=>absurd m (by simp)⟩
 |d::ds,_,x,p,z=>by
  obtain⟨v,vs,rfl,x1,x2⟩:=Z7Z x
  have q:plW d=true∧plWs ds=true:=Z1h.mp p
  obtain⟨A,a1,a2⟩:=area_one d v x1 q.1 (z d (Z0h ..))
  obtain⟨B,b1,b2⟩:=Z5U ds vs x2 q.2 fun e he=>z e (Z0g _ he)
  have kA:∀ b∈A,b∈A++B:=fun b hb=>Z0m.mpr (.inl hb)
  have kB:∀ b∈B,b∈A++B:=fun b hb=>Z0m.mpr (.inr hb)
  refine⟨A++B,fun u hu=>?_,fun b hb=>?_⟩
  ·rcases Z0e.mp hu with e |m
   ·rw [e]
    exact a1.mono kA
   ·exact(b1 u m).mono kB
  ·rcases Z0m.mp hb with m |m
   ·exact(a2 b m).mono kA
   ·exact(b2 b m).mono kB
end
end
def hoOf(o:Obj):Option HO:=match o.data with
 |.seq vs _=>if (o.cls==Value.type "list")=true then some (.frz o (.lst (vs.toList.map toV)))else some (.frz o (.tup (vs.toList.map toV)))
 |_=>none
def argH(K:Z0a)(h:Heap)(A:List Addr):Hp:=fun b=>if b∈A then(if (K.lookup b).isNone=true then(h.get? b).bind hoOf else none)else none
def OnlyF(H:Hp):Prop:=∀ b,H b=none∨∃ o u,H b=some (.frz o u)
theorem Z9g(vs:List Value):hoOf { cls:=.type "list",data:=.seq vs.toArray }=some (.frz { cls:=.type "list",data:=.seq vs.toArray } (.lst (vs.map toV))):=by
 show(if (Value.type "list"==Value.type "list")=true then some (HO.frz { cls:=.type "list",data:=.seq vs.toArray } (.lst (vs.toArray.toList.map toV)))else some (HO.frz { cls:=.type "list",data:=.seq vs.toArray } (.tup (vs.toArray.toList.map toV))))=_
 rw [if_pos (beq_self_eq_true _)]
theorem Z8N(vs:List Value):hoOf { cls:=.type "tuple",data:=.seq vs.toArray }=some (.frz { cls:=.type "tuple",data:=.seq vs.toArray } (.tup (vs.map toV))):=by
 show(if (Value.type "tuple"==Value.type "list")=true then some (HO.frz { cls:=.type "tuple",data:=.seq vs.toArray } (.lst (vs.toArray.toList.map toV)))else some (HO.frz { cls:=.type "tuple",data:=.seq vs.toArray } (.tup (vs.toArray.toList.map toV))))=_
 rw [if_neg (by decide)]
section
variable{P:Program}{w:World}{K:Z0a}{h:Heap}{A:List Addr}
theorem Z6J{b:Addr}{o:Obj}(hb:b∈A)(hk:K.lookup b=none)(e:h.get? b=some o):argH K h A b=hoOf o:=by
 unfold argH
 rw [if_pos hb,hk,if_pos (show(none:Option Obj).isNone=true from rfl),e]<;>rfl
theorem of_argH{b:Addr}{u:HO}(q:argH K h A b=some u):b∈A∧K.lookup b=none:=by
 unfold argH at q
 by_cases hb:b∈A
 ·rw [if_pos hb]at q
  cases hk:K.lookup b with
  |none=>exact⟨hb,rfl⟩
  |some o =>
   rw [hk,if_neg (by simp)]at q
   cases q
 ·rw [if_neg hb]at q
  cases q
theorem Z6I(ar:∀ a∈A,ArgOb h A a){b:Addr}{u:HO}(q:argH K h A b=some u):K.lookup b=none∧∃ vs:List Value,vs.length≤sizeLine∧(∀ u∈vs,OkU A u) ∧
  ((h.get? b=some { cls:=.type "list",data:=.seq vs.toArray }∧u=.frz { cls:=.type "list",data:=.seq vs.toArray } (.lst (vs.map toV))) ∨
   (h.get? b=some { cls:=.type "tuple",data:=.seq vs.toArray }∧u=.frz { cls:=.type "tuple",data:=.seq vs.toArray } (.tup (vs.map toV)))):=by
 obtain⟨hb,hk⟩:=of_argH q
 obtain⟨vs,h1,h2,h3⟩:=ar b hb
 refine⟨hk,vs,h1,h2,?_⟩
 rcases h3 with e |e
 ·rw [Z6J hb hk e,Z9g]at q
  exact .inl ⟨e,(Option.some.inj q).symm⟩
 ·rw [Z6J hb hk e,Z8N]at q
  exact .inr ⟨e,(Option.some.inj q).symm⟩
theorem Zbn(ar:∀ a∈A,ArgOb h A a):OnlyF (argH K h A):=fun b=>by
 cases q:argH K h A b with
 |none=>exact .inl rfl
 |some u =>
  obtain⟨_,vs,_,_,⟨_,e⟩ |⟨_,e⟩⟩:=Z6I ar q
  ·exact .inr ⟨_,_,by rw [e]⟩
  ·exact .inr ⟨_,_,by rw [e]⟩
theorem argH_ok(ar:∀ a∈A,ArgOb h A a):HOk P w (argH K h A) h:=fun b u q=>by
 obtain⟨_,vs,h1,h2,⟨e,rfl⟩ |⟨e,rfl⟩⟩:=Z6I ar q
 ·exact⟨e,by rw [Z0b];exact h1,vs,_,Z4t h2,e⟩
 ·exact⟨e,by rw [Z0b];exact h1,vs,Z4t h2,_,e,rfl,_,rfl⟩
theorem Z6L{c c':Value}{vs us:List Value}(e:(some { cls:=c,data:=.seq vs.toArray }:Option Obj)=some { cls:=c',data:=.seq us.toArray }):c=c'∧vs=us:=by
 have e1:=Option.some.inj e
 have e2:c=c':=congrArg Obj.cls e1
 have e3:Data.seq vs.toArray=Data.seq us.toArray:=congrArg Obj.data e1
 injection e3 with e4
 refine⟨e2,?_⟩
 have e5:=congrArg Array.toList e4
 simpa using e5
theorem argL(KX:K.In h)(ar:∀ a∈A,ArgOb h A a){a:Addr}{vs:List Value}(ha:a∈A)(e:h.get? a=some { cls:=.type "list",data:=.seq vs.toArray }):(∀ u∈vs,OkU A u)∧SqL K (argH K h A) a (vs.map toV):=by
 obtain⟨us,h1,h2,h3⟩:=ar a ha
 have hu:us=vs:=by
  rcases h3 with q |q
  ·rw [e]at q
   exact(Z6L q).2.symm
  ·rw [e]at q
   exact absurd (Value.type.inj (Z6L q).1) (by decide)
 subst hu
 refine⟨h2,?_⟩
 cases hk:K.lookup a with
 |none=>exact .inl (.inr ⟨_,by rw [Z6J ha hk e,Z9g]⟩)
 |some o =>
  have e2:=KX a o hk
  rw [e]at e2
  obtain rfl:=Option.some.inj e2
  exact .inr ⟨_,us.toArray,_,hk,rfl,rfl,rfl,by rw [Z0s];exact h1,by simpa using Z4t h2⟩
theorem argT(KX:K.In h)(ar:∀ a∈A,ArgOb h A a){a:Addr}{vs:List Value}(ha:a∈A)(e:h.get? a=some { cls:=.type "tuple",data:=.seq vs.toArray }):(∀ u∈vs,OkU A u)∧SqT K (argH K h A) a (vs.map toV):=by
 obtain⟨us,h1,h2,h3⟩:=ar a ha
 have hu:us=vs:=by
  rcases h3 with q |q
  ·rw [e]at q
   exact absurd (Value.type.inj (Z6L q).1) (by decide)
  ·rw [e]at q
   exact(Z6L q).2.symm
 subst hu
 refine⟨h2,?_⟩
 cases hk:K.lookup a with
 |none=>exact .inl (.inr ⟨_,by rw [Z6J ha hk e,Z8N]⟩)
 |some o =>
  have e2:=KX a o hk
  rw [e]at e2
  obtain rfl:=Option.some.inj e2
  exact .inr ⟨_,us.toArray,_,hk,rfl,rfl,by rw [Z0s];exact h1,by simpa using Z4t h2⟩
mutual
theorem dw_one{Pm:Params}(KX:K.In h)(ar:∀ a∈A,ArgOb h A a):∀ (d:WData)(v:Value),Well Pm h v d→plW d=true→OkU A v→Dw K (argH K h A) (toV v) d
 |.none,_,x,_,_=>by
  cases x
  exact .non
 |.bool b,_,x,_,_=>by
  cases x
  exact .bl b
 |.int i,_,x,_,_=>by
  cases x
  exact .int i
 |.str s,_,x,_,_=>by
  cases x
  exact .str s
 |.bytes b,_,x,_,_=>by
  cases x
  have z:=Dw.byt (K:=K) (H:=argH K h A) b.toArray
  exact z
 |.list ds,_,x,p,hu=>by
  obtain⟨a,vs,rfl,ho,hall⟩:=Z8t x
  obtain⟨h2,hs⟩:=argL KX ar hu ho
  exact .lst hs (Z7i KX ar ds _ hall p h2)
 |.tuple ds,_,x,p,hu=>by
  obtain⟨a,vs,rfl,ho,hall⟩:=Z7p x
  obtain⟨h2,hs⟩:=argT KX ar hu ho
  exact .tup hs (Z7i KX ar ds _ hall p h2)
 |.float _,_,_,p,_=>Bool.noConfusion (show false=true from p)
 |.dict _,_,_,p,_=>Bool.noConfusion (show false=true from p)
 |.bytearray _,_,_,p,_=>Bool.noConfusion (show false=true from p)
 |.set _,_,_,p,_=>Bool.noConfusion (show false=true from p)
 |.frozenset _,_,_,p,_=>Bool.noConfusion (show false=true from p)
 |.obj _ _,_,_,p,_=>Bool.noConfusion (show false=true from p)
theorem Z7i{Pm:Params}(KX:K.In h)(ar:∀ a∈A,ArgOb h A a):∀ (ds:List WData)(vs:List Value),WellAll Pm h vs ds→plWs ds=true→(∀ u∈vs,OkU A u)→DwAll K (argH K h A) (vs.map toV) ds
 |[],_,x,_,_=>by
  cases x
  exact .nil
 |d::ds,_,x,p,hu=>by
  obtain⟨v,vs,rfl,x1,x2⟩:=Z7Z x
  have q:plW d=true∧plWs ds=true:=Z1h.mp p
  exact .cons (dw_one KX ar d v x1 q.1 (hu _ (Z0h ..))) (Z7i KX ar ds vs x2 q.2 fun u m=>hu u (Z0g _ m))
end
end
theorem Z7L{ds:List WData}(h:WData.layableAll ds=true):∀ d∈ds,d.weight≤1048576:=fun d hd =>
 (PySem.W.layableW_iff.mp (Z0J.mp h d hd)).2.2
theorem Z7j:∀ (cs:List Codec)(a:Codec.denoteAll cs),(Codec.encAll cs a).length=cs.length
 |[],_=>rfl
 |c::cs,a=>by
  show(Codec.encAll cs a.2).length+1=cs.length+1
  rw [Z7j cs a.2]
end L2
end
section
namespace EX
open PySem PySem.Spec PyProof.Rows L2
abbrev xob(C:Addr)(dx:Option Addr)(vs:Array Value)(sl:Array (Option Value)):Obj:={ cls:=.ref C,dict:=dx,data:=.fields vs,slots:=sl }
structure Kp(fs ch:List Addr)(h h':Heap):Prop where
 keep:∀ b o,h.get? b=some o→b∉ch→b∉fs→h'.get? b=some o
 slot:∀ b o,h.get? b=some o→b∉ch→∃ sl,h'.get? b=some { o with slots:=sl }
theorem Kp.trans{fs ch ch':List Addr}{h h1 h2:Heap}(x:Kp fs ch h h1)(y:Kp fs ch' h1 h2):Kp fs (ch++ch') h h2:=by
 refine⟨fun b o e n1 n2=>?_,fun b o e n1=>?_⟩
 ·rw [Z0m,not_or]at n1
  exact y.keep b o (x.keep b o e n1.1 n2) n1.2 n2
 ·rw [Z0m,not_or]at n1
  obtain⟨sl,e1⟩:=x.slot b o e n1.1
  obtain⟨sl',e2⟩:=y.slot b _ e1 n1.2
  exact⟨sl',e2⟩
structure Fly(z:Bool)(h:Heap)(e T C:Addr)(dx:Option Addr)(fl:Value):Prop where
 obj:∃ vs sl,h.get? e=some (xob C dx vs sl)∧vs[1]?=some (.ref T)
 tb:∃ oT ts,h.get? T=some oT∧oT.data=.fields ts∧ts[3]?=some fl
 ne:T≠e
 cx:z=true→∀ o vs,h.get? e=some o→o.data=.fields vs→vs[2]?=some .none
def Fre(z:Bool)(h:Heap)(e C:Addr)(dx:Option Addr):Prop:=∃ vs sl,h.get? e=some (xob C dx vs sl)∧vs[1]?=some .none∧(z=true→vs[2]?=some .none)
section
variable{M:Model}{A:Around}{E:Value→Shared→Prop}{s:Shared}{z:Bool}
theorem Z6s{base:Heap}{env:Env}{outer:List Env}{L e C:Addr}{dx:Option Addr}{vs:Array Value}{sl:Array (Option Value)}{head:Value}{had:Bool}{Q:Unit→Shared→Prop}
  (hfr:A.frames=some (env::outer))(hl:s.heap.FunFrames base (env::outer))(hf:env.frame=some L)(he:s.heap.get? e=some (xob C dx vs sl))(hsz:1<vs.size)(hcx:z=true→vs[2]?=some .none)
  (h:∀ h' T,Fly z h' e T C dx (rawInt L)→s.heap.get? T=none→Kp (frs (env::outer)) [e] s.heap h'→Q () { s with heap:=h' }) :
  wpAny M A (do let a ←frameOf env;let pl ←entryPlaceOf L had;let b ←EntryCells.newEntry head a .none (rawInt L) .none pl;setField (.ref e) 1 b) Q E s:=by
 have hne:e∉frs (env::outer):=fun hm=>by
  obtain⟨_,o,ho,hnf⟩:=hl.mem hm
  rw [he]at ho
  cases ho
  exact hnf vs rfl
 refine wpAny_bind (wpAny_frameOf_fun hfr hl hf fun h1 hs=>wpAny_bind (wpAny_entryPlaceOf fun pl hp=>?_))
 unfold EntryCells.newEntry newFields
 refine wpAny_bind (wpAny_newObj_type ?_ (hp.sizeOk5 ..))
 have e1:h1.get? e=some (xob C dx vs sl):=(hs.2.1 e hne).trans he
 have nT:s.heap.get? h1.objs.size=none:=Z1v (by rw [hs.1];exact Z0d _)
 have neT:h1.objs.size≠e:=Z1j (Z0f e1)
 refine wpAny_setField (Z0n _ e1) rfl hsz (h _ h1.objs.size ⟨⟨vs.setIfInBounds 1 (.ref h1.objs.size),sl,?_,by simp [hsz]⟩,⟨_,_,(Z0G _ _ neT.symm).trans (Z0E h1 rfl),rfl,?_⟩,neT,?_⟩ nT ⟨?_,?_⟩)
 ·exact Z0O (Obj.mapFields (·.setIfInBounds 1 (Value.ref h1.objs.size))) (Z0n _ e1) rfl
 ·first |(simp;done) |(rcases hp with rfl |⟨_,_,_,_,_,_,_,rfl⟩<;>simp)
 ·intro hz o vs' q1 q2
  have q4:=Option.some.inj (q1.symm.trans (Z0O (Obj.mapFields (·.setIfInBounds 1 (Value.ref h1.objs.size))) (Z0n _ e1) rfl))
  subst q4
  have q5:vs'=vs.setIfInBounds 1 (Value.ref h1.objs.size):=by
   have q6:(Data.fields (vs.setIfInBounds 1 (Value.ref h1.objs.size)))=.fields vs':=q2
   cases q6;rfl
  subst q5
  rw [Array.getElem?_setIfInBounds_ne (by decide)]
  exact hcx hz
 ·intro b o q n1 n2
  rw [Z0G _ _ (fun z=>n1 (by rw [←z];exact Z0l.mpr rfl))]
  exact Z0n _ ((hs.2.1 b n2).trans q)
 ·intro b o q n1
  obtain⟨sl',q'⟩:=hs.2.2 b o q
  exact⟨sl',(Z0G _ _ (fun z=>n1 (by rw [←z];exact Z0l.mpr rfl))).trans (Z0n _ q')⟩
theorem Z7v{base:Heap}{env:Env}{outer:List Env}{L e C:Addr}{dx:Option Addr}{Q:Unit→Shared→Prop}
  (hfr:A.frames=some (env::outer))(hl:s.heap.FunFrames base (env::outer))(hf:env.frame=some L)(he:Fre z s.heap e C dx)
  (h:∀ h' T,Fly z h' e T C dx (rawInt L)→s.heap.get? T=none→Kp (frs (env::outer)) [e] s.heap h'→Q () { s with heap:=h' }):wpAny M A (noteFrame (.ref e) env) Q E s:=by
 obtain⟨vs,sl,e1,e2,e2x⟩:=he
 unfold noteFrame
 rw [hf]
 refine wpAny_bind (wpAny_field e1 rfl e2 ?_)
 rw [if_neg (by decide)]
 exact Z6s hfr hl hf e1 (Z0V.mp e2).1 e2x h
theorem Z6p{base:Heap}{env:Env}{outer:List Env}{L e T C:Addr}{dx:Option Addr}{Q:Unit→Shared→Prop}
  (hfr:A.frames=some (env::outer))(hl:s.heap.FunFrames base (env::outer))(hf:env.frame=some L)(he:Fly z s.heap e T C dx .none)
  (h:∀ h' T',Fly z h' e T' C dx (rawInt L)→s.heap.get? T'=none→Kp (frs (env::outer)) [T,e] s.heap h'→Q () { s with heap:=h' }):wpAny M A (noteFrame (.ref e) env) Q E s:=by
 obtain⟨⟨vs,sl,e1,e2⟩,⟨oT,ts,t1,t2,t3⟩,ne,cx⟩:=he
 unfold noteFrame
 rw [hf]
 refine wpAny_bind (wpAny_field e1 rfl e2 ?_)
 rw [if_pos (show(Value.ref T != Value.none)=true by simp)]
 refine wpAny_bind (wpAny_field t1 t2 t3 ?_)
 rw [if_neg (show ¬ ((Value.none==rawInt L)=true) by simp [rawInt])]
 refine wpAny_bind (wpAny_setField t1 t2 (Z0V.mp t3).1 ?_)
 have oth:∀ b,b≠T→(s.heap.update T (Obj.mapFields (·.setIfInBounds 3 Value.none))).get? b=s.heap.get? b:=fun b hb=>Z0G _ _ (Ne.symm hb)
 have nr:∀ b o,s.heap.get? b=some o→(∀ vs,o.data≠.fields vs)→b≠T:=fun b o hb hn q=>by
  rw [q,t1]at hb
  cases hb
  exact hn ts t2
 refine Z6s hfr (hl.of_keeps fun b o hb hn=>⟨o,(oth b (nr b o hb hn)).trans hb,rfl⟩) hf ((oth e ne.symm).trans e1) (Z0V.mp e2).1 (fun hz=>cx hz _ _ e1 rfl) fun h' T' f n k=>h h' T' f ?_ ?_
 ·cases q:s.heap.get? T' with
  |none=>rfl
  |some o =>
   by_cases z:T'=T
   ·have z1:=Z0O (Obj.mapFields (·.setIfInBounds 3 Value.none)) t1 (Obj.isFreed_of_fields (Obj.data_mapFields t2 _))
    rw [z]at n
    rw [show _=_ from z1]at n
    cases n
   ·rw [oth T' z,q]at n
    cases n
 ·have k0:Kp (frs (env::outer)) [T] s.heap (s.heap.update T (Obj.mapFields (·.setIfInBounds 3 Value.none))) :=
   ⟨fun b o q n1 _=>(oth b fun z=>n1 (by rw [z];exact Z0l.mpr rfl)).trans q,fun b o q n1=>⟨o.slots,(oth b fun z=>n1 (by rw [z];exact Z0l.mpr rfl)).trans q⟩⟩
  exact k0.trans k
theorem land_{fs:List Addr}{e T C:Addr}{dx:Option Addr}{fl:Value}{Q:Unit→Shared→Prop}(he:Fly z s.heap e T C dx fl)
  (h:∀ h',Fly z h' e T C dx .none→Kp fs [T] s.heap h'→Q () { s with heap:=h' }):wpAny M A (setFlight (.ref e) none) Q E s:=by
 obtain⟨⟨vs,sl,e1,e2⟩,⟨oT,ts,t1,t2,t3⟩,ne,cx⟩:=he
 have sz:=(Z0V.mp t3).1
 have oth:∀ b,b≠T→(s.heap.update T (Obj.mapFields (·.setIfInBounds 3 Value.none))).get? b=s.heap.get? b:=fun b hb=>Z0G _ _ (Ne.symm hb)
 refine wpAny_setFlight_none e1 rfl e2 t1 t2 sz (h _ ⟨⟨vs,sl,(oth e ne.symm).trans e1,e2⟩,⟨_,_,Z0O _ t1 (Obj.isFreed_of_fields (Obj.data_mapFields t2 _)),Obj.data_mapFields t2 _,by simp [sz]⟩,ne,fun hz o vs q=>cx hz o vs ((oth e ne.symm).symm.trans q)⟩ ⟨?_,?_⟩)
 ·exact fun b o q n1 _=>(oth b fun z=>n1 (by rw [z];exact Z0l.mpr rfl)).trans q
 ·exact fun b o q n1=>⟨o.slots,(oth b fun z=>n1 (by rw [z];exact Z0l.mpr rfl)).trans q⟩
end
end EX
end
section
namespace EX
open PySem PySem.Spec PyProof.Rows L2
open Builtin Builtin.ObjectAttr
section
variable{prog:Program}{w:World}{A:Around}{E:Value→Shared→Prop}{h:Heap}{g:Array GenState}{d:Drawn}{t:Nat}{os:OsState}
variable{nm q:Str}{C N x:Addr}{bs bm:List Value}{sn:List Str}{sub:List Value}{ab:Bool}{col:Option Bool}{dd:Option Addr}{k0 k1 k2 k3 k5:Option Value}{B newId sa owner:String}
 {mN mA:Str→Option Value}{name:Str}{v:Value}{o:Obj}
theorem Z9c{tk:Tok}{Q:Fin→Shared→Prop}(SF:StoreFacts B bm sa owner)
  (hC:h.get? C=some (excClassObj nm q C N bs bm true sn sub ab col dd k0 k1 k2 k3 k5 newId))(hn:h.Ns N mN)(hna:mN name=none)
  (hB:typeLookup (.type B) name=pure none)(hx:h.get? x=some o)(hc:o.cls=.ref C)(hdn:o.dict=none)(hnc:∀ c,o.data≠.cls c)
  (hq:∀ h' tk',h'.get? x=some { o with dict:=some h.objs.size }→h'.Ns1 h.objs.size (fun y=>if y=name then some v else none)→(∀ b o',b≠x→h.get? b=some o'→h'.get? b=some o')→Q (.done (.ret .none)) ⟨h',g,d,tk',os⟩) :
  wpAny (model prog w) A (Builtin.«object.__setattr__» ⟨[.ref x,.str name tk,v],[]⟩) Q E ⟨h,g,d,t,os⟩:=by
 have hpass:=SF.passes (.ref x)
 unfold Builtin.«object.__setattr__»
 repeat (first |rw [refuse_eq] |(rw [refuseLoop_ref,hpass]) |(with_reducible refine wpAny_loadPart_at hx ?_;rw [hc]) |with_reducible refine wpAny_mroOf_exc hC ?_ |(with_reducible refine wpAny_typeLookup_exc hC hn SF.mro hB ?_;rw [hna]) |wp_step)
 rw [hdn,if_neg (by simp [typeHasDict])]
 split
 ·rename_i z
  cases z
 split
 ·rename_i c z
  exact absurd z (hnc c)
 have x1:(h.push { cls:=.type "dict",data:=.dict #[] }).get? x=some o:=Z0n _ hx
 have xs:x≠h.objs.size:=Z0o (Z0f hx)
 refine wpAny_bind (wpAny_alloc' (wpAny_bind (wpAny_update' x1 (wpAny_pure ?_))))
 have gd:((h.push { cls:=.type "dict",data:=.dict #[] }).update x fun o=>{ cls:=o.cls,dict:=some h.objs.size,data:=o.data,slots:=o.slots }).get? h.objs.size
   = some { cls:=.type "dict",data:=.dict #[] }:=(Z0G _ _ xs).trans (Heap.get?_push_at rfl rfl)
 have n0:((h.push { cls:=.type "dict",data:=.dict #[] }).update x fun o=>{ cls:=o.cls,dict:=some h.objs.size,data:=o.data,slots:=o.slots }).Ns h.objs.size (fun _=>none) :=
  ⟨_,#[],_,gd,rfl,fun e he=>absurd he (by simp),fun _=>rfl⟩
 show wpAny _ _ (storeInDict h.objs.size (.str name tk) name v) _ _ _
 unfold storeInDict newKeyGuard
 refine wpAny_bind (wpAny_pure (wpAny_bind (wpAny_nsSet1 (Heap.Ns1.of_empty n0) fun h' n1 hs=>?_)))
 obtain⟨oD,esD,epD,a1,a2,a3⟩:=n1.count (Within.cons name v Within.nil)
 refine wpAny_bind (wpAny_lookBehind a1 (by rw [a2];exact pastItsLine_dict (Z0A a3 (by rw [Z0q,Z0U,sizeLine_eq];omega))) ?_)
 wp_walk
 refine hq h' _ ?_ ?_ fun b ob hbx hb=>?_
 ·refine(hs.2 x xs).trans (Z0O _ x1 ?_)
  have hfr:=(Heap.get?_some_iff.mp hx).2
  obtain⟨oc,od,odt,osl⟩:=o
  cases odt<;>first |rfl |exact hfr
 ·obtain⟨o',es,ep,e1,e2,e3,eu,e4⟩:=n1
  exact⟨o',es,ep,e1,e2,e3,eu,fun y=>by rw [e4 y]⟩
 ·exact(hs.2 b (Z0o (Z0f hb))).trans ((Z0G _ _ (Ne.symm hbx)).trans (Z0n _ hb))
theorem ZaS{Q:Unit→Shared→Prop}(SF:StoreFacts B bm sa owner)
  (hC:h.get? C=some (excClassObj nm q C N bs bm true sn sub ab col dd k0 k1 k2 k3 k5 newId))(hn:h.Ns N mN)(hns:mN "__setattr__" = none)(hna:mN name=none)
  (hB:typeLookup (.type B) name=pure none)(hx:h.get? x=some o)(hc:o.cls=.ref C)(hdn:o.dict=none)(hnc:∀ c,o.data≠.cls c)
  (hq:∀ h' tk',h'.get? x=some { o with dict:=some h.objs.size }→h'.Ns1 h.objs.size (fun y=>if y=name then some v else none)→(∀ b o',b≠x→h.get? b=some o'→h'.get? b=some o')→Q () ⟨h',g,d,tk',os⟩) :
  wpAny (model prog w) A (setAttr (.ref x) name v) Q E ⟨h,g,d,t,os⟩:=by
 have f3:=SF.slot.bind (.ref x)
 unfold setAttr callSpecial? specialOf
 repeat (any_goals (first |assumption |(with_reducible refine wpAny_loadPart_at hx ?_;rw [hc]) |(with_reducible refine wpAny_typeLookup_exc hC hn SF.mro SF.slot.lookup ?_;rw [hns]) |wp_step))
 refine codeAny_call_builtin SF.slot.plain SF.entry (wpAny_check_sa SF hC hx hc (Z9c SF hC hn hna hB hx hc hdn hnc fun h' tk' b1 b2 b3=>?_))
 repeat (any_goals (first |assumption |wp_step))
 exact hq h' tk' b1 b2 b3
theorem Z9n{dx:Addr}{ns:List Str}{Q:Unit→Shared→Prop}(SF:StoreFacts B bm sa owner)
  (hC:h.get? C=some (excClassObj nm q C N bs bm true sn sub ab col dd k0 k1 k2 k3 k5 newId))(hn:h.Ns N mN)(hns:mN "__setattr__" = none)(hna:mN name=none)
  (hB:typeLookup (.type B) name=pure none)(hxC:x≠C)(hx:h.get? x=some o)(hc:o.cls=.ref C)(hdx:o.dict=some dx)(hnc:∀ c,o.data≠.cls c)(hne:dx≠x)(hns1:h.Ns1 dx mA)(hw:Within mA ns)(hsz:ns.length≤sizeLine)
  (hq:∀ h' tk',h'.get? x=some o→h'.Ns1 dx (fun y=>if y=name then some v else mA y)→(∀ b o',b≠x→b≠dx→h.get? b=some o'→h'.get? b=some o')→Q () ⟨h',g,d,tk',os⟩) :
  wpAny (model prog w) A (setAttr (.ref x) name v) Q E ⟨h,g,d,t,os⟩:=by
 refine store_attr SF hC hn hns hna hB hxC ⟨o,hx,hc,hnc,.inr ⟨dx,hdx,hne,hns1⟩⟩ (fun h' tk' b1 b2 b3=>?_) hw hsz
 obtain⟨o1,c1,c2,c3,c4,c5⟩:=b3 o hx
 have eo:o1=o:=by
  obtain⟨p1,p2,p3,p4⟩:=o
  obtain⟨q1,q2,q3,q4⟩:=o1
  have z:=c5 dx hdx
  dsimp only at c2 c3 c4 z hdx
  rw [c2,c3,c4,z,hdx]
 rw [eo]at c1
 refine hq h' tk' c1 ?_ fun b o' n1 n2 e=>b2 b o' n1 (fun o0 dx' e0 e1=>?_) e
 ·obtain⟨o2,d1,_,_,d2⟩:=b1
  rw [c1]at d1
  cases d1
  rcases d2 with⟨z,_⟩ |⟨d',z,_,n1⟩
  ·rw [hdx]at z;cases z
  ·rw [hdx]at z;cases z;exact n1
 ·rw [hx]at e0
  cases e0
  rw [hdx]at e1
  cases e1
  exact n2
end
end EX
end
section
namespace EX
open PySem PySem.Spec PyProof.Rows L2
abbrev bmX:List Value:=[.type "Exception",.type "BaseException",.type "object"]
theorem ns_some{K:Z0a}{h:Heap}{N:Addr}{m:Str→Option Value}{n:Str}{v:Value}(X:K.In h)(G:h.Ns N m)(e:PySem.W.nsIn K N n=some (some v)):m n=some v:=by
 obtain⟨o,es,ep,ho,hd,_,hf⟩:=G
 unfold PySem.W.nsIn at e
 split at e
 ·rename_i c d es' n' sl q
  have z:=X _ _ q
  rw [ho]at z
  cases z
  cases hd
  split at e
  ·rename_i en he
   cases e
   rw [←hf]
   unfold nsFind findBy
   rw [←Array.find?_toList,he]
   rfl
  ·rename_i he
   split at e<;>cases e
 ·cases e
structure XC(K:Z0a)(C fI:Addr)(fs:List Str):Prop where
 ex:∃ (nm q:Str)(N:Addr)(bs:List Value)(sn:List Str)(sub:List Value)(ab:Bool)(col:Option Bool)(dd:Option Addr)(k0 k1 k2 k3 k5:Option Value),
  K.lookup C=some (excClassObj nm q C N bs bmX true sn sub ab col dd k0 k1 k2 k3 k5 "Exception.__new__")∧PySem.W.nsOkIn K N=true∧PySem.W.nsIn K N "__init__" = some (some (.ref fI)) ∧
  PySem.W.nsIn K N "__setattr__" = some none∧PySem.W.nsIn K N "__getattribute__" = some none∧PySem.W.nsIn K N "__getattr__" = some none∧∀ f∈fs,PySem.W.nsIn K N f=some none
 base:∀ f∈fs,typeLookup (.type "Exception") f=pure none
 fn:PySem.W.isFn K (.ref fI)=true
 kp:PySem.W.keepIn K (.ref C)=true
theorem XC.at{K:Z0a}{C fI:Addr}{fs:List Str}(c:XC K C fI fs){h:Heap}(X:K.In h):∃ (nm q:Str)(N:Addr)(bs:List Value)(sn:List Str)(sub:List Value)(ab:Bool)(col:Option Bool)(dd:Option Addr)(k0 k1 k2 k3 k5:Option Value)(m:Str→Option Value),
  h.get? C=some (excClassObj nm q C N bs bmX true sn sub ab col dd k0 k1 k2 k3 k5 "Exception.__new__")∧h.Ns N m∧m "__init__" = some (.ref fI) ∧
  m "__setattr__" = none∧m "__getattribute__" = none∧m "__getattr__" = none∧∀ f∈fs,m f=none:=by
 obtain⟨nm,q,N,bs,sn,sub,ab,col,dd,k0,k1,k2,k3,k5,a1,a2,a3,a4,a5,a6,a7⟩:=c.ex
 have G:h.Ns N (h.nsMap N):=.of_isNs (PySem.W.isNs_of_in X a2)
 exact⟨nm,q,N,bs,sn,sub,ab,col,dd,k0,k1,k2,k3,k5,h.nsMap N,X _ _ a1,G,ns_some X G a3,Z0R X G a4,Z0R X G a5,Z0R X G a6,fun f hf=>Z0R X G (a7 f hf)⟩
structure XP(K:Z0a)(C:Addr):Prop where
 ex:∃ (nm q:Str)(N:Addr)(bs:List Value)(sn:List Str)(sub:List Value)(ab:Bool)(col:Option Bool)(dd:Option Addr)(k0 k1 k2 k3 k5:Option Value),
  K.lookup C=some (excClassObj nm q C N bs bmX true sn sub ab col dd k0 k1 k2 k3 k5 "Exception.__new__")∧PySem.W.nsOkIn K N=true∧PySem.W.nsIn K N "__init__" = some none
 kp:PySem.W.keepIn K (.ref C)=true
def XK1(K:Z0a)(C:Addr):Prop:=∃ (nm q:Str)(N:Addr)(bs:List Value)(sn:List Str)(sub:List Value)(ab:Bool)(col:Option Bool)(dd:Option Addr)(k0 k1 k2 k3 k5:Option Value),
  K.lookup C=some (excClassObj nm q C N bs bmX true sn sub ab col dd k0 k1 k2 k3 k5 "Exception.__new__")
theorem XC.k1{K:Z0a}{C fI:Addr}{fs:List Str}(c:XC K C fI fs):XK1 K C:=by
 obtain⟨nm,q,N,bs,sn,sub,ab,col,dd,k0,k1,k2,k3,k5,a1,_⟩:=c.ex
 exact⟨nm,q,N,bs,sn,sub,ab,col,dd,k0,k1,k2,k3,k5,a1⟩
theorem XP.k1{K:Z0a}{C:Addr}(c:XP K C):XK1 K C:=by
 obtain⟨nm,q,N,bs,sn,sub,ab,col,dd,k0,k1,k2,k3,k5,a1,_⟩:=c.ex
 exact⟨nm,q,N,bs,sn,sub,ab,col,dd,k0,k1,k2,k3,k5,a1⟩
def Z6Y(f1 f2 f3:Str)(b:List Stmt):Prop:=∃ p1 p2 p3 p4 p5 p6 p7 p8 p9 p10 p11 p12:Pos,
 b=[.Assign [.Attribute (.Name "self" p1) f1 p2] (.Name f1 p3) p4,.Assign [.Attribute (.Name "self" p5) f2 p6] (.Name f2 p7) p8,.Assign [.Attribute (.Name "self" p9) f3 p10] (.Name f3 p11) p12]
def flt(f1 f2 f3:Str)(v1 v2 v3:Value):Str→Option Value:=fun y=>if y=f3 then some v3 else if y=f2 then some v2 else if y=f1 then some v1 else none
section
variable{prog:Program}{w:World}{A:Around}{E:Value→Shared→Prop}{s:Shared}{K:Z0a}{C fI:Addr}{f1 f2 f3:Str}
theorem init_run{e:Addr}{v1 v2 v3:Value}{us:List Value}{vs:Array Value}{qn:Str}{st:Stmt}{dV:Value}{fd:FuncData}{Q:Value→Shared→Prop}(KX:K.In s.heap)(lim:s.heap.NoLimit)(c:XC K C fI [f1,f2,f3])
  (F:∃ (oc:Value)(od:Option Addr)(kV doc pm:Value)(an:Option Addr)(cdv ct:Value)(osl:Array (Option Value)),
    fd=PySem.W.fnOf "__init__" qn (Z3m st) (Z2F st) (Z2r st) dV kV doc pm an cdv ct∧K.lookup fI=some ⟨oc,od,.func fd,osl⟩∧PySem.W.codeIn K cdv qn=true)
  (S:Z2v ["self",f1,f2,f3] ["self",f1,f2,f3] (Z2r st))(bd:BindsTo s fd ⟨.ref e::us,[]⟩ ((["self",f1,f2,f3]:List Str).zip [.ref e,v1,v2,v3]))(body:Z6Y f1 f2 f3 (Z2F st))
  (sw:∀ (env:Env)(p1 p2 p3 p4:Pos)(f:Str),swapsWith (.Name f p3) (some (.Attribute (.Name "self" p1) f p2)) p4.line env=pure false)
  (loc:∀ x∈(["self",f1,f2,f3]:List Str),(Z2r st).names.lookup x=some .local)(nd1:(f1==("__debug__" : Str))=false)(nd2:(f2==("__debug__" : Str))=false)(nd3:(f3==("__debug__" : Str))=false)
  (hdp:A.depth<recursionLimit)(heK:K.lookup e=none)
  (hx:s.heap.get? e=some { cls:=.ref C,dict:=none,data:=.fields vs,slots:=#[] })
  (hq:∀ h' dx tk,h'.get? e=some (xob C (some dx) vs #[])→h'.Ns1 dx (flt f1 f2 f3 v1 v2 v3)→s.heap.get? dx=none→dx≠e→(∀ b o,b≠e→s.heap.get? b=some o→h'.get? b=some o)→Q .none { s with heap:=h',toks:=tk }) :
  wpAny (model prog w) A (call (.ref fI) (.ref e::us)) Q E s:=by
 obtain⟨oc,od,kV,doc,pm,an,cdv,ct,osl,rfl,lk,hcd⟩:=F
 obtain⟨p1,p2,p3,p4,p5,p6,p7,p8,p9,p10,p11,p12,hbd⟩:=body
 have hkind:∀ y∈(["self",f1,f2,f3]:List Str).zip [Value.ref e,v1,v2,v3],(Z2r st).names.lookup y.1=some .local∨((Z2r st).names.lookup y.1=some .cell∧((cellsFrom (s.heap.objs.size+1) (Z2r st).names []).lookup y.1).isSome=true) :=
  fun⟨n,v⟩ hy=>.inl (loc n (Z0P hy).1)
 refine wpAny_call (codeAny_call_function hdp (KX _ _ lk) rfl S.co S.gen rfl (PySem.W.codeRec_of KX hcd) (bd _ _ _ _ ?_))
 refine wpAny_newFunctionEnv_cells S.kind hkind fun env he s1 x=>?_
 refine⟨lim.keeps x.toInCall.keep,codeAny_func ?_⟩
 have ek:env.scope.kind=.function:=by rw [he];exact S.kind
 have eL:env.locals=s.heap.objs.size:=by rw [he];rfl
 have kl:∀ n∈(["self",f1,f2,f3]:List Str),env.kindOf n=some .local:=fun n hn=>by rw [he];exact loc n hn
 have N1:=x.toInCall.ns
 have g0:∀ {i:Nat}{n:Str}{v:Value},(["self",f1,f2,f3]:List Str)[i]?=some n→([Value.ref e,v1,v2,v3]:List Value)[i]?=some v →
   bindL env.kindOf ((["self",f1,f2,f3]:List Str).zip [Value.ref e,v1,v2,v3]) (fun _=>none) n=some v :=
  fun{i n v} a b=>Z6q S.nd a b (kl n (Z0u a))
 have gs:=g0 (i:=0) (n:="self") rfl rfl
 have g1:=g0 (i:=1) (n:=f1) rfl rfl
 have g2:=g0 (i:=2) (n:=f2) rfl rfl
 have g3:=g0 (i:=3) (n:=f3) rfl rfl
 have m0:=kl "self" (by simp)
 have m1:=kl f1 (by simp)
 have m2:=kl f2 (by simp)
 have m3:=kl f3 (by simp)
 obtain⟨hh,tk,rfl,kp⟩:=x.done
 have ex1:=kp _ _ hx
 have KX1:K.In hh:=KX.keeps kp
 have neL:env.locals≠e:=by rw [eL];exact Z1j (Z0f hx)
 show wpAny _ _ (execs (Z2F st) _) _ _ _
 rw [hbd]
 have tw:∀ (h:Heap),K.In h→∃ (nm q:Str)(N:Addr)(bs:List Value)(sn:List Str)(sub:List Value)(ab:Bool)(col:Option Bool)(dd:Option Addr)(k0 k1 k2 k3 k5:Option Value)(m:Str→Option Value),
  h.get? C=some (excClassObj nm q C N bs bmX true sn sub ab col dd k0 k1 k2 k3 k5 "Exception.__new__")∧h.Ns N m∧m "__setattr__" = none∧m f1=none∧m f2=none∧m f3=none:=fun h X=>by
  obtain⟨nm,q,N,bs,sn,sub,ab,col,dd,k0,k1,k2,k3,k5,m,c1,c2,c3,c4,c5,c6,c7⟩:=c.at X
  exact⟨nm,q,N,bs,sn,sub,ab,col,dd,k0,k1,k2,k3,k5,m,c1,c2,c4,c7 f1 (by simp),c7 f2 (by simp),c7 f3 (by simp)⟩
 have KC:∃ oC,K.lookup C=some oC:=let ⟨_,_,_,_,_,_,_,_,_,_,_,_,_,_,a,_⟩:=c.ex;⟨_,a⟩
 have heC:e≠C:=by
  rintro rfl
  obtain⟨oC,z⟩:=KC
  rw [heK]at z
  cases z
 obtain⟨nm,q,N,bs,sn,sub,ab,col,dd,k0,k1,k2,k3,k5,m,c1,c2,c3,c4,c5,c6⟩:=tw hh KX1
 refine wpAny_execs_cons (plainObj_wpAny_Assign_Attribute (wpAny_Name (wpAny_loadName_local ek m1 N1 g1 (wpAny_Name (wpAny_loadName_local ek m0 N1 gs ?_))) nd1) (sw ..))
 refine ZaS Z2g c1 c2 c3 c4 (c.base f1 (by simp)) ex1 rfl rfl (fun _ z=>by cases z) fun h2 tk2 b1 b2 b3=>?_
 have N2:=N1
 obtain⟨oL,esL,epL,l1,l2,l3,l4⟩:=N2
 have N2:h2.Ns env.locals (bindL env.kindOf ((["self",f1,f2,f3]:List Str).zip [Value.ref e,v1,v2,v3]) (fun _=>none)):=⟨oL,esL,epL,b3 _ _ neL l1,l2,l3,l4⟩
 have KX2:K.In h2:=fun b o z=>b3 b o (fun q=>by subst q;rw [heK]at z;cases z) (KX1 b o z)
 obtain⟨nm,q,N,bs,sn,sub,ab,col,dd,k0,k1,k2,k3,k5,m,c1,c2,c3,c4,c5,c6⟩:=tw h2 KX2
 have nde:hh.objs.size≠e:=Z1j (Z0f ex1)
 have ndL:env.locals≠hh.objs.size:=Z0o (Z0f l1)
 have hhn:hh.get? hh.objs.size=none:=Z1v (Z0d _)
 refine wpAny_execs_cons (plainObj_wpAny_Assign_Attribute (wpAny_Name (wpAny_loadName_local ek m2 N2 g2 (wpAny_Name (wpAny_loadName_local ek m0 N2 gs ?_))) nd2) (sw ..))
 refine Z9n (ns:=[f1]) Z2g c1 c2 c3 c5 (c.base f2 (by simp)) heC b1 rfl rfl (fun _ z=>by cases z) nde b2 (Within.cons f1 v1 Within.nil) (by rw [sizeLine_eq];show 1≤16777216;decide) fun h3 tk3 d1 d2 d3=>?_
 have N3:h3.Ns env.locals (bindL env.kindOf ((["self",f1,f2,f3]:List Str).zip [Value.ref e,v1,v2,v3]) (fun _=>none)):=⟨oL,esL,epL,d3 _ _ neL ndL (b3 _ _ neL l1),l2,l3,l4⟩
 have KX3:K.In h3:=fun b o z=>d3 b o (fun q=>by subst q;rw [heK]at z;cases z) (fun q=>by subst q;have:=KX1 _ _ z;rw [hhn]at this;cases this) (KX2 b o z)
 obtain⟨nm,q,N,bs,sn,sub,ab,col,dd,k0,k1,k2,k3,k5,m,c1,c2,c3,c4,c5,c6⟩:=tw h3 KX3
 refine wpAny_execs_cons (plainObj_wpAny_Assign_Attribute (wpAny_Name (wpAny_loadName_local ek m3 N3 g3 (wpAny_Name (wpAny_loadName_local ek m0 N3 gs ?_))) nd3) (sw ..))
 refine Z9n (ns:=[f2,f1]) Z2g c1 c2 c3 c6 (c.base f3 (by simp)) heC d1 rfl rfl (fun _ z=>by cases z) nde d2 (Within.cons f2 v2 (Within.cons f1 v1 Within.nil)) (by rw [sizeLine_eq];show 2≤16777216;decide) fun h4 tk4 j1 j2 j3=>?_
 refine wpAny_execs_nil (hq h4 hh.objs.size tk4 j1 j2 ?_ nde fun b o nb z=>?_)
 ·cases z:s.heap.get? hh.objs.size with
  |none=>rfl
  |some o=>exact absurd (Z0f (kp _ _ z)) (Z0v _)
 ·have z1:=kp _ _ z
  exact j3 b o nb (Z0o (Z0f z1)) (d3 b o nb (Z0o (Z0f z1)) (b3 b o nb z1))
end
structure XInit(K:Z0a)(C fI:Addr)(f1 f2 f3:Str)(d3:Int):Prop where
 c:XC K C fI [f1,f2,f3]
 ex:∃ (qn:Str)(st:Stmt)(dV:Value)(fd:FuncData)(t:Tok),(∃ (oc:Value)(od:Option Addr)(kV doc pm:Value)(an:Option Addr)(cdv ct:Value)(osl:Array (Option Value)),
   fd=PySem.W.fnOf "__init__" qn (Z3m st) (Z2F st) (Z2r st) dV kV doc pm an cdv ct∧K.lookup fI=some ⟨oc,od,.func fd,osl⟩∧PySem.W.codeIn K cdv qn=true) ∧
  Z2v ["self",f1,f2,f3] ["self",f1,f2,f3] (Z2r st)∧Binds K fd ["self",f1,f2,f3] []∧Binds K fd ["self",f1,f2,f3] [.int d3 t]∧Z6Y f1 f2 f3 (Z2F st) ∧
  ∀ x∈(["self",f1,f2,f3]:List Str),(Z2r st).names.lookup x=some .local
 sw:∀ (env:Env)(p1 p2 p3 p4:Pos)(f:Str),swapsWith (.Name f p3) (some (.Attribute (.Name "self" p1) f p2)) p4.line env=pure false
 nd1:(f1==("__debug__" : Str))=false
 nd2:(f2==("__debug__" : Str))=false
 nd3:(f3==("__debug__" : Str))=false
abbrev Z5c(t:Addr):Array Value:=#[.ref t,.none,.none,.none,.bool false,.none]
def Arg3(d3:Int)(us:List V)(v1 v2 v3:V):Prop:=us=[v1,v2,v3]∨(us=[v1,v2]∧v3=.int d3)
section
variable{prog:Program}{w:World}{A:Around}{E:Value→Shared→Prop}{s:Shared}{K:Z0a}{C fI:Addr}{f1 f2 f3:Str}{d3:Int}
theorem Z9p{v1 v2 v3:V}{vs:List V}{us:List Value}{Q:Value→Shared→Prop}(KX:K.In s.heap)(lim:s.heap.NoLimit)(T:XInit K C fI f1 f2 f3 d3)(hdp:A.depth+1<recursionLimit)(hv:Arg3 d3 vs v1 v2 v3)(r:Vals vs us)
  (hq:∀ h' e dx t tk u1 u2 u3,RelV v1 u1→RelV v2 u2→RelV v3 u3→h'.get? e=some (xob C (some dx) (Z5c t) #[])→h'.Ns1 dx (flt f1 f2 f3 u1 u2 u3)→s.heap.get? e=none→s.heap.get? dx=none→dx≠e→(∀ b o,s.heap.get? b=some o→h'.get? b=some o)→Q (.ref e) { s with heap:=h',toks:=tk }) :
  wpAny (model prog w) A (call (.ref C) us) Q E s:=by
 obtain⟨nm,q,N,bs,sn,sub,ab,col,dd,k0,k1,k2,k3,k5,m,c1,c2,c3,c4,c5,c6,c7⟩:=T.c.at KX
 obtain⟨qn,st,dV,fd,tt,F,S,hb3,hb2,body,loc⟩:=T.ex
 have F':=F
 obtain⟨oc,od,kV,doc,pm,an,cdv,ct,osl,rfl,lk,hcd⟩:=F'
 have hfc:oc=.type "function":=by
  have z:(K.lookup fI).map (·.cls)=some (.type "function"):=beq_iff_eq.mp (show(PySem.W.typeIn K (.ref fI)==some (.type "function"))=true from T.c.fn)
  rw [lk]at z
  exact Option.some.inj z
 have bds:∃ u1 u2 u3,RelV v1 u1∧RelV v2 u2∧RelV v3 u3∧us.length≤sizeLine∧∀ (s':Shared)(e:Addr),K.In s'.heap→BindsTo s' (PySem.W.fnOf "__init__" qn (Z3m st) (Z2F st) (Z2r st) dV kV doc pm an cdv ct) ⟨.ref e::us,[]⟩ ((["self",f1,f2,f3]:List Str).zip [.ref e,u1,u2,u3]):=by
  rcases hv with rfl |⟨rfl,rfl⟩
  ·cases r with
   |cons r1 r=>cases r with
    |cons r2 r=>cases r with
     |cons r3 r =>
      cases r
      exact⟨_,_,_,r1,r2,r3,(by show 3≤sizeLine;decide),fun s' e X=>hb3 s' [.ref e,_,_,_] X rfl⟩
  ·cases r with
   |cons r1 r=>cases r with
    |cons r2 r =>
     cases r
     exact⟨_,_,.int d3 tt,r1,r2,⟨_,rfl⟩,(by show 2≤sizeLine;decide),fun s' e X=>hb2 s' [.ref e,_,_] X rfl⟩
 obtain⟨u1,u2,u3,r1,r2,r3,hsz,bd⟩:=bds
 obtain⟨hp,g,d,tk,os⟩:=s
 refine wpAny_call_exc_init PySem.F.excBase_Exception c1 c2 c3 (KX _ _ lk) hfc (fun h' e hm=>?_) hsz
 obtain⟨t,t1,t2,t3⟩:=hm.there
 have KX':K.In h':=KX.keeps hm.keeps
 refine init_run (s:=⟨h',g,d,tk,os⟩) (e:=e) (v1:=u1) (v2:=u2) (v3:=u3) KX' (lim.keeps hm.keeps) T.c F S (bd _ e KX') body T.sw loc T.nd1 T.nd2 T.nd3 (by rw [Z7x];exact hdp) ?_ t1 fun h2 dx tk2 b1 b2 b3 b4 b5=>⟨rfl,?_⟩
 ·cases z:K.lookup e with
  |none=>rfl
  |some o =>
   have z1:=KX _ _ z
   rw [hm.new]at z1
   cases z1
 ·refine hq h2 e dx t tk2 u1 u2 u3 r1 r2 r3 b1 b2 hm.new ?_ b4 fun b o z=>b5 b o (fun q=>?_) (hm.keeps _ _ z)
  ·cases z:hp.get? dx with
   |none=>rfl
   |some o =>
    have z1:=hm.keeps _ _ z
    rw [show h'.get? dx=none from b3]at z1
    cases z1
  ·subst q
   rw [hm.new]at z
   cases z
theorem ZaB{Q:Value→Shared→Prop}(KX:K.In s.heap)(T:XP K C)
  (hq:∀ h' e t,h'.get? e=some (xob C none (Z5c t) #[])→s.heap.get? e=none→(∀ b o,s.heap.get? b=some o→h'.get? b=some o)→Q (.ref e) { s with heap:=h' }) :
  wpAny (model prog w) A (call (.ref C) []) Q E s:=by
 obtain⟨nm,q,N,bs,sn,sub,ab,col,dd,k0,k1,k2,k3,k5,a1,a2,a3⟩:=T.ex
 have G:s.heap.Ns N (s.heap.nsMap N):=.of_isNs (PySem.W.isNs_of_in KX a2)
 obtain⟨hp,g,d,tk,os⟩:=s
 refine wpAny_call_exc_sub PySem.F.excBase_Exception (KX _ _ a1) G (Z0R KX G a3) (fun h' e hm=>?_) (by show 0≤sizeLine;decide)
 obtain⟨t,t1,t2,t3⟩:=hm.there
 exact hq h' e t t1 hm.new hm.keeps
end
section
variable{M:Model}{A:Around}{E:Value→Shared→Prop}{env:Env}
variable{nm q:Str}{C N:Addr}{bs bm:List Value}{hdct:Bool}{sn:List Str}{sub:List Value}{ab:Bool}{col:Option Bool}{dd:Option Addr}{k0 k1 k2 k3 k5:Option Value}{newId:String}
theorem Z7l{s:Shared}{x:Sem Value}{Q:Flow→Shared→Prop}(hbase:bm.contains (.type "BaseException")=true)(hh:A.handled=none)
  (h:wpAny M A x (fun v s1=>∃ e d t,v=.ref e∧(∃ nm q N bs hdct sn sub ab col dd k0 k1 k2 k3 k5 newId,s1.heap.get? C=some (excClassObj nm q C N bs bm hdct sn sub ab col dd k0 k1 k2 k3 k5 newId)) ∧
    s1.heap.get? e=some (xob C d (Z5c t) #[])∧E (.ref e) s1) E s):wpAny M A (raiseStmt env (some x) none) Q E s:=by
 have hcB:(Value.ref C::bm).contains (.type "BaseException")=true:=by rw [Z1O,hbase,Bool.or_true]
 unfold raiseStmt
 refine wpAny_bind (wpAny_mono h (fun v s1 h1=>?_) fun _ _ x=>x)
 obtain⟨e,d',t,rfl,⟨nm,q,N,bs,hdct,sn,sub,ab,col,dd,k0,k1,k2,k3,k5,newId,hC⟩,he,hE⟩:=h1
 obtain⟨hp,g,d,tk,os⟩:=s1
 repeat (first |with_reducible refine wpAny_loadPart_at he ?_ |with_reducible refine wpAny_loadPart_at hC ?_ |(with_reducible refine wpAny_isSubtype_exc hC ?_;rw [hcB]) |wp_step)
 exact wpAny_raiseNew_none hh hE
end
theorem obj_in{P:Program}{w:World}{H:Hp}{h:Heap}{a:Addr}{o:HO}(x:ObjOk P w H h a o):∃ q,h.get? a=some q:=by
 cases o with
 |lst xs=>obtain⟨_,_,_,_,e⟩:=x;exact⟨_,e⟩
 |tup xs=>obtain⟨_,_,_,ob,e,_⟩:=x;exact⟨_,e⟩
 |dK kvs=>obtain⟨_,_,_,_,o,_,_,e,_⟩:=x;exact⟨_,e⟩
 |dT kvs=>obtain⟨_,_,_,_,o,_,_,e,_⟩:=x;exact⟨_,e⟩
 |set S n=>obtain⟨o,_,_,_,e,_⟩:=x;exact⟨_,e⟩
 |ins C dx fs=>obtain⟨_,_,_,e,_⟩:=x;exact⟨_,e⟩
 |own y=>exact x
 |xd fs=>obtain⟨_,⟨_,_,_,e,_⟩,_⟩:=x;exact⟨_,e⟩
 |rng lo hi=>obtain⟨_,_,_,e⟩:=x;exact⟨_,e⟩
 |frz ob u=>obtain⟨e,_⟩:=x;exact⟨_,e⟩
 |tbl ps=>exact⟨_,x⟩
 |met f y=>exact⟨_,x⟩
 |ext φ=>obtain⟨_,e,_⟩:=x;exact e
section
variable{X:Cx}{pins:List (Addr×Obj)}{σ:L2.St}{H:Hp}{s:Shared}{a:Addr}{o:HO}
structure New(X:Cx)(pins:List (Addr×Obj))(H:Hp)(a:Addr):Prop where
 hn:H a=none
 h0:X.s_0.heap.get? a=none
 hL:a≠X.env.locals
 hc:∀ x c,X.env.cells.lookup x=some c→c≠a
 hp:∀ p∈X.pn++pins,p.1≠a
 hf:a∉frs X.stack
theorem Z3u(I:Inv X pins σ H s)(hex:X.ex=[])(n:s.heap.get? a=none):New X pins H a where
 hn:=by
  cases w:H a with
  |none=>rfl
  |some o =>
   obtain⟨q,z⟩:=obj_in (I.hok a o w)
   rw [n]at z
   cases z
 h0:=by
  cases w:X.s_0.heap.get? a with
  |none=>rfl
  |some o =>
   obtain⟨q,z⟩:=I.base.there a o w (by rw [hex];simp)
   rw [n]at z
   cases z
 hL:=by
  rintro rfl
  obtain⟨m,⟨ob,_,_,e,_⟩,_⟩:=I.loc
  rw [n]at e
  cases e
 hc:=fun x c e z=>by
  subst z
  obtain⟨v,ob,e1,_⟩:=I.cell x c e
  rw [n]at e1
  cases e1
 hp:=fun p hp z=>by
  have e:=(I.pin p hp).1
  rw [z,n]at e
  cases e
 hf:=fun z=>by
  obtain⟨_,ob,e,_⟩:=I.stack.mem z
  rw [n]at e
  cases e
theorem track(I:Inv X pins σ H s)(N:New X pins H a)(new:ObjOk X.prog X.w (upd H a o) s.heap a o):Inv X pins σ (upd H a o) s:=by
 refine⟨I.ok,I.os,I.bare,⟨I.base.keep,I.base.slot,fun b ob q n hx=>?_,I.base.there,fun b xs q=>?_,fun b ob u q=>?_,fun b ps q=>?_⟩,I.loc,I.cell,?_,fun x c e=>?_,fun p hp=>?_,fun b u q=>?_,I.len⟩
 ·rw [Z2m (fun z=>by rw [z,N.h0]at q;cases q)]
  exact I.base.free b ob q n hx
 ·have z:=I.base.tups b xs q
  rw [Z2m (Z2p z N.hn)]
  exact z
 ·have z:=I.base.frzs b ob u q
  rw [Z2m (Z2p z N.hn)]
  exact z
 ·obtain⟨more,z⟩:=I.base.tbls b ps q
  exact⟨more,by rw [Z2m (Z2p z N.hn)];exact z⟩
 ·rw [Z2m N.hL.symm];exact I.free
 ·rw [Z2m (N.hc x c e)];exact I.freeC x c e
 ·obtain⟨p1,p2,p3⟩:=I.pin p hp
  exact⟨p1,by rw [Z2m (N.hp p hp)];exact p2,p3⟩
 ·by_cases hb:b=a
  ·subst hb
   rw [Z2n]at q
   cases q
   exact new
  ·rw [Z2m hb]at q
   exact(I.hok b u q).stay (fun c v _ e=>e) (fun c e=>by rw [Z2m (Z2p e N.hn)];exact e) fun c xs e=>by rw [Z2m (Z2p e N.hn)];exact e
end
section
variable{X:Cx}{pins:List (Addr×Obj)}{σ:L2.St}{H:Hp}{s:Shared}{C fI:Addr}{f1 f2 f3 x:Str}{d3:Int}
def Z9m(X:Cx)(E:XK):Prop:=∀ (pins:List (Addr×Obj))(σ:L2.St)(H:Hp)(s:Shared)(e C:Addr)(d:Option Addr),Inv X pins σ H s→Fre true s.heap e C d→H e=none→X.s_0.heap.get? e=none →
 (∀ dx,d=some dx→∃ fs,H dx=some (.xd fs))→E (.ref C) d H→X.xe (.ref e) s
def tRaise(C:Addr)(f1 f2 f3:Str)(d3:Int)(E:XK)(ta:TA):TS:=fun _ σ H=>ta σ H fun vs H1=>∃ v1 v2 v3,Arg3 d3 vs v1 v2 v3∧∀ dx,H1 dx=none→E (.ref C) (some dx) (upd H1 dx (.xd [(f3,v3),(f2,v2),(f1,v1)]))
theorem Z9V{f1 f2 f3:Str}{v1 v2 v3:V}{u1 u2 u3:Value}(r1:RelV v1 u1)(r2:RelV v2 u2)(r3:RelV v3 u3)(f:Str):RelO (([(f3,v3),(f2,v2),(f1,v1)]:List (Str×V)).lookup f) (flt f1 f2 f3 u1 u2 u3 f):=by
 have st:∀ (g:Str)(v:V)(u:Value)(l:List (Str×V))(o:Option Value),RelV v u→RelO (l.lookup f) o→RelO (((g,v)::l).lookup f) (if f=g then some u else o):=fun g v u l o r h=>by
  by_cases a:f=g
  ·rw [if_pos a]
   have b:(f==g)=true:=beq_iff_eq.mpr a
   simp only [List.lookup,b]
   exact r
  ·rw [if_neg a]
   have b:(f==g)=false:=beq_eq_false_iff_ne.mpr a
   simp only [List.lookup,b]
   exact h
 unfold flt
 exact st f3 v3 u3 _ _ r3 (st f2 v2 u2 _ _ r2 (st f1 v1 u1 _ _ r1 True.intro))
theorem Z3K{a1:Expr}{as:List Expr}{ta:TA}{p pos cpos:Pos}{E:XK}(T:XInit X.K C fI f1 f2 f3 d3)(hc:X.calm=true)(hex:X.ex=[])(hdp:X.A.depth+1<recursionLimit)(hg:Gl X x)(hm:X.mg x=some (.ref C))(hx:Z9m X E)(ha:PA X (a1::as) ta)
  (hdb:(x==("__debug__" : Str))=false:=by decide)(he:starEach (a1::as) X.env=(false,eval a1 X.env)::starEach as X.env:=by rfl)(hpl:(backTo cpos (starEach as X.env)).any (·.1)=false:=by rfl) :
  PS X (.Raise (some (.Call (.Name x p) (a1::as) [] cpos)) none pos) (tRaise C f1 f2 f3 d3 E ta):=by
 intro pins s σ H D I h
 rw [arm_exec_Raise]
 have key:wpAny (model X.prog X.w) X.A (eval (.Call (.Name x p) (a1::as) [] cpos) X.env) (fun v s1=>∃ e d t,v=.ref e ∧
   (∃ nm q N bs hdct sn sub ab col dd k0 k1 k2 k3 k5 newId,s1.heap.get? C=some (excClassObj nm q C N bs bmX hdct sn sub ab col dd k0 k1 k2 k3 k5 newId))∧s1.heap.get? e=some (xob C d (Z5c t) #[])∧X.xe (.ref e) s1) X.xe s:=by
  refine wpAny_Call_Name_kw (Z3r I hg hm ?_ hdb)
  refine Z0Z (h₀:=X.base) I.ok.mod.kin T.c.kp (thn (ha cpos pins s σ H _ I h) fun us s1 ⟨vs,H1,I1,r,v1,v2,v3,hv,q⟩=>⟨I1.kIn,?_⟩) he hpl
  refine Z9p I1.kIn I1.nolimit T hdp hv r fun h' e dx t tk u1 u2 u3 r1 r2 r3 b1 b2 b3 b4 b5 b6=>⟨e,some dx,t,rfl,?_,b1,?_⟩
  ·obtain⟨nm,q,N,bs,sn,sub,ab,col,dd,k0,k1,k2,k3,k5,m,c1,_⟩:=T.c.at (I1.kIn.keeps b6)
   exact⟨nm,q,N,bs,true,sn,sub,ab,col,dd,k0,k1,k2,k3,k5,_,c1⟩
  ·have Ne:=Z3u I1 hex b3
   have Nd:=Z3u I1 hex b4
   have I2:Inv X pins σ H1 { s1 with heap:=h',toks:=tk }:=I1.kept b6
   have I3:=track (o:=.xd [(f3,v3),(f2,v2),(f1,v1)]) I2 Nd ⟨_,b2,fun f=>Z9V r1 r2 r3 f⟩
   exact hx pins σ _ _ e C (some dx) I3 ⟨_,_,b1,rfl,fun _=>rfl⟩ (by rw [Z2m b5.symm];exact Ne.hn) Ne.h0 (fun dx' z=>by cases z;exact⟨_,Z2n⟩) (q dx Nd.hn)
 exact wpAny_bind (wpAny_standAt (Z7l (bm:=bmX) (by decide) (I.ok.hd hc) (wpAny_bind (wpAny_mono key (fun v s1 h1=>wpAny_bind (wpAny_standAt (wpAny_pure h1))) fun _ _ z=>z))))
def tRaiseP(C:Addr)(E:XK):TS:=fun _ σ H=>E (.ref C) none H
theorem Z4L{p pos cpos:Pos}{E:XK}(T:XP X.K C)(hc:X.calm=true)(hex:X.ex=[])(hg:Gl X x)(hm:X.mg x=some (.ref C))(hx:Z9m X E)(hdb:(x==("__debug__" : Str))=false:=by decide) :
  PS X (.Raise (some (.Call (.Name x p) [] [] cpos)) none pos) (tRaiseP C E):=by
 intro pins s σ H D I h
 rw [arm_exec_Raise]
 have key:wpAny (model X.prog X.w) X.A (eval (.Call (.Name x p) [] [] cpos) X.env) (fun v s1=>∃ e d t,v=.ref e ∧
   (∃ nm q N bs hdct sn sub ab col dd k0 k1 k2 k3 k5 newId,s1.heap.get? C=some (excClassObj nm q C N bs bmX hdct sn sub ab col dd k0 k1 k2 k3 k5 newId))∧s1.heap.get? e=some (xob C d (Z5c t) #[])∧X.xe (.ref e) s1) X.xe s:=by
  refine wpAny_Call_Name_kw (Z3r I hg hm ?_ hdb)
  refine PySem.W.callWith_K0 I.kIn T.kp (ZaB I.kIn T fun h' e t b1 b2 b3=>⟨e,none,t,rfl,?_,b1,?_⟩)
  ·obtain⟨nm,q,N,bs,sn,sub,ab,col,dd,k0,k1,k2,k3,k5,a1,_⟩:=T.ex
   exact⟨nm,q,N,bs,true,sn,sub,ab,col,dd,k0,k1,k2,k3,k5,_,I.kIn.keeps b3 _ _ a1⟩
  ·have Ne:=Z3u I hex b2
   exact hx pins σ H _ e C none (I.kept (t':=s.toks) b3) ⟨_,_,b1,rfl,fun _=>rfl⟩ Ne.hn Ne.h0 (fun dx' z=>by cases z) h
 exact wpAny_bind (wpAny_standAt (Z7l (bm:=bmX) (by decide) (I.ok.hd hc) (wpAny_bind (wpAny_mono key (fun v s1 h1=>wpAny_bind (wpAny_standAt (wpAny_pure h1))) fun _ _ z=>z))))
end
def CXQ(z:Bool)(P:Program)(w:World):CXT:=fun outer H s E e s'=>∃ (ea T C:Addr)(d:Option Addr)(H':Hp),e=.ref ea∧s'.os=s.os∧AllBare s'.gens∧Un (frs outer) [] H H' s.heap s'.heap∧HOk P w H' s'.heap ∧
 Fly z s'.heap ea T C d .none∧H' ea=none∧H' T=none∧s.heap.get? ea=none∧s.heap.get? T=none∧(∀ dx,d=some dx→∃ fs,H' dx=some (.xd fs))∧E (.ref C) d H'
abbrev CXF(P:Program)(w:World):CXT:=CXQ true P w
theorem Fly.weak{z:Bool}{h:Heap}{e T C:Addr}{dx:Option Addr}{fl:Value}(f:Fly z h e T C dx fl):Fly false h e T C dx fl:=⟨f.obj,f.tb,f.ne,fun q=>by cases q⟩
theorem CXQ.weak{z:Bool}{P:Program}{w:World}{outer:List Env}{H:Hp}{s s':Shared}{E:XK}{e:Value}(c:CXQ z P w outer H s E e s'):CXQ false P w outer H s E e s':=by
 obtain⟨ea,T,C,d,H',h0,h1,h2,h3,h4,h5,h6⟩:=c
 exact⟨ea,T,C,d,H',h0,h1,h2,h3,h4,h5.weak,h6⟩
section
variable{X:Cx}{z:Bool}{pins:List (Addr×Obj)}{σ:L2.St}{H:Hp}{s:Shared}{E':Value→Shared→Prop}{E:XK}
theorem Z6X{env:Env}{outer:List Env}{L:Addr}(h:env.frame=some L):frs (env::outer)=L::frs outer:=by
 unfold frs
 rw [Z1i,h]
theorem un_kp{h2:Heap}{ch:List Addr}(I:Inv X pins σ H s)(hst:X.stack=X.env::X.outer)(hfr:X.env.frame=some X.env.locals)(hex:X.ex=[])(k:Kp (frs X.stack) ch s.heap h2)(h0:∀ b∈ch,X.s_0.heap.get? b=none) :
  Un (frs X.outer) [] X.H_0 H X.s_0.heap h2:=by
 have nch:∀ b o,X.s_0.heap.get? b=some o→b∉ch:=fun b o q z=>by
  rw [h0 b z]at q
  cases q
 have nx:∀ b:Addr,b∉X.ex:=fun b z=>by rw [hex]at z;cases z
 have nL:∀ b o,X.s_0.heap.get? b=some o→b∉frs X.outer→b∉frs X.stack:=fun b o q n z=>by
  rw [hst,Z6X hfr]at z
  rcases Z0e.mp z with z |z
  ·exact absurd (Z0w (Z0f q) I.ok.above) (by rw [z];exact Z0v _)
  ·exact n z
 refine⟨fun b o q n hb _=>k.keep b o (I.base.keep b o q n hb (nx b)) (nch b o q) (nL b o q hb),fun b o q n hb _=>?_,fun b o q n _=>I.base.free b o q n (nx b),fun b o q _=>?_,I.base.tups,I.base.frzs,I.base.tbls⟩
 ·obtain⟨sl,e⟩:=I.base.slot b o q n hb (nx b)
  obtain⟨sl',e'⟩:=k.slot b _ e (nch b o q)
  exact⟨sl',e'⟩
 ·obtain⟨o',e⟩:=I.base.there b o q (nx b)
  obtain⟨sl',e'⟩:=k.slot b _ e (nch b o q)
  exact⟨_,e'⟩
theorem Z7z{h2:Heap}{ch:List Addr}(I:Inv X pins σ H s)(k:Kp (frs X.stack) ch s.heap h2)(hH:∀ b∈ch,H b=none):HOk X.prog X.w H h2:=fun a o e =>
 (I.hok a o e).stay (fun b u hb q=>by
   have hs:∃ z,H b=some z:=by
    rcases hb with rfl |hb
    ·exact⟨o,e⟩
    ·exact⟨_,hb⟩
   obtain⟨z,hz⟩:=hs
   refine k.keep b u q (fun m=>?_) fun m=>?_
   ·rw [hH b m]at hz;cases hz
   ·rw [I.stkFree b m]at hz;cases hz) (fun _ q=>q) fun _ _ q=>q
theorem nones(I:Inv X pins σ H s)(hex:X.ex=[]){a:Addr}(n:s.heap.get? a=none):H a=none∧X.s_0.heap.get? a=none:=let N:=Z3u I hex n;⟨N.hn,N.h0⟩
def Here(z:Bool)(X:Cx)(H:Hp)(h:Heap)(ea C:Addr)(dx:Option Addr):Prop:=(H ea=none∧X.s_0.heap.get? ea=none)∧(Fre z h ea C dx∨∃ T,Fly z h ea T C dx .none∧H T=none∧X.s_0.heap.get? T=none)
theorem ZaN{Q:Unit→Shared→Prop}{ea C:Addr}{dx:Option Addr}(I:Inv X pins σ H s)(hst:X.stack=X.env::X.outer)(hfr:X.env.frame=some X.env.locals)(hex:X.ex=[])(he:Here z X H s.heap ea C dx)
  (h:∀ h1 T ch,Fly z h1 ea T C dx (rawInt X.env.locals)→(H T=none∧X.s_0.heap.get? T=none)→Kp (frs X.stack) ch s.heap h1→(∀ b∈ch,H b=none∧X.s_0.heap.get? b=none)→Q () { s with heap:=h1 }) :
  wpAny (model X.prog X.w) X.A (noteFrame (.ref ea) X.env) Q E' s:=by
 have hF:X.A.frames=some (X.env::X.outer):=by rw [←hst];exact I.ok.frames
 have hL:s.heap.FunFrames X.base (X.env::X.outer):=by rw [←hst];exact I.stack
 obtain⟨h0,hf |⟨T,hf,hT⟩⟩:=he
 ·refine Z7v hF hL hfr hf fun h1 T f n k=>h h1 T [ea] f (nones I hex n) (by rw [hst];exact k) fun b hb=>?_
  rw [Z0l.mp hb]
  exact h0
 ·refine Z6p hF hL hfr hf fun h1 T' f n k=>h h1 T' [T,ea] f (nones I hex n) (by rw [hst];exact k) fun b hb=>?_
  rcases Z0e.mp hb with rfl |hb
  ·exact hT
  ·rw [Z0l.mp hb]
   exact h0
theorem Z5Y{ea C:Addr}{dx:Option Addr}(I:Inv X pins σ H s)(hst:X.stack=X.env::X.outer)(hfr:X.env.frame=some X.env.locals)(hex:X.ex=[])(he:Here z X H s.heap ea C dx)
  (hd:∀ dx',dx=some dx'→∃ fs,H dx'=some (.xd fs))(hE:E (.ref C) dx H):wpAny (model X.prog X.w) X.A (leaving X.env (.ref ea)) (fun _ s'=>CXQ z X.prog X.w X.outer X.H_0 X.s_0 E (.ref ea) s') E' s:=by
 unfold leaving
 refine wpAny_bind (ZaN I hst hfr hex he fun h1 T ch f nT k hc=>?_)
 refine land_ (fs:=frs X.stack) (s:={ s with heap:=h1 }) f fun h2 f2 k2=>?_
 have k3:=k.trans k2
 have hc3:∀ b∈ch++[T],H b=none∧X.s_0.heap.get? b=none:=fun b hb=>by
  rcases Z0m.mp hb with hb |hb
  ·exact hc b hb
  ·rw [Z0l.mp hb]
   exact nT
 exact⟨ea,T,C,dx,H,rfl,I.os,I.bare,un_kp I hst hfr hex k3 fun b hb=>(hc3 b hb).2,Z7z I k3 fun b hb=>(hc3 b hb).1,f2,he.1.1,nT.1,he.1.2,nT.2,hd,hE⟩
end
section
variable{P:Program}{w:World}{K:Z0a}{mg:Str→Option Value}{base:Heap}{N:List Str}{qual:Str}{scope:Scope}{f:Addr}{cd:Value}{A:Around}{outer:List Env}{s0:Shared}{H0:Hp}{E:XK}{z:Bool}
abbrev cxQ(z:Bool)(P:Program)(w:World)(K:Z0a)(mg:Str→Option Value)(base:Heap)(N:List Str)(qual:Str)(scope:Scope)(f:Addr)(cd:Value)(A:Around)(outer:List Env)(s:Shared)(H:Hp)(E:XK):Cx :=
 cxOf (CXQ z P w) P w K mg base N qual scope f cd A outer s H E
theorem Z2Q:Z9m (cxQ z P w K mg base N qual scope f cd A outer s0 H0 E) E:=by
 intro pins σ H s e C d I hf h1 h2 hd hE
 exact Z5Y I rfl rfl rfl ⟨⟨h1,h2⟩,.inl (by obtain⟨vs,sl,e1,e2,e3⟩:=hf;exact⟨vs,sl,e1,e2,fun _=>e3 rfl⟩)⟩ hd hE
theorem Z2z:Z3g (CXQ z P w) (cxQ z P w K mg base N qual scope f cd A outer s0 H0 E) E:=by
 intro pins σ H s e s' I h
 obtain⟨ea,T,C,dx,H',rfl,h1,h2,h3,h4,h5,h6,h7,h8,h9,h10,h11⟩:=h
 have I':Inv (cxQ z P w K mg base N qual scope f cd A outer s0 H0 E) pins σ H' s':=I.call' (ch:=[]) h1 h3 h4 h2 (fun b z=>absurd z (by simp))
 exact Z5Y I' rfl rfl rfl ⟨⟨h6,(nones I rfl h8).2⟩,.inr ⟨T,h5,h7,(nones I rfl h9).2⟩⟩ h10 h11
theorem Z4N:PassesOwn (model P w) (cxQ z P w K mg base N qual scope f cd A outer s0 H0 E).A (cxQ z P w K mg base N qual scope f cd A outer s0 H0 E).env (cxQ z P w K mg base N qual scope f cd A outer s0 H0 E).xe:=PassesOwn.leaving
theorem okX{x:Str}{st:Stmt}{fd:FuncData}{ps:List Str}{k:Nat}{sp:Sp}(F:Fun K x qual st f fd)(S:Z2v N ps (Z2r st))(len:∀ vs H Q E,sp vs H Q E→vs.length=ps.length)
  (hbody:∀ (cdv:Value)(A:Around)(outer:List Env)(s:Shared)(H:Hp)(vs:List V)(Q:VK)(E:XK),Room k (A.deeper (envOfC qual (Z2r st) s.heap.objs.size f cdv))→sp vs H Q E →
    ∃ t,PSs (cxQ z P w K mg base N qual (Z2r st) f cdv A outer s H E) (Z2F st) t∧t { nx:=fun _ H'=>Q .non H',rt:=Q } (start N vs) H):FnOk P w K mg base (CXQ z P w) (k+1) f fd ps sp:=by
 obtain⟨oc,od,kV,doc,pm,an,cdv,ct,osl,rfl,lk,hcd⟩:=F.ex
 exact fn_of lk hcd S len fun A outer s H vs Q E hr hsp=>hbody cdv A outer s H vs Q E hr hsp
theorem weakX{k:Nat}{fd:FuncData}{ps:List Str}{sp:Sp}(F:FnOk P w K mg base (CXQ z P w) k f fd ps sp):FnOk P w K mg base (CXQ false P w) k f fd ps sp :=
 ⟨F.len,fun A outer s H args us vs Q E hr he hb hv hs=>codeAny_mono (F.run A outer s H args us vs Q E hr he hb hv hs) fun r s' q=>by
  cases r with
  |error e=>exact q.weak
  |ok fl=>cases fl<;>exact q⟩
end
structure Off(X:Cx)(pins:List (Addr×Obj))(H:Hp)(b:Addr):Prop where
 hn:H b=none
 h0:X.s_0.heap.get? b=none
 hL:b≠X.env.locals
 hc:∀ x c,X.env.cells.lookup x=some c→c≠b
 hp:∀ p∈X.pn++pins,p.1≠b
theorem New.off{X:Cx}{pins:List (Addr×Obj)}{H:Hp}{b:Addr}(n:New X pins H b):Off X pins H b:=⟨n.hn,n.h0,n.hL,n.hc,n.hp⟩
section
variable{X:Cx}{pins:List (Addr×Obj)}{σ:L2.St}{H:Hp}{s:Shared}
theorem Z4q{h1:Heap}{ch:List Addr}(I:Inv X pins σ H s)(hst:X.stack=X.env::X.outer)(hfr:X.env.frame=some X.env.locals)(hex:X.ex=[])(k:Kp (frs X.stack) ch s.heap h1)(hc:∀ b∈ch,Off X pins H b) :
  Inv X pins σ H { s with heap:=h1 }:=by
 have u:=un_kp I hst hfr hex k fun b hb=>(hc b hb).h0
 have cel:∀ {x:Str}{c:Addr}{v:Option Value},X.env.cells.lookup x=some c→s.heap.IsCell c v→h1.IsCell c v:=fun{x c v} e z=>by
  obtain⟨o,e1,e2⟩:=z
  obtain⟨sl,e3⟩:=k.slot c o e1 fun m=>(hc c m).hc x c e rfl
  exact⟨_,e3,e2⟩
 refine⟨I.ok,I.os,I.bare,?_,?_,fun x c e=>?_,I.free,I.freeC,fun p hp=>?_,Z7z I k fun b hb=>(hc b hb).hn,I.len⟩
 ·rw [hex];exact u
 ·obtain⟨m,⟨o,es,ep,e1,e2,r⟩,hl⟩:=I.loc
  obtain⟨sl,e3⟩:=k.slot _ o e1 fun z=>(hc _ z).hL rfl
  refine⟨m,⟨_,es,ep,e3,e2,r⟩,fun i x v a1 a2 a3=>?_⟩
  obtain⟨u',r',q⟩:=hl i x v a1 a2 a3
  refine⟨u',r',?_⟩
  rcases q with q |⟨q1,c,q2,q3⟩
  ·exact .inl q
  ·exact .inr ⟨q1,c,q2,cel q2 q3⟩
 ·obtain⟨v,z⟩:=I.cell x c e
  exact⟨v,cel e z⟩
 ·obtain⟨p1,p2,p3,p4,p5⟩:=I.pin p hp
  refine⟨k.keep _ _ p1 (fun m=>(hc _ m).hp p hp rfl) fun m=>?_,p2,p3,p4,p5⟩
  rw [hst,Z6X hfr]at m
  rcases Z0e.mp m with m |m
  ·exact p3 m
  ·exact p4 m
def blank(X:Cx):L2.St:=List.replicate X.N.length none
theorem Z7B(X:Cx){i:Nat}{v:V}:(blank X)[i]?≠some (some v):=by
 unfold blank
 rw [List.getElem?_replicate]
 split<;>intro z<;>cases z
theorem Inv.blank(I:Inv X pins σ H s):Inv X pins (blank X) H s:=I.weak (by unfold EX.blank;rw [Z2e,I.len]) fun i v e=>absurd e (Z7B X)
theorem Z8S{h1:Heap}{m:Str→Option Value}{t:Nat}(I:Inv X pins σ H s)(hn:h1.Ns X.env.locals m)(hs:Heap.SameBut X.env.locals s.heap h1):Inv X pins (EX.blank X) H { s with heap:=h1,toks:=t }:=by
 have ne:∀ b o,X.s_0.heap.get? b=some o→b≠X.env.locals:=fun b o e=>Z0o (Z0w (Z0f e) I.ok.above)
 refine⟨I.ok,I.os,I.bare,⟨fun b o e n hb hx=>(hs.2 b (ne b o e)).trans (I.base.keep b o e n hb hx),fun b o e n hb hx=>?_,I.base.free,fun b o e hx=>?_,I.base.tups,I.base.frzs,I.base.tbls⟩,⟨m,hn,fun i x v _ e _=>absurd e (Z7B X)⟩,
  fun x c e=>?_,I.free,I.freeC,fun p hp=>?_,fun a o e=>(I.hok a o e).stay (fun b u hb q=>(hs.2 b ?_).trans q) (fun _ q=>q) fun _ _ q=>q,by unfold EX.blank;rw [Z2e]⟩
 ·obtain⟨sl,z⟩:=I.base.slot b o e n hb hx
  exact⟨sl,(hs.2 b (ne b o e)).trans z⟩
 ·obtain⟨o',z⟩:=I.base.there b o e hx
  exact⟨o',(hs.2 b (ne b o e)).trans z⟩
 ·obtain⟨v,z⟩:=I.cell x c e
  exact⟨v,z.sameBut hs (I.cne x c e)⟩
 ·obtain⟨p1,p2,p3,p4⟩:=I.pin p hp
  exact⟨(hs.2 _ p3).trans p1,p2,p3,p4⟩
 ·rintro rfl
  rcases hb with rfl |hb
  ·rw [I.free]at e;cases e
  ·rw [I.free]at hb;cases hb
abbrev XS(X:Cx)(ea:Addr):Cx:={ X with A:=X.A.mark (some (.ref ea)),calm:=false,xe:=fun _ _=>False }
abbrev XB(X:Cx)(pins:List (Addr×Obj))(E:Value→Shared→Prop):Cx:={ X with pn:=X.pn++pins,xe:=E }
theorem Inv.toS(I:Inv X pins σ H s)(ea:Addr):Inv (XS X ea) pins σ H s :=
 ⟨⟨I.ok.mod,I.ok.kind,I.ok.glob,I.ok.blt,I.ok.above,I.ok.inj,I.ok.has,I.ok.cab,(fun h=>by cases h),I.ok.frames,I.ok.stk,I.ok.exf,I.ok.bs,I.ok.bsz,I.ok.noex,I.ok.exfs,I.ok.funs,I.ok.frf⟩,I.os,I.bare,I.base,I.loc,I.cell,I.free,I.freeC,I.pin,I.hok,I.len⟩
theorem Inv.ofS{ea:Addr}(ok:X.Ok)(I:Inv (XS X ea) pins σ H s):Inv X pins σ H s:=⟨ok,I.os,I.bare,I.base,I.loc,I.cell,I.free,I.freeC,I.pin,I.hok,I.len⟩
theorem Inv.toB(I:Inv X pins σ H s)(E:Value→Shared→Prop):Inv (XB X pins E) [] σ H s :=
 ⟨⟨I.ok.mod,I.ok.kind,I.ok.glob,I.ok.blt,I.ok.above,I.ok.inj,I.ok.has,I.ok.cab,I.ok.hd,I.ok.frames,I.ok.stk,I.ok.exf,I.ok.bs,I.ok.bsz,I.ok.noex,I.ok.exfs,I.ok.funs,I.ok.frf⟩,I.os,I.bare,I.base,I.loc,I.cell,I.free,I.freeC,fun p hp=>I.pin p (by rw [Z0F]at hp;exact hp),I.hok,I.len⟩
theorem Inv.ofB{E:Value→Shared→Prop}{pins':List (Addr×Obj)}(ok:X.Ok)(I:Inv (XB X pins E) pins' σ H s):Inv X pins σ H s :=
 ⟨ok,I.os,I.bare,I.base,I.loc,I.cell,I.free,I.freeC,fun p hp=>I.pin p (Z0M _ hp),I.hok,I.len⟩
def XE(z:Bool)(ea C dx:Addr):HO:=.ext fun h=>∃ vs sl,h.get? ea=some (xob C (some dx) vs sl)∧(z=true→vs[2]?=some .none)
theorem xe_ok{P:Program}{w:World}{H:Hp}{h:Heap}{ea C dx:Addr}{z:Bool}(e:∃ vs sl,h.get? ea=some (xob C (some dx) vs sl)∧(z=true→vs[2]?=some .none)):ObjOk P w H h ea (XE z ea C dx):=by
 obtain⟨vs,sl,e,q⟩:=e
 exact⟨⟨vs,sl,e,q⟩,⟨_,e⟩,fun h1 h2 ⟨vs,sl,a,q⟩ k=>⟨vs,sl,k _ a,q⟩⟩
structure AtH(z:Bool)(X:Cx)(pins:List (Addr×Obj))(H:Hp)(s:Shared)(ea T C:Addr)(d:Option Addr):Prop where
 inv:Inv X pins (EX.blank X) H s
 fly:Fly z s.heap ea T C d .none
 oe:Off X pins H ea
 oT:Off X pins H T
 fe:ea∉frs X.stack
 hd:∀ dx,d=some dx→∃ fs,H dx=some (.xd fs)
theorem Zbo{M:Model}{A:Around}{E:Value→Shared→Prop}{h:Heap}{g:Array GenState}{d:Drawn}{t:Nat}{os:OsState}{e C D:Addr}{oe:Obj}{Q:Bool→Shared→Prop}{K:Z0a}(X:K.In h)
  (kC:XK1 K C)(kD:XK1 K D)(he:h.get? e=some oe)(hcls:oe.cls=.ref C)(hne:C≠D)
  (hq:Q false ⟨h,g,d,t,os⟩):wpAny M A (excMatches (.ref e) (.ref D)) Q E ⟨h,g,d,t,os⟩:=by
 obtain⟨nm,q,N,bs,sn,sub,ab,col,dd,k0,k1,k2,k3,k5,lC⟩:=kC
 obtain⟨nm',q',N',bs',sn',sub',ab',col',dd',k0',k1',k2',k3',k5',lD⟩:=kD
 have hC:=X _ _ lC
 have hD:=X _ _ lD
 have hcB:(Value.ref D::bmX).contains (.type "BaseException")=true:=by rw [Z1O,show bmX.contains (.type "BaseException")=true by decide,Bool.or_true]
 have hcC:(Value.ref C::bmX).contains (.ref D)=false:=by
  have:(Value.ref D==Value.ref C)=false:=by
   rw [beq_eq_false_iff_ne]
   intro z
   cases z
   exact hne rfl
  rw [Z1O,this]
  rfl
 have f:=tc_notTuple
 unfold excMatches
 repeat (first |(with_reducible refine wpAny_loadPart_at he ?_;rw [hcls]) |with_reducible refine wpAny_loadPart_at hD ?_ |(with_reducible refine wpAny_isSubtype_exc hD ?_;rw [hcB]) |(with_reducible refine wpAny_isSubtype_exc hC ?_;rw [hcC]) |wp_step)
 exact hq
section
variable{z:Bool}{C C1 ea T i:Addr}{d:Option Addr}{n x:Str}{p pos:Pos}{b0:Stmt}{suite:List Stmt}{rest:List ExceptHandler}{th:TS}{D:Ends}
theorem Z4S{nm:Option Str}(a:AtH z X pins H s ea T C d)(hg:Gl X x)(hm:X.mg x=some (.ref C1))(kC:XK1 X.K C)(k1:XK1 X.K C1)(hne:C≠C1)
  (h:wpAny (model X.prog X.w) X.A (handleBy (.ref ea) X.env rest) (SP X pins D) X.xe s)(hdb:(x==("__debug__" : Str))=false:=by decide) :
  wpAny (model X.prog X.w) X.A (handleBy (.ref ea) X.env (.ExceptHandler (some (.Name x p)) nm (b0::suite) pos::rest)) (SP X pins D) X.xe s:=by
 obtain⟨vs2,sl2,e2,_⟩:=a.fly.obj
 refine wpAny_handleBy_cons (codeAny_handlers_test (Z3r (X:=XS X ea) (Inv.toS a.inv ea) hg hm ?_ hdb)) (by intro z;cases z)
 have KX:=a.inv.kIn
 obtain⟨hp,g,dr,tk,os⟩:=s
 exact Zbo KX kC k1 e2 rfl hne h
theorem hit{Q:Bool→Shared→Prop}{A:Around}{E:Value→Shared→Prop}(a:AtH z X pins H s ea T C d)(kC:XK1 X.K C)(h:Q true s):wpAny (model X.prog X.w) A (excMatches (.ref ea) (.ref C)) Q E s:=by
 obtain⟨vs2,sl2,e2,_⟩:=a.fly.obj
 obtain⟨nm,q,N,bs,sn,sub,ab,col,dd,k0,k1',k2',k3,k5,c1⟩:=kC
 have KX:=a.inv.kIn
 obtain⟨hp,g,dr,tk,os⟩:=s
 exact wpAny_excMatches_sub_self (KX _ _ c1) e2 rfl (by decide) h
theorem landed(a:AtH z X pins H s ea T C d)(hst:X.stack=X.env::X.outer)(hfr:X.env.frame=some X.env.locals)(hex:X.ex=[]){h3:Heap}(f3:Fly z h3 ea T C d .none)(k3:Kp (frs X.stack) [T] s.heap h3):AtH z X pins H { s with heap:=h3 } ea T C d :=
 ⟨Z4q a.inv hst hfr hex k3 (fun b hb=>by rw [Z0l.mp hb];exact a.oT),f3,a.oe,a.oT,a.fe,a.hd⟩
theorem hb_as{dx:Addr}(a:AtH z X pins H s ea T C (some dx))(kC:XK1 X.K C)(hst:X.stack=X.env::X.outer)(hfr:X.env.frame=some X.env.locals)(hex:X.ex=[])(hg:Gl X x)(hm:X.mg x=some (.ref C))(hN:X.N.Nodup)(hi:X.N[i]?=some n)(hl:X.env.scope.names.lookup n=some .local)
  (hs:∀ ea,PSs (XS X ea) (b0::suite) th)(hE:∀ ea,H ea=none→ea≠dx→th { nx:=fun _ _=>False,rt:=D.rt } ((EX.blank X).set i (some (.ref ea))) (upd H ea (XE z ea C dx)))(hdb:(x==("__debug__" : Str))=false:=by decide) :
  wpAny (model X.prog X.w) X.A (handleBy (.ref ea) X.env (.ExceptHandler (some (.Name x p)) (some n) (b0::suite) pos::rest)) (SP X pins D) X.xe s:=by
 refine wpAny_handleBy_cons (codeAny_handlers_test (Z3r (X:=XS X ea) (Inv.toS a.inv ea) hg hm (hit a kC ?_) hdb)) (by intro z;cases z)
 refine codeAny_handlers_suite_as ?_
 refine land_ (fs:=frs X.stack) a.fly fun h3 f3 k3'=>?_
 have a3:=landed a hst hfr hex f3 k3'
 obtain⟨vs3,sl3,e3,_⟩:=f3.obj
 have I4:=track (a:=ea) (o:=XE z ea C dx) a3.inv ⟨a.oe.hn,a.oe.h0,a.oe.hL,a.oe.hc,a.oe.hp,a.fe⟩ (xe_ok ⟨vs3,sl3,e3,fun hz=>f3.cx hz _ _ e3 rfl⟩)
 have hd:ea≠dx:=fun z=>by
  obtain⟨fs,hf⟩:=a.hd dx rfl
  rw [←z,a.oe.hn]at hf
  cases hf
 refine Z5X (X:=XS X ea) (v:=.ref ea) (Inv.toS I4 ea) hN hi (.inl hl) rfl (fun s5 I5=>?_) (.inr hl)
 refine wpAny_mono (hs ea pins s5 _ _ { nx:=fun _ _=>False,rt:=D.rt } I5 (hE ea a.oe.hn hd)) (fun fl s6 h6=>?_) fun _ _ z=>z.elim
 cases fl with
 |ret u =>
  obtain⟨v,σ6,H6,I6,r6,q6⟩:=h6
  have I7:Inv X pins σ6 H6 s6:=Inv.ofS a.inv.ok I6
  obtain⟨m6,n6,_⟩:=I7.loc
  refine wpAny_nameGoes hl n6 (by rw [a.inv.ok.kind];rfl) fun h7 m7 n7 sb7=>?_
  exact⟨v,_,H6,Z8S I7 n7 sb7,r6,q6⟩
 |next=>obtain⟨_,_,_,z⟩:=h6;exact z.elim
 |brk=>obtain⟨_,_,_,z⟩:=h6;exact z.elim
 |cont=>obtain⟨_,_,_,z⟩:=h6;exact z.elim
theorem Z8L(a:AtH z X pins H s ea T C d)(kC:XK1 X.K C)(hst:X.stack=X.env::X.outer)(hfr:X.env.frame=some X.env.locals)(hex:X.ex=[])(hg:Gl X x)(hm:X.mg x=some (.ref C))
  (hs:∀ ea,PSs (XS X ea) (b0::suite) th)(hE:th { nx:=fun _ _=>False,rt:=D.rt } (EX.blank X) H)(hdb:(x==("__debug__" : Str))=false:=by decide) :
  wpAny (model X.prog X.w) X.A (handleBy (.ref ea) X.env (.ExceptHandler (some (.Name x p)) none (b0::suite) pos::rest)) (SP X pins D) X.xe s:=by
 refine wpAny_handleBy_cons (codeAny_handlers_test (Z3r (X:=XS X ea) (Inv.toS a.inv ea) hg hm (hit a kC ?_) hdb)) (by intro z;cases z)
 refine codeAny_handlers_suite ?_
 refine land_ (fs:=frs X.stack) a.fly fun h3 f3 k3'=>?_
 have a3:=landed a hst hfr hex f3 k3'
 refine wpAny_mono (hs ea pins _ _ _ { nx:=fun _ _=>False,rt:=D.rt } (Inv.toS a3.inv ea) hE) (fun fl s6 h6=>?_) fun _ _ z=>z.elim
 cases fl with
 |ret u =>
  obtain⟨v,σ6,H6,I6,r6,q6⟩:=h6
  exact⟨v,σ6,H6,Inv.ofS a.inv.ok I6,r6,q6⟩
 |next=>obtain⟨_,_,_,z⟩:=h6;exact z.elim
 |brk=>obtain⟨_,_,_,z⟩:=h6;exact z.elim
 |cont=>obtain⟨_,_,_,z⟩:=h6;exact z.elim
end
theorem atH_of{z:Bool}{ea T C:Addr}{d:Option Addr}{Q:Flow→Shared→Prop}{g:Sem Flow}(I:Inv X pins σ H s)(hst:X.stack=X.env::X.outer)(hfr:X.env.frame=some X.env.locals)(hex:X.ex=[])(oe:Off X pins H ea)(oT:Off X pins H T)(hfe:ea∉frs X.stack)
  (hf:Fly z s.heap ea T C d .none)(hd:∀ dx,d=some dx→∃ fs,H dx=some (.xd fs))
  (h:∀ s3 T1,AtH z X pins H s3 ea T1 C d→wpAny (model X.prog X.w) X.A g Q X.xe s3) :
  wpAny (model X.prog X.w) X.A (noteFrame (.ref ea) X.env) (fun _ s2=>wpAny (model X.prog X.w) X.A (setFlight (.ref ea) none) (fun _ s3=>wpAny (model X.prog X.w) X.A g Q X.xe s3) X.xe s2) X.xe s:=by
 have hF:X.A.frames=some (X.env::X.outer):=by rw [←hst];exact I.ok.frames
 have hL:s.heap.FunFrames X.base (X.env::X.outer):=by rw [←hst];exact I.stack
 have Ib:=Inv.blank I
 refine Z6p hF hL hfr hf fun h1 T1 f1 nT k1=>?_
 rw [←hst]at k1
 refine land_ (fs:=frs X.stack) (s:={ s with heap:=h1 }) f1 fun h2 f2 k2=>?_
 have oT1:Off X pins H T1:=(Z3u I hex nT).off
 have I2:Inv X pins (EX.blank X) H { s with heap:=h2 }:=Z4q Ib hst hfr hex (k1.trans k2) fun b hb=>by
  rcases Z0m.mp hb with hb |hb
  ·rcases Z0e.mp hb with rfl |hb
   ·exact oT
   ·rw [Z0l.mp hb];exact oe
  ·rw [Z0l.mp hb];exact oT1
 exact h _ T1 ⟨I2,f2,oe,oT1,hfe,hd⟩
def tTry(W:Ends→XK)(tb:XK→TS):TS:=fun D σ H=>tb (W D) D σ H
theorem ps_try{z:Bool}{tpos:Pos}{h0:ExceptHandler}{hs:List ExceptHandler}{body:List Stmt}{tb:XK→TS}{W:Ends→XK}
  (hst:X.stack=X.env::X.outer)(hfr:X.env.frame=some X.env.locals)(hex:X.ex=[])
  (hb:∀ (pins:List (Addr×Obj))(E1:Value→Shared→Prop)(Ew:XK),Z3g (CXQ z X.prog X.w) (XB X pins E1) Ew→PSs (XB X pins E1) body (tb Ew))
  (hh:∀ (pins:List (Addr×Obj))(D:Ends)(H:Hp)(s:Shared)(ea T C:Addr)(d:Option Addr),AtH z X pins H s ea T C d→W D (.ref C) d H→wpAny (model X.prog X.w) X.A (handleBy (.ref ea) X.env (h0::hs)) (SP X pins D) X.xe s) :
  PS X (.Try body (h0::hs) [] [] tpos) (tTry W tb):=by
 intro pins s σ H D I h
 have hok:=I.ok
 refine wpAny_Try_except ?_
 have pass:Z3g (CXQ z X.prog X.w) (XB X pins fun e s1=>wpAny (model X.prog X.w) X.A (noteFrame e X.env) (fun _ s2=>wpAny (model X.prog X.w) X.A (setFlight e none) (fun _ s3 =>
   wpAny (model X.prog X.w) X.A (handleBy e X.env (h0::hs)) (SP X pins D) X.xe s3) X.xe s2) X.xe s1) (W D):=by
  intro pins' σ' H' s' e s'' I' q
  obtain⟨ea,T,C',d,H2,rfl,h1,h2,h3,h4,h5,h6,h7,h8,h9,h10,h11⟩:=q
  have I2:=I'.call' (ch:=[]) h1 h3 h4 h2 (fun b z=>absurd z (by simp))
  have J':Inv X pins σ' H' s':=Inv.ofB hok I'
  have J2:Inv X pins σ' H2 s'':=Inv.ofB hok I2
  have Ne:=Z3u J' hex h8
  have NT:=Z3u J' hex h9
  exact atH_of J2 hst hfr hex ⟨h6,Ne.h0,Ne.hL,Ne.hc,Ne.hp⟩ ⟨h7,NT.h0,NT.hL,NT.hc,NT.hp⟩ Ne.hf h5 h10 fun s3 T1 a=>hh pins D H2 s3 ea T1 C' d a h11
 refine wpAny_mono (hb pins _ _ pass [] s σ H D (Inv.toB I _) h) (fun f s1 q=>?_) fun _ _ z=>z
 cases f with
 |next =>
  obtain⟨σ',H',I',q⟩:=q
  exact wpAny_execs_nil ⟨σ',H',Inv.ofB hok I',q⟩
 |ret u =>
  obtain⟨v,σ',H',I',r,q⟩:=q
  exact⟨v,σ',H',Inv.ofB hok I',r,q⟩
 |brk =>
  obtain⟨σ',H',I',q⟩:=q
  exact⟨σ',H',Inv.ofB hok I',q⟩
 |cont =>
  obtain⟨σ',H',I',q⟩:=q
  exact⟨σ',H',Inv.ofB hok I',q⟩
end
end EX
end
section
namespace EX
open PySem PySem.Spec PyProof.Rows L2
open Builtin Builtin.ObjectAttr
open PySem.W (Looks)
structure XG(K:Z0a)(C:Addr):Prop where
 ga:PySem.W.findIn K (.ref C) "__getattribute__" = some (some (.builtin "BaseException.__getattribute__"))
 gh:PySem.W.findIn K (.ref C) "__getattr__" = some none
 hd:PySem.W.hasDictIn K C=true
 sub:PySem.W.mroIn K C (.type "BaseException")=some true
theorem ga_kind:builtinKind "BaseException.__getattribute__" = some .slot:=by decide +kernel
theorem ga_split:splitId "BaseException.__getattribute__" = some ("BaseException","__getattribute__"):=by decide +kernel
theorem ga_slot:Slot "Exception" "__getattribute__" "BaseException.__getattribute__" :=
 .of (owner:="BaseException") (n:="__getattribute__") (by rw [typeLookup_type,builtinLookup_eq_fast];kernel_rfl) (by decide +kernel) (by decide +kernel) (by decide +kernel)
  (by first |exact .inl (by decide +kernel) |exact .inr (by decide +kernel)) (by rw [isSubtype_type];kernel_rfl)
section
variable{X:Cx}{pins:List (Addr×Obj)}{σ:L2.St}{H:Hp}{s:Shared}{ea C dx:Addr}{fs:List (Str×V)}{f:Str}{v:V}{A:Around}{E:Value→Shared→Prop}
theorem xget_ok{b:Bool}{z:Bool}{Q:Value→Shared→Prop}(I:Inv X pins σ H s)(e:H ea=some (XE z ea C dx))(ed:H dx=some (.xd fs))(g:XG X.K C)(n:NoAttr X.K C f)(l:fs.lookup f=some v)
  (h:∀ u s',Inv X pins σ H s'→RelV v u→Q u s'):wpAny (model X.prog X.w) A (getAttr (.ref ea) f b) Q E s:=by
 obtain⟨⟨vs,sl,e1,_⟩,_⟩:=(show ObjOk X.prog X.w H s.heap ea (XE z ea C dx)from I.hok ea _ e)
 obtain⟨mA,n1,r⟩:=(show ObjOk X.prog X.w H s.heap dx (.xd fs)from I.hok dx _ ed)
 obtain⟨u,hu,ru⟩:=RelO.some_of (v:=v) (o:=mA f) (by rw [←l];exact r f)
 obtain⟨od,ho,hl⟩:=Z8l n1
 have J:PySem.W.InstAt s.heap ea (xob C (some dx) vs sl) C (some od):=⟨e1,rfl,rfl,ho⟩
 have hf:PySem.W.findObj X.K C (some od) f=some (.value u):=PySem.W.findObj_own g.hd n rfl (by rw [hl,hu])
 have KX:=I.kIn
 have hQ:=h u { s with toks:=s.toks+1 } (I.tok _) ru
 obtain⟨hp,gg,d,tk,os⟩:=s
 have L0:Looks (model X.prog X.w) hp (typeOf (.ref ea)) (.ref C):=J.type
 have L1:Looks (model X.prog X.w) hp (typeLookup (.ref C) "__getattribute__") (some (.builtin "BaseException.__getattribute__")):=Z2c KX g.ga
 have L2:Looks (model X.prog X.w) hp (typeLookup (.ref C) "__getattr__") none:=Z2c KX g.gh
 have L3:Looks (model X.prog X.w) hp (find (.ref ea) (.ref C) f) (.value u):=PySem.W.looks_find KX J hf
 have L4:Looks (model X.prog X.w) hp (isInstance (.ref ea) (.type "BaseException")) true:=L0.andThen (PySem.W.looks_mroIn KX g.sub)
 unfold getAttr getAttrBy
 refine wpAny_bind (wpAny_mkText (wpAny_holding (wpAny_bind (L0.at (wpAny_bind (L1.at ?_))))))
 show wpAny _ _ (getAttrByItsOwn _ _ _ _ _ _) _ _ _
 unfold getAttrByItsOwn
 refine wpAny_bind (L2.at (wpAny_bind (wpAny_attempt (wpAny_holding ?_))))
 have hx0:(b&&onTheHeap (Value.builtin "BaseException.__getattribute__"))=false:=by cases b<;>rfl
 unfold callGetattribute
 rw [hx0,if_neg (by decide)]
 unfold boundAndCalled
 rw [ga_slot.bind]
 refine wpAny_bind (wpAny_pure ?_)
 refine wpAny_call (codeAny_call_builtin ga_slot.plain PySem.F.entry_bexc_ga (@PySem.W.check_slot (model X.prog X.w) _ _ ⟨hp,gg,d,tk+1,os⟩ "BaseException.__getattribute__" "BaseException" "__getattribute__" (.ref ea) [.str f tk] [] _ ga_kind ga_split L4 (PySem.F.args_bexc_ga _ _) ?_))
 unfold Builtin.«object.__getattribute__»
 repeat lk
 show wpAny _ _ (handedOut u) _ _ _
 rw [PySem.W.handedOut_of (Z8p ru)]
 exact wpAny_pure hQ
def tXf(K:Z0a)(ta:TE)(f:Str):TE:=fun σ H Q=>ta σ H fun x H1=>∃ z ea C dx fs v,x=.ref ea∧H1 ea=some (XE z ea C dx)∧H1 dx=some (.xd fs)∧XG K C∧NoAttr K C f∧fs.lookup f=some v∧Q v H1
theorem pe_xf{e:Expr}{pos:Pos}{ta:TE}(he:PE X e ta)(hb:attributeBase e f X.env (eval e X.env)=eval e X.env):PE X (.Attribute e f pos) (tXf X.K ta f):=by
 intro pins s σ H Q I h
 refine Z9S hb (thn (he pins s σ H _ I h) fun u s1 ⟨x,H1,I1,rx,z,a,C,dx,fs,v,ex,ea,ed,c,n,l,q⟩=>?_)
 subst ex
 obtain rfl:u=Value.ref a:=rx
 exact xget_ok I1 ea ed c n l fun u' s2 I2 ru=>⟨v,H1,I2,ru,q⟩
end
section
variable{P:Program}{w:World}{K:Z0a}{mg:Str→Option Value}{base:Heap}{N ps:List Str}{qual x:Str}{f:Addr}{st:Stmt}{fd:FuncData}{k:Nat}{sp:Sp}
end
section
variable{X:Cx}{k:Nat}{f:Addr}{fd:FuncData}{ps:List Str}{sp:Sp}{x:Str}{p pos:Pos}{e:Expr}{es:List Expr}{t:TA}
end
end EX
end
section
namespace EX
open PySem PySem.Spec PyProof.Rows L2
theorem Z7u{env env':Env}(h:env.frame=env'.frame)(e:Value):noteFrame e env=noteFrame e env':=by
 unfold noteFrame PySem.frameOf
 rw [h]
theorem Kp.refl(fs ch:List Addr)(h:Heap):Kp fs ch h h:=⟨fun b o e _ _=>e,fun b o e _=>⟨o.slots,e⟩⟩
section
variable{M:Model}{A:Around}{E:Value→Shared→Prop}{s:Shared}
theorem Z7a{z:Bool}{base:Heap}{env:Env}{outer:List Env}{L e T C:Addr}{dx:Option Addr}{fl:Value}{Q:Unit→Shared→Prop}
  (hfr:A.frames=some (env::outer))(hl:s.heap.FunFrames base (env::outer))(hf:env.frame=some L)(he:Fly z s.heap e T C dx fl)
  (h:∀ h' T',Fly z h' e T' C dx (rawInt L)→(T'=T∨s.heap.get? T'=none)→Kp (frs (env::outer)) [T,e] s.heap h'→Q () { s with heap:=h' }):wpAny M A (noteFrame (.ref e) env) Q E s:=by
 by_cases hfl:(fl==rawInt L)=true
 ·have hfl':=hfl
  obtain⟨⟨vs,sl,e1,e2⟩,⟨oT,ts,t1,t2,t3⟩,ne⟩:=id he
  have q:fl=rawInt L:=eq_of_beq hfl
  subst q
  unfold noteFrame
  rw [hf]
  refine wpAny_bind (wpAny_field e1 rfl e2 ?_)
  rw [if_pos (show(Value.ref T != Value.none)=true by simp)]
  refine wpAny_bind (wpAny_field t1 t2 t3 ?_)
  rw [if_pos hfl]
  exact wpAny_pure (h s.heap T he (.inl rfl) (Kp.refl _ _ _))
 ·obtain⟨⟨vs,sl,e1,e2⟩,⟨oT,ts,t1,t2,t3⟩,ne,cx⟩:=he
  unfold noteFrame
  rw [hf]
  refine wpAny_bind (wpAny_field e1 rfl e2 ?_)
  rw [if_pos (show(Value.ref T != Value.none)=true by simp)]
  refine wpAny_bind (wpAny_field t1 t2 t3 ?_)
  rw [if_neg hfl]
  refine wpAny_bind (wpAny_setField t1 t2 (Z0V.mp t3).1 ?_)
  have oth:∀ b,b≠T→(s.heap.update T (Obj.mapFields (·.setIfInBounds 3 Value.none))).get? b=s.heap.get? b:=fun b hb=>Z0G _ _ (Ne.symm hb)
  have nr:∀ b o,s.heap.get? b=some o→(∀ vs,o.data≠.fields vs)→b≠T:=fun b o hb hn q=>by
   rw [q,t1]at hb
   cases hb
   exact hn ts t2
  refine Z6s hfr (hl.of_keeps fun b o hb hn=>⟨o,(oth b (nr b o hb hn)).trans hb,rfl⟩) hf ((oth e ne.symm).trans e1) (Z0V.mp e2).1 (fun hz=>cx hz _ _ e1 rfl) fun h' T' f n k=>h h' T' f ?_ ⟨fun b o q n1 n2=>?_,fun b o q n1=>?_⟩
  ·by_cases z:T'=T
   ·exact .inl z
   ·right
    rw [←oth T' z];exact n
  ·simp only [Z0e,Z0y,or_false,not_or]at n1
   exact k.keep b o ((oth b n1.1).trans q) (by simpa using n1.2) n2
  ·simp only [Z0e,Z0y,or_false,not_or]at n1
   exact k.slot b o ((oth b n1.1).trans q) (by simpa using n1.2)
end
section
variable{X:Cx}{pins:List (Addr×Obj)}{σ:L2.St}{H:Hp}{s:Shared}{E':Value→Shared→Prop}{E:XK}
theorem Z8b{z:Bool}{ea T C:Addr}{dx:Option Addr}{fl:Value}(I:Inv X pins σ H s)(hst:X.stack=X.env::X.outer)(hfr:X.env.frame=some X.env.locals)(hex:X.ex=[])(hf:Fly z s.heap ea T C dx fl)
  (h1:H ea=none∧X.s_0.heap.get? ea=none)(hT:H T=none∧X.s_0.heap.get? T=none)
  (hd:∀ dx',dx=some dx'→∃ fs,H dx'=some (.xd fs))(hE:E (.ref C) dx H):wpAny (model X.prog X.w) X.A (leaving X.env (.ref ea)) (fun _ s'=>CXQ z X.prog X.w X.outer X.H_0 X.s_0 E (.ref ea) s') E' s:=by
 have hF:X.A.frames=some (X.env::X.outer):=by rw [←hst];exact I.ok.frames
 have hL:s.heap.FunFrames X.base (X.env::X.outer):=by rw [←hst];exact I.stack
 unfold leaving
 refine wpAny_bind (Z7a hF hL hfr hf fun h1' T' f n k=>?_)
 have nT:H T'=none∧X.s_0.heap.get? T'=none:=by
  rcases n with rfl |n
  ·exact hT
  ·exact nones I hex n
 have k':Kp (frs X.stack) [T,ea] s.heap h1':=by rw [hst];exact k
 refine land_ (fs:=frs X.stack) (s:={ s with heap:=h1' }) f fun h2 f2 k2=>?_
 have k3:=k'.trans k2
 have hc3:∀ b∈[T,ea]++[T'],H b=none∧X.s_0.heap.get? b=none:=fun b hb=>by
  simp only [List.cons_append,Z1P,Z0e,Z0y,or_false]at hb
  rcases hb with rfl |rfl |rfl
  ·exact hT
  ·exact h1
  ·exact nT
 exact⟨ea,T',C,dx,H,rfl,I.os,I.bare,un_kp I hst hfr hex k3 fun b hb=>(hc3 b hb).2,Z7z I k3 fun b hb=>(hc3 b hb).1,f2,h1.1,nT.1,h1.2,nT.2,hd,hE⟩
theorem blk_exc{z:Bool}{H3:Hp}{s3:Shared}{scope:Scope}{ce:Env}{fp:List Addr}{use:Option (Value→Sem Unit)}{Qf:Value→Shared→Prop}{acc:Value}(I3:Inv X pins σ H3 s3)(hst:X.stack=X.env::X.outer)(hfr:X.env.frame=some X.env.locals)(hex:X.ex=[])
  (hxe:∀ e s',wpAny (model X.prog X.w) X.A (leaving X.env e) (fun _ s''=>CXQ z X.prog X.w X.outer X.H_0 X.s_0 E e s'') (fun e' s''=>CXQ z X.prog X.w X.outer X.H_0 X.s_0 E e' s'') s'→X.xe e s')
  (f3:∀ b∈fp,FpOk X pins H3 b∧b<s3.heap.objs.size)(hce:ce.frame=X.env.frame)(cL:ce.locals=s3.heap.objs.size) :
  Z3g (CXQ z X.prog X.w) ((X.blk s3 H3 scope ce fp).wish (notedBy (model X.prog X.w) X.A ce fun e s'=>compPost (model X.prog X.w) X.A X.xe use Qf acc s3.heap.objs.size (.error e) s')) E:=by
 intro pins' σ' H5 s5 e s6 I5 hcx
 obtain⟨ea,T,C,dx,H',rfl,h1,h2,h3,h4,h5,h6,h7,h8,h9,h10,h11⟩:=hcx
 have I6:=I5.call' (ch:=[]) h1 h3 h4 h2 (fun b z=>absurd z (by simp))
 show wpAny (model X.prog X.w) X.A (noteFrame (.ref ea) ce) _ _ s6
 rw [Z7u hce]
 have hF:X.A.frames=some (X.env::X.outer):=by rw [←hst];exact I3.ok.frames
 have hL:s6.heap.FunFrames X.base (X.env::X.outer):=by
  have z:s6.heap.FunFrames X.base X.stack:=I6.stack
  rw [←hst];exact z
 have un6:Un (frs X.stack) fp H3 H' s3.heap s6.heap:=I6.base
 refine Z7a hF hL hfr h5 fun h7' T7 f7 n7 k7=>?_
 have k7:Kp (frs X.stack) [T,ea] s6.heap h7':=by rw [hst];exact k7
 obtain⟨m,hn,_⟩:=I6.loc
 have hn:s6.heap.Ns ce.locals m:=hn
 rw [cL]at hn
 have hnC:=hn
 obtain⟨oC,es,ep,eC,dC,rC⟩:=hnC
 have none3:∀ {b:Addr},s6.heap.get? b=none→b∉fp→s3.heap.get? b=none:=fun{b} n hb=>by
  cases w:s3.heap.get? b with
  |none=>rfl
  |some o =>
   obtain⟨q,z⟩:=un6.there b o w hb
   rw [n]at z;cases z
 have none5:∀ {b:Addr},s5.heap.get? b=none→b∉fp→s3.heap.get? b=none:=fun{b} n hb=>by
  cases w:s3.heap.get? b with
  |none=>rfl
  |some o =>
   obtain⟨q,z⟩:=I5.base.there b o w hb
   rw [n]at z;cases z
 have none0:∀ {b:Addr},(b∉fp→s3.heap.get? b=none)→X.s_0.heap.get? b=none:=fun{b} n=>by
  by_cases hb:b∈fp
  ·rcases(f3 b hb).1.2.2.2.1 with z |z
   ·rw [hex]at z;cases z
   ·exact Z1v z
  ·exact(nones I3 hex (n hb)).2
 have nCf:s3.heap.objs.size∉frs X.stack:=fun z=>by
  have zl:s3.heap.FunFrames X.base X.stack:=I3.stack
  obtain⟨_,o,ho,_⟩:=zl.mem z
  exact absurd (Z0f ho) (Z0v _)
 have nCe:s3.heap.objs.size≠ea:=fun z=>by
  obtain⟨⟨vs,sl,e1,e2⟩,_⟩:=h5
  rw [z,e1]at eC
  cases eC
  cases dC
 have nCT:s3.heap.objs.size≠T:=fun z=>by
  obtain⟨_,⟨oT,ts,t1,t2,t3⟩,_⟩:=h5
  rw [z,t1]at eC
  cases eC
  rw [t2]at dC;cases dC
 have eC7:h7'.get? s3.heap.objs.size=some oC:=k7.keep _ _ eC (by simp only [Z0e,Z0y,or_false,not_or];exact⟨nCT,nCe⟩) nCf
 have hT7:H' T7=none:=by
  rcases n7 with rfl |n7
  ·exact h7
  ·cases w:H' T7 with
   |none=>rfl
   |some o =>
    obtain⟨q,z⟩:=obj_in (I6.hok T7 o w)
    rw [n7]at z;cases z
 refine⟨m,⟨oC,es,ep,eC7,dC,rC⟩,fun h' sb cenv _=>?_⟩
 obtain⟨⟨vs,sl,e1,e2⟩,⟨oT,ts,t1,t2,t3⟩,ne,cx7⟩:=id f7
 have nCT7:s3.heap.objs.size≠T7:=fun z=>by
  rw [z,t1]at eC7
  cases eC7
  rw [t2]at dC;cases dC
 have e1':h'.get? ea=some (xob C dx vs sl):=(sb.2 ea (Ne.symm nCe)).trans e1
 have t1':h'.get? T7=some oT:=(sb.2 T7 (Ne.symm nCT7)).trans t1
 have hsz:=(Z0V.mp t3).1
 unfold PySem.passOn setFlight
 refine wpAny_bind (wpAny_field e1' rfl e2 ?_)
 rw [if_neg (show ¬ ((Value.ref T7==Value.none)=true) by simp)]
 refine wpAny_bind (wpAny_bind (wpAny_field e1' rfl e2 ?_))
 rw [if_pos (show(Value.ref T7 != Value.none)=true by simp)]
 refine wpAny_setField t1' t2 hsz ?_
 refine wpAny_throw (hxe _ _ ?_)
 generalize hfl:(cenv.frame.elim Value.none fun f=>rawInt f)=fl
 have oth:∀ b,b≠T7→(h'.update T7 (Obj.mapFields (·.setIfInBounds 3 fl))).get? b=h'.get? b:=fun b hb=>Z0G _ _ (Ne.symm hb)
 have f8:Fly z (h'.update T7 (Obj.mapFields (·.setIfInBounds 3 fl))) ea T7 C dx fl:=⟨⟨vs,sl,(oth ea ne.symm).trans e1',e2⟩,⟨_,_,Z0O _ t1' (Obj.isFreed_of_fields (Obj.data_mapFields t2 _)),Obj.data_mapFields t2 _,by simp [hsz]⟩,ne,fun hz o vs q=>cx7 hz o vs (((oth ea ne.symm).trans (sb.2 ea (Ne.symm nCe))).symm.trans q)⟩
 have k8:Kp (frs X.stack) [T,ea,s3.heap.objs.size,T7] s6.heap (h'.update T7 (Obj.mapFields (·.setIfInBounds 3 fl))):=by
  refine⟨fun b o q n1 n2=>?_,fun b o q n1=>?_⟩
  ·simp only [Z0e,Z0y,or_false,not_or]at n1
   rw [oth b n1.2.2.2,sb.2 b n1.2.2.1]
   exact k7.keep b o q (by simp only [Z0e,Z0y,or_false,not_or];exact⟨n1.1,n1.2.1⟩) n2
  ·simp only [Z0e,Z0y,or_false,not_or]at n1
   rw [oth b n1.2.2.2,sb.2 b n1.2.2.1]
   exact k7.slot b o q (by simp only [Z0e,Z0y,or_false,not_or];exact⟨n1.1,n1.2.1⟩)
 have freeC:H' s3.heap.objs.size=none:=by
  have z:H' ce.locals=none:=I6.free
  rw [cL]at z;exact z
 have hch:∀ b∈[T,ea,s3.heap.objs.size,T7],H' b=none∧(b∉fp→s3.heap.get? b=none):=fun b hb=>by
  simp only [Z0e,Z0y,or_false]at hb
  rcases hb with rfl |rfl |rfl |rfl
  ·exact⟨h7,none5 h9⟩
  ·exact⟨h6,none5 h8⟩
  ·exact⟨freeC,fun _=>Z1v (Z0d _)⟩
  ·refine⟨hT7,fun hb=>?_⟩
   rcases n7 with rfl |n7
   ·exact none5 h9 hb
   ·exact none3 n7 hb
 have un8:Un (frs X.stack) fp H3 H' s3.heap (h'.update T7 (Obj.mapFields (·.setIfInBounds 3 fl))):=by
  have nch:∀ b o,s3.heap.get? b=some o→b∉fp→b∉[T,ea,s3.heap.objs.size,T7]:=fun b o q hb z=>by
   rw [(hch b z).2 hb]at q;cases q
  refine⟨fun b o q n hb hx=>k8.keep b o (un6.keep b o q n hb hx) (nch b o q hx) hb,fun b o q n hb hx=>?_,un6.free,fun b o q hx=>?_,un6.tups,un6.frzs,un6.tbls⟩
  ·obtain⟨sl',e'⟩:=un6.slot b o q n hb hx
   obtain⟨sl2,e2'⟩:=k8.slot b _ e' (nch b o q hx)
   exact⟨sl2,e2'⟩
  ·obtain⟨o',e'⟩:=un6.there b o q hx
   obtain⟨sl2,e2'⟩:=k8.slot b _ e' (nch b o q hx)
   exact⟨_,e2'⟩
 have hok8:HOk X.prog X.w H' (h'.update T7 (Obj.mapFields (·.setIfInBounds 3 fl))):=Z7z (X:=(X.blk s3 H3 scope ce fp).wish _) I6 k8 fun b hb=>(hch b hb).1
 have I8:Inv X pins σ H' { s6 with heap:=h'.update T7 (Obj.mapFields (·.setIfInBounds 3 fl)) } :=
  I3.call' (ch:=fp) I6.os un8 hok8 I6.bare fun b hb=>⟨(f3 b hb).1.2.2.2.1,(f3 b hb).1.2.1,(f3 b hb).1.2.2.2.2.1,(f3 b hb).1.2.2.2.2.2⟩
 exact Z8b I8 hst hfr hex f8 ⟨h6,none0 (none5 h8)⟩ ⟨hT7,none0 (hch T7 (by simp)).2⟩ h10 h11
end
theorem Z8u:entryFor table "proto.unchain" = some Builtin.«proto.unchain»:=entryFor_of_tree (by kernel_rfl)
abbrev from6(t ea:Addr):Array Value:=#[.ref t,.none,.ref ea,.ref ea,.bool true,.none]
section
variable{P:Program}{w:World}{A:Around}{E:Value→Shared→Prop}{env:Env}{C ea:Addr}
theorem Zay{s:Shared}{x c:Sem Value}{Q:Flow→Shared→Prop}(hh:A.handled=some (.ref ea))
  (h:wpAny (model P w) A x (fun v s1=>∃ e d t,v=.ref e∧wpAny (model P w) A c (fun cv s2=>cv=.ref ea∧e≠ea∧(∃ nm q N bs hdct sn sub ab col dd k0 k1 k2 k3 k5 newId,s2.heap.get? C=some (excClassObj nm q C N bs bmX hdct sn sub ab col dd k0 k1 k2 k3 k5 newId)) ∧
    s2.heap.get? e=some (xob C d (Z5c t) #[])∧C≠e∧(∃ vs sl dd,s2.heap.get? ea=some (xob C dd vs sl)∧vs[2]?=some .none) ∧
    ∀ h',h'.get? e=some (xob C d (from6 t ea) #[])→(∀ b,b≠e→h'.get? b=s2.heap.get? b)→E (.ref e) { s2 with heap:=h' }) E s1) E s):wpAny (model P w) A (raiseStmt env (some x) (some c)) Q E s:=by
 have hcB:(Value.ref C::bmX).contains (.type "BaseException")=true:=by rw [Z1O,show bmX.contains (.type "BaseException")=true by decide,Bool.or_true]
 unfold raiseStmt
 refine wpAny_bind (wpAny_mono h (fun v s1 h1=>?_) fun _ _ x=>x)
 obtain⟨e,d',t,rfl,h1⟩:=h1
 refine wpAny_bind (wpAny_holding (wpAny_mono h1 (fun cv s2 h2=>wpAny_bind (wpAny_pure ?_)) fun _ _ x=>x))
 obtain⟨rfl,ne,⟨nm,q,N,bs,hdct,sn,sub,ab,col,dd,k0,k1,k2,k3,k5,newId,hC⟩,he,neC,⟨vs,sl,dd',ha,ha2⟩,hE⟩:=h2
 obtain⟨hp,g,d,tk,os⟩:=s2
 repeat (first |with_reducible refine wpAny_loadPart_at he ?_ |with_reducible refine wpAny_loadPart_at ha ?_ |with_reducible refine wpAny_loadPart_at hC ?_ |(with_reducible refine wpAny_isSubtype_exc hC ?_;rw [hcB]) |wp_step)
 have e1:(hp.update e (Obj.mapFields fun x=>x.setIfInBounds 3 (Value.ref ea))).get? e=some (xob C d' #[.ref t,.none,.none,.ref ea,.bool false,.none] #[]):=Z0O _ he rfl
 have e2:((hp.update e (Obj.mapFields fun x=>x.setIfInBounds 3 (Value.ref ea))).update e (Obj.mapFields fun x=>x.setIfInBounds 4 (Value.bool true))).get? e=some (xob C d' #[.ref t,.none,.none,.ref ea,.bool true,.none] #[]):=Z0O _ e1 rfl
 have oth:∀ b,b≠e→((hp.update e (Obj.mapFields fun x=>x.setIfInBounds 3 (Value.ref ea))).update e (Obj.mapFields fun x=>x.setIfInBounds 4 (Value.bool true))).get? b=hp.get? b:=fun b hb=>(Z0G _ _ (Ne.symm hb)).trans (Z0G _ _ (Ne.symm hb))
 generalize (hp.update e (Obj.mapFields fun x=>x.setIfInBounds 3 (Value.ref ea))).update e (Obj.mapFields fun x=>x.setIfInBounds 4 (Value.bool true))=h2 at e2 oth ⊢
 have ha':h2.get? ea=some (xob C dd' vs sl):=(oth ea ne.symm).trans ha
 unfold raiseNew
 refine wpAny_bind (wpAny_handled ?_)
 rw [hh]
 have hne:(Value.ref ea != Value.ref e)=true:=by
  simp only [bne_iff_ne,ne_eq,Value.ref.injEq]
  exact ne.symm
 dsimp only
 rw [if_pos hne]
 refine wpAny_bind (wpAny_holding (runValue_entry Z8u ?_))
 unfold Builtin.«proto.unchain»
 dsimp only
 refine wpAny_bind (wpAny_field ha' rfl ha2 ?_)
 rw [if_pos (by rfl)]
 refine wpAny_pure ⟨_,rfl,?_⟩
 refine wpAny_bind (wpAny_setField (i:=2) (x:=.ref ea) e2 rfl (by show 2<6;decide) (wpAny_throw ?_))
 exact hE _ (Z0O _ e2 rfl) fun b hb=>(Z0G _ _ (Ne.symm hb)).trans (oth b hb)
end
def Z9Z(X:Cx)(E:XK):Prop:=∀ (pins:List (Addr×Obj))(σ:L2.St)(H:Hp)(s:Shared)(ea T C:Addr)(d:Option Addr)(fl:Value),Inv X pins σ H s→Fly false s.heap ea T C d fl→(H ea=none∧X.s_0.heap.get? ea=none)→(H T=none∧X.s_0.heap.get? T=none) →
 (∀ dx,d=some dx→∃ fs,H dx=some (.xd fs))→E (.ref C) d H→X.xe (.ref ea) s
section
variable{P:Program}{w:World}{K:Z0a}{mg:Str→Option Value}{base:Heap}{N:List Str}{qual:Str}{scope:Scope}{f:Addr}{cd:Value}{A:Around}{outer:List Env}{s0:Shared}{H0:Hp}{E:XK}
theorem Zav:Z9Z (cxQ false P w K mg base N qual scope f cd A outer s0 H0 E) E:=by
 intro pins σ H s ea T C d fl I hf h1 h2 hd hE
 exact Z8b I rfl rfl rfl hf h1 h2 hd hE
end
section
variable{M:Model}{A:Around}{E:Value→Shared→Prop}{s:Shared}
theorem Zab{z:Bool}{fs:List Addr}{e T C:Addr}{dx:Option Addr}{fl:Value}{fr:Option Addr}{Q:Unit→Shared→Prop}(he:Fly z s.heap e T C dx fl)
  (h:∀ h' fl',Fly z h' e T C dx fl'→Kp fs [T] s.heap h'→Q () { s with heap:=h' }):wpAny M A (setFlight (.ref e) fr) Q E s:=by
 obtain⟨⟨vs,sl,e1,e2⟩,⟨oT,ts,t1,t2,t3⟩,ne,cx⟩:=he
 have sz:=(Z0V.mp t3).1
 have oth:∀ v b,b≠T→(s.heap.update T (Obj.mapFields (·.setIfInBounds 3 v))).get? b=s.heap.get? b:=fun v b hb=>Z0G _ _ (Ne.symm hb)
 unfold setFlight
 refine wpAny_bind (wpAny_field e1 rfl e2 ?_)
 rw [if_pos (show(Value.ref T != Value.none)=true by simp)]
 refine wpAny_setField t1 t2 sz (h _ _ ⟨⟨vs,sl,(oth _ e ne.symm).trans e1,e2⟩,⟨_,_,Z0O _ t1 (Obj.isFreed_of_fields (Obj.data_mapFields t2 _)),Obj.data_mapFields t2 _,by simp [sz];rfl⟩,ne,fun hz o vs q=>cx hz o vs ((oth _ e ne.symm).symm.trans q)⟩ ⟨?_,?_⟩)
 ·exact fun b o q n1 _=>(oth _ b fun z=>n1 (by rw [z];exact Z0l.mpr rfl)).trans q
 ·exact fun b o q n1=>⟨o.slots,(oth _ b fun z=>n1 (by rw [z];exact Z0l.mpr rfl)).trans q⟩
theorem tbNe{z:Bool}{e T C:Addr}{dx:Option Addr}{fl:Value}{Q:Value→Shared→Prop}(he:Fly z s.heap e T C dx fl)(h:Q (.ref T) s):wpAny M A (field (.ref e) 1) Q E s:=by
 obtain⟨⟨vs,sl,e1,e2⟩,_⟩:=he
 exact wpAny_field e1 rfl e2 h
theorem Fly.same{z:Bool}{L:Addr}{h h':Heap}{e T C:Addr}{dx:Option Addr}{fl:Value}(he:Fly z h e T C dx fl)(sb:Heap.SameBut L h h')(n1:e≠L)(n2:T≠L):Fly z h' e T C dx fl:=by
 obtain⟨⟨vs,sl,e1,e2⟩,⟨oT,ts,t1,t2,t3⟩,ne,cx⟩:=he
 exact⟨⟨vs,sl,(sb.2 e n1).trans e1,e2⟩,⟨oT,ts,(sb.2 T n2).trans t1,t2,t3⟩,ne,fun hz o vs q=>cx hz o vs ((sb.2 e n1).symm.trans q)⟩
end
structure AtS(z:Bool)(X:Cx)(pins:List (Addr×Obj))(σ:L2.St)(H:Hp)(s:Shared)(ea T C:Addr)(d:Option Addr):Prop where
 inv:Inv X pins σ H s
 fly:Fly z s.heap ea T C d .none
 oe:Off X pins H ea
 oT:Off X pins H T
 fe:ea∉frs X.stack
 hd:∀ dx,d=some dx→∃ fs,H dx=some (.xd fs)
theorem AtS.toH{z:Bool}{X:Cx}{pins:List (Addr×Obj)}{σ:L2.St}{H:Hp}{s:Shared}{ea T C:Addr}{d:Option Addr}(a:AtS z X pins σ H s ea T C d):AtH z X pins H s ea T C d:=⟨Inv.blank a.inv,a.fly,a.oe,a.oT,a.fe,a.hd⟩
section
variable{X:Cx}{pins:List (Addr×Obj)}{σ:L2.St}{H:Hp}{s:Shared}{C ea T i dx fI:Addr}{n x f1 f2 f3:Str}{d3:Int}{p p1 p2 pos cpos rpos:Pos}{rest:List ExceptHandler}{D:Ends}
theorem hb_asR{a1:Expr}{as:List Expr}{ta:TA}{E:XK}(a:AtS true X pins σ H s ea T C (some dx))(TI:XInit X.K C fI f1 f2 f3 d3)(hst:X.stack=X.env::X.outer)(hfr:X.env.frame=some X.env.locals)(hex:X.ex=[])(hdp:X.A.depth+1<recursionLimit)
  (hg:Gl X x)(hm:X.mg x=some (.ref C))(hN:X.N.Nodup)(hi:X.N[i]?=some n)(hl:X.env.scope.names.lookup n=some .local)(hx:Z9Z X E)
  (ha:∀ ea,PA (XS X ea) (a1::as) ta)(hE:∀ ea,H ea=none→ea≠dx→ta (σ.set i (some (.ref ea))) (upd H ea (XE true ea C dx)) fun vs H1=>H1 ea=some (XE true ea C dx) ∧
    ∃ v1 v2 v3,Arg3 d3 vs v1 v2 v3∧∀ dx2,H1 dx2=none→E (.ref C) (some dx2) (upd H1 dx2 (.xd [(f3,v3),(f2,v2),(f1,v1)])))(hdb:(x==("__debug__" : Str))=false:=by decide)(hdn:(n==("__debug__" : Str))=false:=by decide)(hcn:(n==("__classdict__" : Str))=false:=by decide)
  (he:starEach (a1::as) X.env=(false,eval a1 X.env)::starEach as X.env:=by rfl)(hpl:(backTo cpos (starEach as X.env)).any (·.1)=false:=by rfl) :
  wpAny (model X.prog X.w) X.A (handleBy (.ref ea) X.env (.ExceptHandler (some (.Name x p)) (some n) [.Raise (some (.Call (.Name x p1) (a1::as) [] cpos)) (some (.Name n p2)) rpos] pos::rest)) (SP X pins D) X.xe s:=by
 refine wpAny_handleBy_cons (codeAny_handlers_test (Z3r (X:=XS X ea) (Inv.toS a.inv ea) hg hm (hit a.toH TI.c.k1 ?_) hdb)) (by intro z;cases z)
 refine codeAny_handlers_suite_as ?_
 refine land_ (fs:=frs X.stack) a.fly fun h3 f3' k3'=>?_
 have a3:Inv X pins σ H { s with heap:=h3 }:=Z4q a.inv hst hfr hex k3' (fun b hb=>by rw [Z0l.mp hb];exact a.oT)
 obtain⟨vs3,sl3,e3,_⟩:=f3'.obj
 have I4:=track (a:=ea) (o:=XE true ea C dx) a3 ⟨a.oe.hn,a.oe.h0,a.oe.hL,a.oe.hc,a.oe.hp,a.fe⟩ (xe_ok ⟨vs3,sl3,e3,fun hz=>f3'.cx hz _ _ e3 rfl⟩)
 have hd:ea≠dx:=fun z=>by
  obtain⟨fs,hf⟩:=a.hd dx rfl
  rw [←z,a.oe.hn]at hf
  cases hf
 have hib:i<σ.length:=by rw [a.inv.len];exact(Z0r.mp hi).1
 refine Z5X (X:=XS X ea) (v:=.ref ea) (Inv.toS I4 ea) hN hi (.inl hl) rfl (fun s5 I5=>?_) (.inr hl)
 refine wpAny_execs_cons ?_
 rw [arm_exec_Raise]
 refine wpAny_bind (wpAny_standAt (Zay (C:=C) (ea:=ea) rfl ?_))
 have key:wpAny (model X.prog X.w) (XS X ea).A (eval (.Call (.Name x p1) (a1::as) [] cpos) X.env) (fun v s1=>∃ e2 dx2 t H2,v=.ref e2∧Inv (XS X ea) pins (σ.set i (some (.ref ea))) H2 s1∧s1.heap.get? e2=some (xob C (some dx2) (Z5c t) #[])∧New (XS X ea) pins H2 e2 ∧
   H2 ea=some (XE true ea C dx)∧(∃ fs,H2 dx2=some (.xd fs))∧E (.ref C) (some dx2) H2) (fun _ _=>False) s5:=by
  refine wpAny_Call_Name_kw (Z3r I5 hg hm ?_ hdb)
  refine Z0Z (h₀:=X.base) I5.ok.mod.kin TI.c.kp (thn (ha ea cpos pins s5 _ _ _ I5 (hE ea a.oe.hn hd)) fun us s1 ⟨vs,H1,I1,r,hea,v1,v2,v3,hv,q⟩=>⟨I1.kIn,?_⟩) he hpl
  refine Z9p I1.kIn I1.nolimit TI hdp hv r fun h' e dx2 t tk u1 u2 u3 r1 r2 r3 b1 b2 b3 b4 b5 b6=>⟨e,dx2,t,upd H1 dx2 (.xd [(f3,v3),(f2,v2),(f1,v1)]),rfl,?_⟩
  have Ne:=Z3u I1 hex b3
  have Nd:=Z3u I1 hex b4
  have I2:Inv (XS X ea) pins _ H1 { s1 with heap:=h',toks:=tk }:=I1.kept b6
  have I3:=track (o:=.xd [(f3,v3),(f2,v2),(f1,v1)]) I2 Nd ⟨_,b2,fun f=>Z9V r1 r2 r3 f⟩
  refine⟨I3,b1,⟨by rw [Z2m b5.symm];exact Ne.hn,Ne.h0,Ne.hL,Ne.hc,Ne.hp,Ne.hf⟩,?_,⟨_,Z2n⟩,q dx2 Nd.hn⟩
  rw [Z2m fun z=>?_]
  ·exact hea
  ·rw [z,Nd.hn]at hea
   cases hea
 refine wpAny_bind (wpAny_mono key (fun v s1 h1=>wpAny_bind (wpAny_standAt (wpAny_pure ?_))) fun _ _ z=>z.elim)
 obtain⟨e2,dx2,t,H2,rfl,I2,b1,Ne,hea,hdx,hq⟩:=h1
 refine⟨e2,some dx2,t,rfl,?_⟩
 have ld:∀ {E':Value→Shared→Prop}{Q:Value→Shared→Prop},Q (.ref ea) s1→wpAny (model X.prog X.w) (XS X ea).A (eval (.Name n p2) X.env) Q E' s1:=fun{E' Q} hQ=>by
  obtain⟨m,hn,hlo⟩:=I2.loc
  obtain⟨u,r,l⟩:=hlo i n (.ref ea) hi (by rw [Z1w hib]) (.inl hl)
  obtain rfl:u=.ref ea:=r
  rcases l with⟨hk,hmm⟩ |⟨hk,c,hc,hcell⟩
  ·exact wpAny_Name (wpAny_loadName_local I2.ok.kind hk hn hmm hQ) hdn
  ·rcases hk with hk |hk
   ·exact wpAny_Name (wpAny_loadName_cell I2.ok.kind hk hc hcell hQ) hdn
   ·exact wpAny_Name (wpAny_loadName_free I2.ok.kind hk hc hcell hQ hcn) hdn
 have nea:e2≠ea:=fun z=>by
  rw [←z,Ne.hn]at hea
  cases hea
 obtain⟨⟨vs2,sl2,ea1,ea2⟩,_⟩:=(show ObjOk X.prog X.w H2 s1.heap ea (XE true ea C dx)from I2.hok ea _ hea)
 have cls:∃ nm q N bs hdct sn sub ab col dd k0 k1 k2 k3 k5 newId,s1.heap.get? C=some (excClassObj nm q C N bs bmX hdct sn sub ab col dd k0 k1 k2 k3 k5 newId):=by
  obtain⟨nm,q,N,bs,sn,sub,ab,col,dd,k0,k1,k2,k3,k5,m,c1,_⟩:=TI.c.at I2.kIn
  exact⟨nm,q,N,bs,true,sn,sub,ab,col,dd,k0,k1,k2,k3,k5,_,c1⟩
 have neC:C≠e2:=fun z=>by
  obtain⟨nm,q,N,bs,hdct,sn,sub,ab,col,dd,k0,k1,k2,k3,k5,newId,hC⟩:=cls
  rw [z,b1]at hC
  cases hC
 refine wpAny_bind (ld (wpAny_bind (wpAny_standAt (wpAny_pure ⟨rfl,nea,cls,b1,neC,⟨vs2,sl2,_,ea1,ea2 rfl⟩,fun h' q1 q2=>?_⟩))))
 have k6:Kp (frs X.stack) [e2] s1.heap h':=⟨fun b o q n1 _=>(q2 b fun z=>n1 (by rw [z];exact Z0l.mpr rfl)).trans q,fun b o q n1=>⟨o.slots,(q2 b fun z=>n1 (by rw [z];exact Z0l.mpr rfl)).trans q⟩⟩
 have Oe:Off (XS X ea) pins H2 e2:=Ne.off
 have I6:Inv (XS X ea) pins (σ.set i (some (.ref ea))) H2 { s1 with heap:=h' }:=Z4q I2 hst hfr hex k6 fun b hb=>by rw [Z0l.mp hb];exact Oe
 have hF:(X.A.mark (some (.ref ea))).frames=some (X.env::X.outer):=by rw [←hst];exact I6.ok.frames
 have hL6:h'.FunFrames X.base (X.env::X.outer):=by rw [←hst];exact I6.stack
 refine Z7v (z:=false) (s:={ s1 with heap:=h' }) hF hL6 hfr ⟨_,_,q1,rfl,fun z=>by cases z⟩ fun h7 T7 f7 n7 k7=>?_
 have k7:Kp (frs X.stack) [e2] h' h7:=by rw [hst];exact k7
 have I7:Inv (XS X ea) pins (σ.set i (some (.ref ea))) H2 { s1 with heap:=h7 }:=Z4q (s:={ s1 with heap:=h' }) I6 hst hfr hex k7 fun b hb=>by rw [Z0l.mp hb];exact Oe
 have N7:=Z3u I6 hex n7
 obtain⟨m7,hn7,_⟩:=I7.loc
 refine wpAny_nameGoes hl hn7 (by rw [a.inv.ok.kind];rfl) fun h8 m8 n8 sb8=>?_
 have I8:Inv (XS X ea) pins (EX.blank (XS X ea)) H2 { s1 with heap:=h8,toks:=s1.toks+1 }:=Z8S (s:={ s1 with heap:=h7 }) I7 n8 sb8
 have f8:Fly false h8 e2 T7 C (some dx2) (rawInt X.env.locals):=f7.same sb8 Ne.hL N7.hL
 unfold PySem.passOn
 refine wpAny_bind (tbNe (s:={ s1 with heap:=h8,toks:=s1.toks+1 }) f8 ?_)
 rw [if_neg (show ¬ ((Value.ref T7==Value.none)=true) by simp)]
 refine wpAny_bind (Zab (fs:=frs X.stack) (s:={ s1 with heap:=h8,toks:=s1.toks+1 }) f8 fun h9 fl9 f9 k9=>wpAny_throw ?_)
 have I9:Inv (XS X ea) pins (EX.blank (XS X ea)) H2 { s1 with heap:=h9,toks:=s1.toks+1 }:=Z4q (s:={ s1 with heap:=h8,toks:=s1.toks+1 }) I8 hst hfr hex k9 fun b hb=>by rw [Z0l.mp hb];exact N7.off
 have hL9:h9.FunFrames X.base (X.env::X.outer):=by rw [←hst];exact I9.stack
 refine Z7a (s:={ s1 with heap:=h9,toks:=s1.toks+1 }) hF hL9 hfr f9 fun h10 T10 f10 n10 k10=>?_
 have k10:Kp (frs X.stack) [T7,e2] h9 h10:=by rw [hst];exact k10
 have O10:Off (XS X ea) pins H2 T10:=by
  rcases n10 with rfl |n10
  ·exact N7.off
  ·exact(Z3u I9 hex n10).off
 have I10:Inv (XS X ea) pins (EX.blank (XS X ea)) H2 { s1 with heap:=h10,toks:=s1.toks+1 }:=Z4q (s:={ s1 with heap:=h9,toks:=s1.toks+1 }) I9 hst hfr hex k10 fun b hb=>by
  rcases Z0e.mp hb with rfl |hb
  ·exact N7.off
  ·rw [Z0l.mp hb];exact Oe
 show cameBackBy _ _ _ _ _ _
 unfold cameBackBy
 refine wpAny_bind (tbNe (s:={ s1 with heap:=h10,toks:=s1.toks+1 }) f10 ?_)
 rw [if_neg (show ¬ ((Value.ref T10==Value.none)=true) by simp)]
 refine Zab (fs:=frs X.stack) (s:={ s1 with heap:=h10,toks:=s1.toks+1 }) f10 fun h11 fl11 f11 k11=>?_
 have I11:Inv (XS X ea) pins (EX.blank (XS X ea)) H2 { s1 with heap:=h11,toks:=s1.toks+1 }:=Z4q (s:={ s1 with heap:=h10,toks:=s1.toks+1 }) I10 hst hfr hex k11 fun b hb=>by rw [Z0l.mp hb];exact O10
 exact hx pins _ H2 _ e2 T10 C (some dx2) fl11 (Inv.ofS a.inv.ok I11) f11 ⟨Ne.hn,Ne.h0⟩ ⟨O10.hn,O10.h0⟩ (fun dx' z=>by cases z;exact hdx) hq
def tTryS(sp:Sp)(W:Ends→L2.St→XK)(t:TA):TS:=fun D σ H=>t σ H fun vs H1=>sp vs H1 D.rt (W D σ)
theorem ps_tryS{z:Bool}{k:Nat}{f:Addr}{fd:FuncData}{ps:List Str}{sp:Sp}{y:Str}{q1 q2 q3 tpos:Pos}{e:Expr}{es:List Expr}{t:TA}{h0:ExceptHandler}{hs:List ExceptHandler}{W:Ends→L2.St→XK}
  (F:FnOk X.prog X.w X.K X.mg X.base (CXQ z X.prog X.w) k f fd ps sp)(hr:Room k X.A)(hg:Gl X y)(hm:X.mg y=some (.ref f))(hk:PySem.W.keepIn X.K (.ref f)=true)(hb:Binds X.K fd ps [])
  (hst:X.stack=X.env::X.outer)(hfr:X.env.frame=some X.env.locals)(hex:X.ex=[])(ha:∀ (pins:List (Addr×Obj))(E1:Value→Shared→Prop),PA (XB X pins E1) (e::es) t)
  (hh:∀ (pins:List (Addr×Obj))(D:Ends)(σ:L2.St)(H:Hp)(s:Shared)(ea T C:Addr)(d:Option Addr),AtS z X pins σ H s ea T C d→W D σ (.ref C) d H→wpAny (model X.prog X.w) X.A (handleBy (.ref ea) X.env (h0::hs)) (SP X pins D) X.xe s)
  (hdb:(y==("__debug__" : Str))=false:=by decide)(he:starEach (e::es) X.env=(false,eval e X.env)::starEach es X.env:=by rfl)(hpl:(backTo q2 (starEach es X.env)).any (·.1)=false:=by rfl) :
  PS X (.Try [.Return (some (.Call (.Name y q1) (e::es) [] q2)) q3] (h0::hs) [] [] tpos) (tTryS sp W t):=by
 intro pins s σ H D I h
 have hok:=I.ok
 refine wpAny_Try_except (wpAny_execs_cons (wpAny_Return_some ?_))
 generalize hxe:(fun e s1=>wpAny (model X.prog X.w) X.A (noteFrame e X.env) (fun _ s2=>wpAny (model X.prog X.w) X.A (setFlight e none) (fun _ s3=>wpAny (model X.prog X.w) X.A (handleBy e X.env (h0::hs)) (SP X pins D) X.xe s3) X.xe s2) X.xe s1)=xe
 have I':=Inv.toB I xe
 refine wpAny_Call_Name_kw (Z3r (X:=XB X pins xe) I' hg hm ?_ hdb)
 refine Z0Z (h₀:=X.base) I'.ok.mod.kin hk (thn (ha pins xe q2 [] s σ H _ I' h) fun us s1 hq=>?_) he hpl
 obtain⟨vs,H1,I1,r,q⟩:=hq
 refine⟨I1.kIn,?_⟩
 have hl:us.length=ps.length:=by rw [←r.length];exact F.len _ _ _ _ q
 have hb':=hb s1 us I1.kIn (by rw [Z0F];exact hl)
 rw [Z0F]at hb'
 have J1:Inv X pins σ H1 s1:=Inv.ofB hok I1
 refine wpAny_call (codeAny_mono (F.run X.A X.stack s1 H1 ⟨us,[]⟩ us vs D.rt (W D σ) hr J1.env0 hb' r q) fun r s' hq=>?_)
 cases r with
 |error e =>
  obtain⟨ea,T,C',d,H2,rfl,h1,h2,h3,h4,h5,h6,h7,h8,h9,h10,h11⟩:=hq
  show xe _ _
  rw [←hxe]
  have J2:Inv X pins σ H2 s':=J1.call' (ch:=[]) h1 h3 h4 h2 (fun b z=>absurd z (by simp))
  have Ne:=Z3u J1 hex h8
  have NT:=Z3u J1 hex h9
  have hF:X.A.frames=some (X.env::X.outer):=by rw [←hst];exact J2.ok.frames
  have hL:s'.heap.FunFrames X.base (X.env::X.outer):=by rw [←hst];exact J2.stack
  refine Z6p hF hL hfr h5 fun g1 T1 f1 nT k1=>?_
  rw [←hst]at k1
  refine land_ (fs:=frs X.stack) (s:={ s' with heap:=g1 }) f1 fun g2 f2 k2=>?_
  have oe:Off X pins H2 ea:=⟨h6,Ne.h0,Ne.hL,Ne.hc,Ne.hp⟩
  have oT1:Off X pins H2 T1:=(Z3u J2 hex nT).off
  have J3:Inv X pins σ H2 { s' with heap:=g2 }:=Z4q J2 hst hfr hex (k1.trans k2) fun b hb=>by
   rcases Z0m.mp hb with hb |hb
   ·rcases Z0e.mp hb with rfl |hb
    ·exact⟨h7,NT.h0,NT.hL,NT.hc,NT.hp⟩
    ·rw [Z0l.mp hb];exact oe
   ·rw [Z0l.mp hb];exact oT1
  exact hh pins D σ H2 _ ea T1 C' d ⟨J3,f2,oe,oT1,Ne.hf,h10⟩ h11
 |ok fl =>
  cases fl with
  |ret u =>
   obtain⟨v,H2,J2,rv,q2⟩:=J1.after hq
   exact⟨v,σ,H2,J2,rv,q2⟩
  |next=>exact False.elim hq
  |brk=>exact False.elim hq
  |cont=>exact False.elim hq
end
end EX
end
section
namespace L2
open PySem PySem.Spec PyProof.Rows EX
section
variable{X:Cx}
theorem lcx_core{pins:List (Addr×Obj)}{s:Shared}{σ:St}{H:Hp}{Q:VK}{elt tg iter:Expr}{ifs:List Expr}{scope:Scope}{own:List (Str×Nat)}{pos pos':Pos}{wi:TI}{g:TG}{tt:TT}{te:TE}{use:Option (Value→Sem Unit)}{Qf:Value→Shared→Prop}
  {z:Bool}{E:XK}(hst:X.stack=X.env::X.outer)(hfr:X.env.frame=some X.env.locals)(hex:X.ex=[])
  (hxe:∀ e s',wpAny (model X.prog X.w) X.A (leaving X.env e) (fun _ s''=>CXQ z X.prog X.w X.outer X.H_0 X.s_0 E e s'') (fun e' s''=>CXQ z X.prog X.w X.outer X.H_0 X.s_0 E e' s'') s'→X.xe e s')
  (hc:X.calm=true)(hN:X.N.Nodup)(I:Inv X pins σ H s)(hi:PI X tg iter wi)(ok:BlkOk X.N X.env.scope scope own)
  (hg:∀ (s:Shared)(H:Hp)(C:Addr)(cl:List (Str×Addr))(fp:List Addr)(xe:Value→Shared→Prop),PG (X.blk s H scope (compEnvC scope cl C X.env) fp |>.wish xe) tg g)(ht:∀ (s:Shared)(H:Hp)(C:Addr)(cl:List (Str×Addr))(fp:List Addr)(xe:Value→Shared→Prop),PTs (X.blk s H scope (compEnvC scope cl C X.env) fp |>.wish xe) ifs tt)
  (he:∀ (s:Shared)(H:Hp)(C:Addr)(cl:List (Str×Addr))(fp:List Addr)(xe:Value→Shared→Prop),Z3g (CXQ z X.prog X.w) (X.blk s H scope (compEnvC scope cl C X.env) fp |>.wish xe) E→PE (X.blk s H scope (compEnvC scope cl C X.env) fp |>.wish xe) elt te)(hs:∀ x,foldedSetIterable iter X.env x=pure x)
  (h:tLc wi g tt te (own.map (·.2)) σ H Q)
  (hRR:∀ D C s' m H',Inv X pins σ H' s'→Q (.ref D) H'→s'.heap.Ns C m→FpOk X pins H' C→compPost (model X.prog X.w) X.A X.xe use Qf (.ref D) C (.ok .next) s') :
  wpAny (model X.prog X.w) X.A (comprehension (.ListComp elt [⟨tg,iter,ifs,0⟩] scope pos) scope X.env pos' (newList []) false (eval iter X.env) use) Qf X.xe s:=by
 have hfree:∀ y∈scope.names,y.2=.free→∃ c,X.env.cells.lookup y.1=some c:=fun y hy e=>by
  rcases ok.free y hy e with k |k
  ·exact I.ok.has _ (.inl k)
  ·exact I.ok.has _ (.inr k)
 refine wpAny_comprehension_free (use:=use) rfl hs (Z5Z hfree) ok.kind (fun y hy e=>by rw [ok.uniq y hy,e])
  (thn (hi pins s σ H _ I h) fun xv s1 hx=>thn hx fun itv s2 h2=>?_)
 obtain⟨it,fp,tn,J,H2,e,I2,T,st2,f2,q⟩:=h2
 subst e
 refine wpAny_newObj_type (Z6Q ?_) (by show 0≤sizeLine;decide)
 generalize hD:s2.heap.objs.size=D
 have hDn:H2 D=none:=I2.hok.fresh (Z0Y hD)
 obtain⟨W,⟨m0,w0⟩,turn⟩:=q D hDn
 generalize hs3:({ s2 with heap:=s2.heap.push { cls:=.type "list",data:=.seq ([]:List Value).toArray } }:Shared)=s3
 have I3:Inv X pins σ (upd H2 D (.lst [])) s3:=by
  rw [←hs3]
  refine I2.laid (t':=s2.toks) (fun b o e=>Z0n _ e) (Z0Y hD) ⟨Z0p _,[],0,.nil,?_⟩
  rw [←hD]
  exact Z0E _ rfl
 have h3:s3.heap=s2.heap.push { cls:=.type "list",data:=.seq ([]:List Value).toArray }:=by rw [←hs3]
 have sz:∀ b∈fp,b<s2.heap.objs.size:=fun b hb=>by
  obtain⟨o,e,_⟩:=T.obj _ _ st2 b hb
  exact Z0f e
 have f3:∀ b∈fp,FpOk X pins (upd H2 D (.lst [])) b∧b<s3.heap.objs.size:=fun b hb=>by
  have hlt:=sz b hb
  refine⟨⟨?_,(f2 b hb).2⟩,by rw [h3,Z0I];exact Z1x hlt⟩
  rw [Z2m (by rw [←hD];exact Z0o hlt)]
  exact(f2 b hb).1
 have st3:tn 0 s3.heap:=T.keep _ _ _ st2 fun b _ o e=>by rw [h3];exact Z0n _ e
 have I4:=Z6N I3 ok hN f3
 have pg:=hg s3 (upd H2 D (.lst [])) s3.heap.objs.size (cellsFrom (s3.heap.objs.size+1) scope.names (Z2C X.env.cells scope.names [])) fp
 have pt:=ht s3 (upd H2 D (.lst [])) s3.heap.objs.size (cellsFrom (s3.heap.objs.size+1) scope.names (Z2C X.env.cells scope.names [])) fp
 have pe:=he s3 (upd H2 D (.lst [])) s3.heap.objs.size (cellsFrom (s3.heap.objs.size+1) scope.names (Z2C X.env.cells scope.names [])) fp
 show codeAny _ _ (.compStart (.ListComp elt [⟨tg,iter,ifs,0⟩] scope pos) 0 (.ref it) (.ref D) (compEnvC scope (cellsFrom (s3.heap.objs.size+1) scope.names (Z2C X.env.cells scope.names [])) s3.heap.objs.size X.env)) (compPost (model X.prog X.w) X.A X.xe use Qf (.ref D) s3.heap.objs.size) { s3 with heap:=pushCells (s3.heap.push { cls:=.type "dict",data:=.dict #[] }) scope.names }
 have nfp:∀ b∈fp,(upd H2 D (.lst [])) b=none:=fun b hb=>(f3 b hb).1.1
 generalize hce:compEnvC scope (cellsFrom (s3.heap.objs.size+1) scope.names (Z2C X.env.cells scope.names [])) s3.heap.objs.size X.env=ce at I4 pg pt pe ⊢
 have cL:ce.locals=s3.heap.objs.size:=by subst hce;rfl
 generalize hH3:upd H2 D (.lst [])=H3 at I3 I4 pg pt pe w0 nfp f3
 generalize hs4:({ s3 with heap:=pushCells (s3.heap.push { cls:=.type "dict",data:=.dict #[] }) scope.names }:Shared)=s4 at I4 ⊢
 have st4:tn 0 s4.heap:=T.keep _ _ _ st3 fun b _ o e=>by rw [←hs4];exact pushCells_keeps _ _ _ _ (Z0n _ e)
 generalize hxB:(notedBy (model X.prog X.w) X.A ce fun e s'=>compPost (model X.prog X.w) X.A X.xe use Qf (.ref D) s3.heap.objs.size (.error e) s')=xB
 have hpass:Z3g (CXQ z X.prog X.w) ((X.blk s3 H3 scope ce fp).wish xB) E:=by
  rw [←hxB]
  exact blk_exc I3 hst hfr hex hxe f3 (by subst hce;rfl) cL
 have stat:∀ {σ':St}{H':Hp}{s':Shared},Inv (X.blk s3 H3 scope ce fp) [] σ' H' s'→(∀ b∈fp,H' b=none)→∀ b∈fp,FpOk (X.blk s3 H3 scope ce fp) [] H' b:=fun{σ' H' s'} I' hn b hb =>
  ⟨hn b hb,(I'.ok.exf b hb).1,I'.ok.exfs b hb,.inl hb,fun x c e=>(I'.ok.exf b hb).2 x c e,fun p hp=>absurd (show p∈([]:List (Addr×Obj))++[]from hp) (by simp)⟩
 have loop:codeAny (model X.prog X.w) X.A (.compLoop (.ListComp elt [⟨tg,iter,ifs,0⟩] scope pos) 0 (.ref it) (.ref D) ce) (compPost (model X.prog X.w) X.A X.xe use Qf (.ref D) s3.heap.objs.size) s4:=by
  refine Z6u (fun n s'=>∃ i H',Inv (X.blk s3 H3 scope ce fp) [] (wipe σ (own.map (·.2))) H' s'∧tn i s'.heap∧(∀ b∈fp,H' b=none)∧W i n H') ?_ m0 ⟨0,H3,I4,st4,nfp,w0⟩
  rintro n s5 ⟨i,H5,I5,st5,n5,w5⟩
  rcases turn i n H5 w5 with⟨stop,qq⟩ |⟨go,Nx,hNx,step⟩
  ·have td:=T.done (X.blk s3 H3 scope ce fp) rfl rfl rfl hc i [] s5 _ H5 (fun _ _=>False) I5 (stat I5 n5) st5 stop
   refine thnF td fun r s6 ⟨hr,I6⟩=>?_
   subst hr
   have I7:Inv X pins σ H5 s6:=I3.call' (ch:=fp) I6.os I6.base I6.hok I6.bare fun b hb=>⟨(f3 b hb).1.2.2.2.1,(f3 b hb).1.2.1,(f3 b hb).1.2.2.2.2.1,(f3 b hb).1.2.2.2.2.2⟩
   have nC:H5 s3.heap.objs.size=none:=by
    have z:H5 ce.locals=none:=I6.free
    rw [cL]at z
    exact z
   obtain⟨m,hn,_⟩:=I6.loc
   have hn:s6.heap.Ns ce.locals m:=hn
   rw [cL]at hn
   exact hRR D s3.heap.objs.size s6 m H5 I7 qq hn (I3.fpOk (Z0d _) nC)
  ·have ti:=T.item (X.blk s3 H3 scope ce fp) rfl rfl rfl hc i [] s5 _ H5 (fun _ _=>False) I5 (stat I5 n5) st5 go
   refine thnF ti fun r s6 ⟨u,hr,h6⟩=>?_
   subst hr
   refine thnF h6 fun _ s7 ⟨x,H7,I7,r7,y7,st7,n7⟩=>?_
   have I7':=I7.pinned (stat I7 n7) (T.obj _ _ st7)
   rw [hxB]
   refine wpAny_mono (pg xB _ s7 _ H7 x u _ (I7'.wish xB) r7 (step x H7 y7)) (fun _ s8 ⟨σ8,H8,I8,hw8,q8⟩=>?_) fun _ _ z=>z
   refine wpAny_mono (pt xB _ s8 σ8 H8 _ I8 q8) (fun b s9 ⟨H9,I9,q9⟩=>?_) fun _ _ z=>z
   have fin:∀ {s':Shared}{H':Hp},Inv (X.blk s3 H3 scope ce fp) ([]++Z5B fp s7.heap) σ8 H' s'→Nx H'→∃ m,m<n∧∃ i H',Inv (X.blk s3 H3 scope ce fp) [] (wipe σ (own.map (·.2))) H' s'∧tn i s'.heap∧(∀ b∈fp,H' b=none)∧W i m H':=fun{s' H'} I' nx=>by
    obtain⟨m',hm,w'⟩:=hNx H' nx
    have pin':∀ b∈fp,∀ o,s7.heap.get? b=some o→s'.heap.get? b=some o∧H' b=none:=fun b hb o e =>
     let z:=I'.pin (b,o) (Z0L _ (Z0L _ (Z4P hb e)))
     ⟨z.1,z.2.1⟩
    have hl:(wipe σ (own.map (·.2))).length=σ8.length:=by rw [←hw8,Z4D]
    refine⟨m',hm,i+1,H',(I'.unpinned (pins:=[])).weak hl (fun j v e=>?_),T.keep _ _ _ st7 fun b hb o e=>(pin' b hb o e).1,fun b hb=>?_,w'⟩
    ·rw [←hw8]at e
     exact(Z5q e).1
    ·obtain⟨o,e,_⟩:=T.obj _ _ st7 b hb
     exact(pin' b hb o e).2
   cases b with
   |false =>
    simp only [Bool.false_eq_true,if_false]at q9 ⊢
    exact fin I9.unwish q9
   |true =>
    simp only [if_true]at q9 ⊢
    refine wpAny_mono (pe xB hpass _ s9 σ8 H9 _ I9 q9) (fun z s10 ⟨yv,H10,I10,r10,acc,hD10,hz10,nx⟩=>?_) fun _ _ z=>z
    exact app_ok (X:=X.blk s3 H3 scope ce fp) I10.unwish hD10 hz10 r10 fun s11 I11=>fin I11 nx
 exact codeAny_compStart_list loop (T.self X.A 0 _ _ _ st4 loop)
theorem Z6i{i:Nat}{y:Str}{py:Pos}{elt tg iter:Expr}{ifs:List Expr}{scope:Scope}{own:List (Str×Nat)}{pos spos:Pos}{wi:TI}{g:TG}{tt:TT}{te:TE}{z:Bool}{E:XK}(hst:X.stack=X.env::X.outer)(hfr:X.env.frame=some X.env.locals)(hex:X.ex=[])
  (hxe:∀ e s',wpAny (model X.prog X.w) X.A (leaving X.env e) (fun _ s''=>CXQ z X.prog X.w X.outer X.H_0 X.s_0 E e s'') (fun e' s''=>CXQ z X.prog X.w X.outer X.H_0 X.s_0 E e' s'') s'→X.xe e s')
  (hc:X.calm=true)(hN:X.N.Nodup)(hy:X.N[i]?=some y)(hyl:X.env.scope.names.lookup y=some .local)
  (hsw:swapsWith (.ListComp elt [⟨tg,iter,ifs,0⟩] scope pos) (some (.Name y py)) spos.line X.env=pure true)(hi:PI X tg iter wi)(ok:BlkOk X.N X.env.scope scope own)
  (hg:∀ (s:Shared)(H:Hp)(C:Addr)(cl:List (Str×Addr))(fp:List Addr)(xe:Value→Shared→Prop),PG (X.blk s H scope (compEnvC scope cl C X.env) fp |>.wish xe) tg g)(ht:∀ (s:Shared)(H:Hp)(C:Addr)(cl:List (Str×Addr))(fp:List Addr)(xe:Value→Shared→Prop),PTs (X.blk s H scope (compEnvC scope cl C X.env) fp |>.wish xe) ifs tt)
  (he:∀ (s:Shared)(H:Hp)(C:Addr)(cl:List (Str×Addr))(fp:List Addr)(xe:Value→Shared→Prop),Z3g (CXQ z X.prog X.w) (X.blk s H scope (compEnvC scope cl C X.env) fp |>.wish xe) E→PE (X.blk s H scope (compEnvC scope cl C X.env) fp |>.wish xe) elt te)(hs:∀ x,foldedSetIterable iter X.env x=pure x:=by intro _;rfl) :
  PS X (.Assign [.Name y py] (.ListComp elt [⟨tg,iter,ifs,0⟩] scope pos) spos) (tAsg (tLc wi g tt te (own.map (·.2))) (gName i)):=by
 intro pins s σ H D I h
 rw [exec_Assign_Name_used _ _ _ _ hsw]
 refine wpAny_bind (wpAny_standAt (wpAny_bind ?_))
 show wpAny _ X.A (do let _ ←comprehension (.ListComp elt [⟨tg,iter,ifs,0⟩] scope pos) scope X.env (firstIterPos [⟨tg,iter,ifs,0⟩] pos) (newList []) false (eval iter X.env) (some (assign (.Name y py) X.env))) _ _ s
 have h:tLc wi g tt te (own.map (·.2)) σ H (fun x H1=>gName i x σ H1 D.nx):=h
 refine wpAny_bind (thn (lcx_core (Qf:=fun _ s'=>SP X pins D .next s') hst hfr hex hxe hc hN I hi ok hg ht he hs h fun L C s' m H' I' q hn f=>?_) fun _ s' hq=>wpAny_pure (wpAny_pure hq))
 show wpAny _ _ (assign (.Name y py) X.env (.ref L)) _ _ _
 refine wpAny_assign_Name (Z6r (v:=V.ref L) I' hN hy (.inl hyl) rfl (fun s2 I2 ⟨a,sb,ha⟩=>?_) (.inr hyl))
 obtain⟨f0,f1,f2,f3,f4,f5⟩:=f
 have haC:C≠a:=by
  rcases ha with z |z
  ·rw [z];exact f1
  ·exact fun e=>f4 y a z e.symm
 refine⟨m,hn.sameBut sb haC,fun h3 sb3=>?_⟩
 exact⟨_,H',I2.turned (t':=s2.toks) (fun b o hb e=>(sb3.2 b hb).trans e) f0 f1 f3 f4 f5,q⟩
end
end L2
end
section
namespace LM
open PySem PySem.Spec PyProof.Rows L2 EX
structure Lam(base:Heap)(f:Addr)(fd:FuncData)(qual:Str)(params:Arguments)(body:Expr)(scope:Scope)(cl:List (Str×Addr))(cd:Value)(N:List Str)(vs:List V):Prop where
 ex:∃ (oc:Value)(od:Option Addr)(sl:Array (Option Value))(pm ctv:Value),fd=PySem.W.kla_fn "<lambda>" qual params body scope cl pm cd ctv∧base.get? f=some ⟨oc,od,.func fd,sl⟩
 rec_:base.CodeRec cd qual
 inj:∀ x y c,cl.lookup x=some c→cl.lookup y=some c→x=y
 has:∀ x,scope.names.lookup x=some .free→∃ c,cl.lookup x=some c
 cell:∀ x c,cl.lookup x=some c→∃ v,base.IsCell c v
 at_:∀ (i:Nat) x v,N[i]?=some x→vs[i]?=some v→∃ c u,cl.lookup x=some c∧base.IsCell c (some u)∧RelV v u
 len:vs.length=N.length
structure Z7w(N:List Str)(scope:Scope):Prop where
 kind:scope.kind=.function
 co:scope.isCoroutine=false
 gen:scope.isGenerator=false
 names:∀ x∈scope.names,x.2=.free∨x.2=.globalImplicit
 free:∀ x∈N,scope.names.lookup x=some .free
def cxL(z:Bool)(P:Program)(w:World)(K:Z0a)(mg:Str→Option Value)(base:Heap)(N:List Str)(qual:Str)(scope:Scope)(f:Addr)(cd:Value)(cl:List (Str×Addr))(A:Around)(outer:List Env)(s:Shared)(H:Hp)(E:XK):Cx where
 prog:=P
 w:=w
 K:=K
 mg:=mg
 base:=base
 A:=A.deeper (PySem.W.envX qual scope s.heap.objs.size f cd cl)
 N:=N
 s_0:=s
 H_0:=H
 env:=PySem.W.envX qual scope s.heap.objs.size f cd cl
 outer:=outer
 stack:=PySem.W.envX qual scope s.heap.objs.size f cd cl::outer
 ex:=[]
 calm:=true
 fn:=fun _=>false
 pn:=[]
 xe:=fun e s'=>wpAny (model P w) (A.deeper (PySem.W.envX qual scope s.heap.objs.size f cd cl)) (leaving (PySem.W.envX qual scope s.heap.objs.size f cd cl) e) (fun _ s''=>CXQ z P w outer H s E e s'') (fun e' s''=>CXQ z P w outer H s E e' s'') s'
section
variable{P:Program}{w:World}{K:Z0a}{mg:Str→Option Value}{base:Heap}{N:List Str}{qual:Str}{scope:Scope}{f:Addr}{cd:Value}{cl:List (Str×Addr)}{A:Around}{outer:List Env}{s:Shared}{H:Hp}{E:XK}{z:Bool}
 {fd:FuncData}{params:Arguments}{body:Expr}{vs:List V}
theorem inv_lam{h1:Heap}{t:Nat}(S:Z7w N scope)(hd:A.handled=none)(e0:Env0 P w K mg base A outer s H)(L:Lam base f fd qual params body scope cl cd N vs)(hn:h1.Ns s.heap.objs.size fun _=>none)
  (hk:∀ b o,s.heap.get? b=some o→h1.get? b=some o):Inv (cxL z P w K mg base N qual scope f cd cl A outer s H E) [] (vs.map some) H { s with heap:=h1,toks:=t }:=by
 have noA:∀ b:Addr,b∉(cxL z P w K mg base N qual scope f cd cl A outer s H E).ex:=fun b z=>absurd (show b∈([]:List Addr)from z) (by simp)
 have cb:∀ {c:Addr}{v:Option Value},base.IsCell c v→s.heap.IsCell c v∧H c=none:=fun{c v} ⟨o,e1,e2⟩=>⟨⟨o,(e0.bs c o e1).1,e2⟩,(e0.bs c o e1).2⟩
 have ck:∀ {c:Addr}{v:Option Value},base.IsCell c v→h1.IsCell c v:=fun{c v} z=>let ⟨⟨o,e1,e2⟩,_⟩:=cb z;⟨o,hk c o e1,e2⟩
 refine⟨⟨e0.mod,S.kind,rfl,rfl,Z0d _,L.inj,fun y hy=>?_,(fun y c z _=>absurd (show false=true from z) (by decide)),fun _=>hd,Around.frames_deeper e0.frames,.inr ⟨rfl,rfl⟩,fun b z=>absurd z (noA b),e0.bs,e0.bsz,fun b _ _=>noA b,fun b z=>absurd z (noA b),e0.funs,e0.frf⟩,
  rfl,e0.bare,Un.kept hk,⟨_,hn,fun i y v h1 h2 h3=>?_⟩,fun y c h=>?_,e0.hok.fresh (Z0d _),fun y c h=>?_,fun p hp=>absurd (show p∈([]:List (Addr×Obj))from hp) (by simp),e0.hok.kept hk,?_⟩
 ·have hy:scope.names.lookup y=some .cell∨scope.names.lookup y=some .free:=hy
  rcases hy with hy |hy
  ·rcases S.names _ (PySem.mem_of_lookup hy)with z |z<;>cases z
  ·exact L.has y hy
 ·rw [Z0k]at h2
  cases e:vs[i]? with
  |none=>rw [e]at h2;cases h2
  |some a =>
   rw [e]at h2
   cases h2
   obtain⟨c,u,q1,q2,q3⟩:=L.at_ i y _ h1 e
   exact⟨u,q3,.inr ⟨.inr (S.free y (Z0u h1)),c,q1,ck q2⟩⟩
 ·obtain⟨v,z⟩:=L.cell y c h
  exact⟨v,ck z⟩
 ·obtain⟨v,z⟩:=L.cell y c h
  exact(cb z).2
 ·rw [Z0b];exact L.len
theorem ZaH:Z3g (CXQ z P w) (cxL z P w K mg base N qual scope f cd cl A outer s H E) E:=by
 intro pins σ H' s1 e s' I h
 obtain⟨ea,T,C,dx,H2,rfl,h1,h2,h3,h4,h5,h6,h7,h8,h9,h10,h11⟩:=h
 have I':Inv (cxL z P w K mg base N qual scope f cd cl A outer s H E) pins σ H2 s':=I.call' (ch:=[]) h1 h3 h4 h2 (fun b z=>absurd z (by simp))
 exact Z5Y I' rfl rfl rfl ⟨⟨h6,(nones I rfl h8).2⟩,.inr ⟨T,h5,h7,(nones I rfl h9).2⟩⟩ h10 h11
theorem okL{k:Nat}{sp:Sp}(L:Lam base f fd qual params body scope cl cd N vs)(S:Z7w N scope)(len:∀ vs H Q E,sp vs H Q E→vs.length=0)
  (hbody:∀ (A:Around)(outer:List Env)(s:Shared)(H:Hp)(Q:VK)(E:XK),Room k (A.deeper (PySem.W.envX qual scope s.heap.objs.size f cd cl))→sp [] H Q E →
    ∃ t,PE (cxL z P w K mg base N qual scope f cd cl A outer s H E) body t∧t (vs.map some) H Q):FnOk P w K mg base (CXQ z P w) (k+1) f fd [] sp:=by
 obtain⟨oc,od,sl,pm,ctv,rfl,ho⟩:=L.ex
 refine⟨len,fun A outer s H args us vs' Q E hr e0 hb r hsp=>?_⟩
 have hl:=len _ _ _ _ hsp
 obtain rfl:vs'=[]:=Z1Q hl
 have lim:s.heap.NoLimit:=e0.mod.nolimit.keeps fun b o e=>(e0.bs b o e).1
 have rc:s.heap.CodeRec cd qual:=by
  obtain⟨c,o,vs,t,e1,e2,r⟩:=L.rec_
  exact⟨c,o,vs,t,e1,(e0.bs _ _ e2).1,r⟩
 refine PySem.W.kla_callFunE hr.depth (e0.bs _ _ ho).1 rfl S.co S.gen rfl rc (hb _ _ _ _ ?_)
 refine wpAny_newFunctionEnv (fun x hx=>by rcases S.names x hx with z |z<;>rw [z]<;>intro q<;>cases q) (fun x hx=>absurd (show x∈(([]:List Str).zip us)from hx) (by simp)) (fun h1 hn hs=>⟨lim.fresh _ hs,?_⟩) S.kind
 have hk:∀ b o,s.heap.get? b=some o→h1.get? b=some o:=fun b o e=>hs.extBut b o (Z0o (Z0f e)) (Z0n _ e)
 obtain⟨t,ht,hq⟩:=hbody A outer s H Q E (hr.deeper _) hsp
 have I:Inv (cxL z P w K mg base N qual scope f cd cl A outer s H E) [] (vs.map some) H { s with heap:=h1,toks:=s.toks+(([]:List Str).zip us).length }:=inv_lam S hr.hd e0 L hn hk
 refine PySem.W.kla_codeExpr (wpAny_mono (ht [] _ _ H _ I hq) (fun v s' hs=>?_) fun e s' hs=>hs)
 obtain⟨v',H',J,rv,q⟩:=hs
 exact⟨v',H',J.os,J.bare,J.base,J.hok,rv,q⟩
end
section
variable{X:Cx}{CX:CXT}{k:Nat}{f:Addr}{fd:FuncData}{sp:Sp}{E:XK}
def tTell(i:Nat)(f:Addr)(sp:Sp)(E:XK):TE:=fun σ H Q=>σ[i]?=some (some (.ref f))∧sp [] H Q E
theorem pe_tell{i:Nat}{x:Str}{p pos:Pos}(F:FnOk X.prog X.w X.K X.mg X.base CX k f fd [] sp)(hr:Room k X.A)(hf:PySem.W.FnAt f X.base)(hb:Binds X.K fd [] [])(hx:Z3g CX X E)(hi:X.N[i]?=some x:=by rfl)
  (hv:Vis X.env.scope x:=by first |exact Or.inl rfl |exact Or.inr (Or.inl rfl) |exact Or.inr (Or.inr rfl))(hd:(x==("__debug__" : Str))=false:=by decide)(hcd:(x==("__classdict__" : Str))=false:=by decide) :
  PE X (.Call (.Name x p) [] [] pos) (tTell i f sp E):=by
 intro pins s σ H Q I h
 refine wpAny_Call_Name_kw (thn (pe_var hi hv hd hcd pins s σ H (fun v H'=>v=.ref f∧sp [] H' Q E) I ⟨_,h.1,rfl,h.2⟩) fun u s1 ⟨v,H1,I1,rv,ev,q⟩=>?_)
 subst ev
 obtain rfl:u=Value.ref f:=rv
 obtain⟨oc,od,fd',sl,e⟩:=hf
 exact PySem.W.callWith_F0 ⟨oc,od,fd',sl,I1.bk _ _ e⟩ (Z7r (us:=[]) F hr hb .nil hx I1 .nil q)
end
theorem Z8g{h base base':Heap}:∀ {l:List Env},h.FunFrames base l→(∀ b∈frs l,base'.get? b=none)→h.FunFrames base' l
 |[],_,_=>trivial
 |env::r,⟨hk,⟨L,o,hf,hn,ho,hd⟩,hr⟩,hb=>by
  refine⟨hk,⟨L,o,hf,hb L ?_,ho,hd⟩,Z8g hr fun b m=>hb b ?_⟩
  ·unfold frs;rw [Z1i,hf];exact Z0h
  ·unfold frs;rw [Z1i,hf];exact Z0g _ m
noncomputable def inH(fs:List Addr)(H:Hp):Hp:=fun b=>if b∈fs then some (.lst [])else H b
theorem Z9B{fs:List Addr}{H:Hp}{b:Addr}(h:inH fs H b=none):b∉fs∧H b=none:=by
 unfold inH at h
 split at h
 ·cases h
 ·exact⟨by assumption,h⟩
theorem inH_of{fs:List Addr}{H:Hp}{b:Addr}(h1:b∉fs)(h2:H b=none):inH fs H b=none:=by
 unfold inH;rw [if_neg h1];exact h2
section
variable{X:Cx}{CX:CXT}{k:Nat}{fA c PT:Addr}{fdA:FuncData}{E:XK}{params:Arguments}{body:Expr}{scope:Scope}{lpos p pos:Pos}{x:Str}{M:List Str}
def tAns(X:Cx)(PT:Addr)(lpos:Pos)(ix:List Nat)(spA:Addr→List V→Sp)(E:XK):TE:=fun σ H Q=>∃ ps vs,H PT=some (.tbl ps)∧codeAmong lpos ps.toList=none∧TriplesOk ps.toList ∧
 vs.length=ix.length∧(∀ (j i:Nat)(v:V),ix[j]?=some i→vs[j]?=some v→σ[i]?=some (some v))∧∀ f more,H f=none→spA f vs [.ref f] (upd H PT (.tbl (ps++more))) Q E
theorem pe_ans{ix:List Nat}{spA:Addr→List V→Sp}(hC:PySem.W.CodeHd X.base c PT)(hB:X.base.BuiltinsAt X.mg PT)(hcode:X.env.code=.ref c)(hst:X.stack=X.env::X.outer)(hfr:X.env.frame=some X.env.locals)(hex:X.ex=[])
  (hfn:∀ x,X.fn x=true)(hdef:defaultsOf params X.env=([],[]))(S:Z7w M scope)(hcel:∀ y∈scope.names,y.2=.free→X.env.scope.names.lookup y.1=some .cell)
  (hix:∀ (j:Nat)(y:Str),M[j]?=some y→∃ i,ix[j]?=some i∧X.N[i]?=some y)(hlx:ix.length=M.length)(huq:∀ y∈scope.names,scope.names.lookup y.1=some y.2)
  (hg:Gl X x)(hm:X.mg x=some (.ref fA))(hk:PySem.W.keepIn X.K (.ref fA)=true)(hb:Binds X.K fdA ["tell"] [])(hr:Room k X.A)(hx:Z3g CX X E)
  (F:∀ (base:Heap)(f:Addr)(fd:FuncData)(cl:List (Str×Addr))(cd:Value)(vs:List V),X.K.In base→base.Ns mainGlobals X.mg→Lam base f fd (X.env.qual++"<lambda>") params body scope cl cd M vs →
    FnOk X.prog X.w X.K X.mg base CX k fA fdA ["tell"] (spA f vs))
  (hdb:(x==("__debug__" : Str))=false:=by decide)(he:starEach [.Lambda params body scope lpos] X.env=(false,eval (.Lambda params body scope lpos) X.env)::starEach [] X.env:=by rfl) :
  PE X (.Call (.Name x p) [.Lambda params body scope lpos] [] pos) (tAns X PT lpos ix spA E):=by
 intro pins s σ H Q I h
 obtain⟨ps,vs,hT,hnf,hto,hvl,hvs,hsp⟩:=h
 refine wpAny_Call_Name_kw (Z3r I hg hm ?_ hdb)
 have hfree:∀ y∈scope.names,y.2=.free→∃ c,X.env.cells.lookup y.1=some c:=fun y hy e=>I.ok.has _ (.inl (hcel y hy e))
 have hP:s.heap.get? PT=some (PySem.W.tabObj ps):=I.hok PT _ hT
 have nbP:∀ b o,X.base.get? b=some o→b≠PT:=fun b o e z=>by
  have:=(I.bs b o e).2
  rw [z,hT]at this
  cases this
 have hgs:s.heap.Ns mainGlobals X.mg:=I.ok.mod.glob.keeps I.bk
 have hgP:mainGlobals≠PT:=by
  obtain⟨o,es,ep,e,_⟩:=I.ok.mod.glob
  exact nbP _ o e
 have hBs:s.heap.BuiltinsAt X.mg PT:=by
  obtain⟨bm,ob,a1,a2,a3,a4,a5,a6⟩:=hB
  exact⟨bm,ob,a1,a2,a3,a4,I.bk _ _ a5,a6⟩
 refine Z0Z (h₀:=X.base) (Q:=EP X pins σ Q) I.ok.mod.kin hk ?_ he rfl
 rw [he]
 show wpAny _ _ (spliced ((false,eval (.Lambda params body scope lpos) X.env)::backTo pos (starEach [] X.env))) _ _ s
 refine Calls.spliced_cons (PySem.W.kla_eval hdef (PySem.W.kla_makeFunction (Z5Z hfree) I.ok.glob hgs hcode (hC.keeps I.bk) hP hto hnf hgP hBs fun c' ctv h' tk hx1 hge hlt hrec htb=>?_))
 refine Calls.spliced_nil ?_
 generalize hfo:PySem.W.kla_obj "<lambda>" (X.env.qual++"<lambda>") params body scope (Z2C X.env.cells scope.names []) ((X.mg "__name__").getD .none) c' ctv=fo
 have kp:∀ b o,b≠PT→s.heap.get? b=some o→(h'.push fo).get? b=some o:=fun b o hn e=>Z0n _ (hx1 b o hn e)
 have sz:s.heap.objs.size≤h'.objs.size:=Z0A hge (Z1u hlt)
 have htb':(h'.push fo).get? PT=some (PySem.W.tabObj (ps++#[rawInt lpos.line,rawInt lpos.col,.ref c'])):=Z0n _ htb
 have I3:Inv X pins σ (upd H PT (.tbl (ps++#[rawInt lpos.line,rawInt lpos.col,.ref c']))) { s with heap:=h'.push fo,toks:=tk }:=by
  refine I.un ⟨fun b o q n _ _=>kp b o (fun z=>by rw [z,hT]at n;cases n) q,fun b o q n _ _=>⟨o.slots,kp b o (fun z=>by rw [z,hT]at n;cases n) q⟩,fun b o q n _=>?_,fun b o q _=>?_,fun b xs q=>?_,fun b o u q=>?_,fun b qs q=>?_⟩ fun a o e=>?_
  ·rw [Z2m (fun z=>by rw [z,hT]at n;cases n)];exact n
  ·by_cases z:b=PT
   ·rw [z];exact⟨_,htb'⟩
   ·exact⟨o,kp b o z q⟩
  ·rw [Z2m (fun z=>by rw [z,hT]at q;cases q)];exact q
  ·rw [Z2m (fun z=>by rw [z,hT]at q;cases q)];exact q
  ·by_cases z:b=PT
   ·rw [z,hT]at q
    cases q
    exact⟨_,by rw [z,Z2n]⟩
   ·exact⟨#[],by rw [Z2m z,q];simp⟩
  ·by_cases z:a=PT
   ·rw [z,Z2n]at e
    cases e
    rw [z]
    exact htb'
   ·rw [Z2m z]at e
    refine(I.hok a o e).stay (fun b u hb q=>kp b u (fun z'=>?_) q) (fun b q=>?_) fun b xs q=>?_
    ·rcases hb with hb |hb
     ·exact z (hb ▸ z')
     ·rw [z',hT]at hb;cases hb
    ·rw [Z2m (fun z'=>by rw [z',hT]at q;cases q)];exact q
    ·rw [Z2m (fun z'=>by rw [z',hT]at q;cases q)];exact q
 generalize hmore:(#[rawInt lpos.line,rawInt lpos.col,.ref c']:Array Value)=more at I3 htb'
 refine⟨I3.kIn,?_⟩
 generalize hH3:upd H PT (.tbl (ps++more))=H3 at I3
 have sub:∀ {b:Addr}{o:Obj},(h'.push fo).get? b=some o→H3 b=none→b∉frs X.stack→(hidT (h'.push fo) (inH (frs X.stack) H3)).get? b=some o:=fun e n1 n2=>Z8Z e (inH_of n2 n1)
 have nfr:∀ b o,X.base.get? b=some o→b∉frs X.stack:=fun b o e z=>by
  have:=(I3.stack.mem z).1
  rw [e]at this
  cases this
 have bk:∀ b o,X.base.get? b=some o→(hidT (h'.push fo) (inH (frs X.stack) H3)).get? b=some o:=fun b o e=>sub (I3.bk b o e) (I3.bs b o e).2 (nfr b o e)
 have hKb:X.K.In (hidT (h'.push fo) (inH (frs X.stack) H3)):=I.ok.mod.kin.keeps bk
 have hM:Mod X.K X.mg (hidT (h'.push fo) (inH (frs X.stack) H3)):=⟨hKb,I.ok.mod.glob.keeps bk,let ⟨mb,a,b⟩:=I.ok.mod.blt;⟨mb,a.keeps bk,b⟩,I.ok.mod.nolimit.keeps bk⟩
 have e0:Env0 X.prog X.w X.K X.mg (hidT (h'.push fo) (inH (frs X.stack) H3)) X.A X.stack { s with heap:=h'.push fo,toks:=tk } H3 :=
  ⟨I.ok.frames,hM,fun b o e=>⟨(Z6K e).1,(Z9B (Z6K e).2).2⟩,Z0Y (Z8f _ _),Z8g I3.stack fun b hb=>?_,I3.stkFree,I3.hok,I3.bare⟩
 case refine_1 =>
  cases z:(hidT (h'.push fo) (inH (frs X.stack) H3)).get? b with
  |none=>rfl
  |some o=>exact absurd hb (Z9B (Z6K z).2).1
 have new:∀ {a:Addr},s.heap.objs.size≤a→H3 a=none∧a∉frs X.stack:=fun{a} ha=>by
  refine⟨?_,fun z=>?_⟩
  ·rw [←hH3,Z2m (fun z=>by rw [z]at ha;exact absurd (Z0f hP) (Nat.not_lt_of_le ha))]
   exact I.hok.fresh ha
  ·obtain⟨_,o,e,_⟩:=I.stack.mem z
   exact absurd (Z0f e) (Nat.not_lt_of_le ha)
 have nf:=new sz
 have fget:(hidT (h'.push fo) (inH (frs X.stack) H3)).get? h'.objs.size=some fo:=sub (Z0E _ (by rw [←hfo];rfl)) nf.1 nf.2
 have cells:∀ {y:Str}{c1:Addr},(Z2C X.env.cells scope.names []).lookup y=some c1→X.env.cells.lookup y=some c1:=fun{y c1} e=>by
  rcases Z3V (PySem.mem_of_lookup e)with z |⟨z1,z2⟩
  ·cases z
  ·obtain⟨c2,e2⟩:=hfree _ z1 rfl
   rw [e2]at z2
   rw [e2,z2];rfl
 have celB:∀ {y:Str}{c1:Addr}{v:Option Value},X.env.cells.lookup y=some c1→s.heap.IsCell c1 v→(hidT (h'.push fo) (inH (frs X.stack) H3)).IsCell c1 v:=fun{y c1 v} e ⟨o,e1,e2⟩=>by
  have nP:c1≠PT:=fun z=>by
   have:=I.freeC y c1 e
   rw [z,hT]at this
   cases this
  refine⟨o,sub (kp c1 o nP e1) (by rw [←hH3,Z2m nP];exact I.freeC y c1 e) fun z=>?_,e2⟩
  rw [hst,Z6X hfr]at z
  rcases Z0e.mp z with z |z
  ·exact I.cne y c1 e z
  ·obtain⟨_,o',e',_⟩:=I.ok.funs.mem z
   exact absurd (Z0f e') (Nat.not_lt_of_le (I.ok.cab y c1 (hfn y) e))
 have hLam:Lam (hidT (h'.push fo) (inH (frs X.stack) H3)) h'.objs.size (PySem.W.kla_fn "<lambda>" (X.env.qual++"<lambda>") params body scope (Z2C X.env.cells scope.names []) ((X.mg "__name__").getD .none) (.ref c') ctv) (X.env.qual++"<lambda>") params body scope (Z2C X.env.cells scope.names []) (.ref c') M vs:=by
  refine⟨⟨_,_,_,_,_,rfl,by rw [fget,←hfo]⟩,?_,fun y z c1 e1 e2=>I.ok.inj y z c1 (cells e1) (cells e2),fun y e=>?_,fun y c1 e=>?_,fun j y v e1 e2=>?_,by rw [hvl,hlx]⟩
  ·obtain⟨c2,o2,vs2,t2,q1,q2,q3,q4⟩:=hrec
   cases q1
   exact⟨c',o2,vs2,t2,rfl,sub (Z0n _ q2) (new hge).1 (new hge).2,q3,q4⟩
  ·obtain⟨c1,z⟩:=Z4n (Z3U (cells:=X.env.cells) (acc:=[]) (PySem.mem_of_lookup e))
   exact⟨c1,z⟩
  ·obtain⟨v,z⟩:=I.cell y c1 (cells e)
   exact⟨v,celB (cells e) z⟩
  ·obtain⟨i,i1,i2⟩:=hix j y e1
   have hi:=hvs j i v i1 e2
   obtain⟨m,hn,hl⟩:=I.loc
   have yf:=S.free y (Z0u e1)
   have yc:=hcel _ (PySem.mem_of_lookup yf) rfl
   obtain⟨u,ru,lk⟩:=hl i y v i2 hi (.inr (.inl yc))
   rcases lk with⟨z,_⟩ |⟨_,c1,z1,z2⟩
   ·have z:X.env.scope.names.lookup y=some .local:=z
    rw [yc]at z;cases z
   ·obtain⟨c2,z3⟩:=Z4n (Z3U (cells:=X.env.cells) (acc:=[]) (PySem.mem_of_lookup yf))
    have z4:=cells z3
    rw [z1]at z4
    cases z4
    exact⟨c1,u,z3,celB z1 z2,ru⟩
 have FF:=F _ _ _ _ _ vs hKb hM.glob hLam
 have hsp':=hsp h'.objs.size more (I.hok.fresh sz)
 rw [hH3]at hsp'
 have hb':=hb { s with heap:=h'.push fo,toks:=tk } [.ref h'.objs.size] I3.kIn rfl
 refine wpAny_call (codeAny_mono (FF.run X.A X.stack _ H3 ⟨[.ref h'.objs.size],[]⟩ [.ref h'.objs.size] [.ref h'.objs.size] Q E hr e0 hb' (.cons rfl .nil) hsp') fun r s' hq=>?_)
 cases r with
 |error e=>exact hx pins σ H3 _ e s' I3 hq
 |ok fl =>
  cases fl with
  |ret u=>exact I3.after hq
  |next=>exact False.elim hq
  |brk=>exact False.elim hq
  |cont=>exact False.elim hq
end
end LM
end
section
set_option maxHeartbeats 2000000
namespace LM
open PySem PySem.Spec PyProof.Rows L2 EX
open PySem.W (WData Codec OpenSpec Well WellAll ReadsW ReadsAllW)
theorem Zas{P:Program}{w:World}{K:Z0a}{mg mb:Str→Option Value}{CX:CXT}{k:Nat}{fa c PT:Addr}{fd:FuncData}{ps:List Str}{sp:Sp}{s₁:Shared}{vals:List Value}{ds:List WData}{R:PySem.W.WRecords}{cl:Str→Option Addr}{d0:WData}
  (KX:K.In s₁.heap)(nT:PySem.W.noTabs K=true)(hC:PySem.W.CodeHd s₁.heap c PT)(hT:s₁.heap.get? PT=some (PySem.W.tabObj #[]))
  (hBm:∃ bm ob,mg "__builtins__" = some (.ref bm)∧bm≠builtinsNs∧s₁.heap.get? bm=some ob∧ob.cls=.type "module"∧ob.dict=some builtinsNs∧ob.data=.plain)
  (hns:s₁.heap.Ns mainGlobals mg)(hb:s₁.heap.Ns builtinsNs mb)(hbb:∀ x:Str,x≠"__name__"→mb x=bootBuiltins x)(hlim:s₁.heap.NoLimit)(hg:s₁.gens=#[])
  (hwl:WellAll w.params s₁.heap vals ds)(hpl:plWs ds=true)(hwt:∀ d∈ds,d.weight≤1048576)(hr:Room k callerA)
  (F:∀ base:Heap,K.In base→base.Ns mainGlobals mg→PySem.W.CodeHd base c PT→base.BuiltinsAt mg PT→FnOk P w K mg base CX k fa fd ps sp)(hbind:∀ (s:Shared)(us:List Value),us.length=ps.length→BindsTo s fd ⟨us,[]⟩ (ps.zip us))(hlen:ds.length=ps.length)
  (hsp:∀ (H:Hp)(xs:List V),DwAll K H xs ds→H PT=none→sp xs (upd H PT (.tbl #[])) (fun v H'=>Dw K H' v d0) fun _ _ _=>False)
  (hCX:∀ H e s',CX [] H s₁ (fun _ _ _=>False) e s'→False) :
  codeAny (model P w) callerA (.call (.ref fa) ⟨vals,[]⟩) (fun r s'=>∃ u as,r=.ok (.ret u)∧ReadsW R cl s'.heap u d0 as∧OldK s₁.heap s'.heap∧s'.os=s₁.os∧AllBare s'.gens) s₁:=by
 obtain⟨A,ho,ar⟩:=Z5U ds vals hwl hpl hwt
 have hO:OnlyF (argH K s₁.heap A):=Zbn ar
 have hok0:HOk P w (argH K s₁.heap A) s₁.heap:=argH_ok ar
 have hS:=Z7i KX ar ds vals hwl hpl ho
 have hV:=Z4t ho
 have hK0:∀ b u,argH K s₁.heap A b=some u→K.lookup b=none:=fun b u q=>(Z6I ar q).1
 have noA:∀ {b:Addr}{o:Obj},s₁.heap.get? b=some o→(∀ vs n,o.data≠.seq vs n)→argH K s₁.heap A b=none:=fun{b o} e d=>by
  cases q:argH K s₁.heap A b with
  |none=>rfl
  |some u =>
   obtain⟨_,vs,_,_,⟨e2,_⟩ |⟨e2,_⟩⟩:=Z6I ar q
   ·rw [e2]at e
    cases e
    exact absurd rfl (d vs.toArray _)
   ·rw [e2]at e
    cases e
    exact absurd rfl (d vs.toArray _)
 have hPT:argH K s₁.heap A PT=none:=noA hT (fun vs n z=>by cases z)
 generalize argH K s₁.heap A=H0 at hO hok0 hS hK0 noA hPT
 have hok:HOk P w (upd H0 PT (.tbl #[])) s₁.heap:=fun a o e=>by
  by_cases z:a=PT
  ·rw [z,Z2n]at e
   cases e
   rw [z]
   exact hT
  ·rw [Z2m z]at e
   exact(hok0 a o e).stay (fun b u _ q=>q) (fun b q=>by rw [Z2m (Z2p q hPT)];exact q) fun b xs q=>by rw [Z2m (Z2p q hPT)];exact q
 have nKT:∀ b o,K.lookup b=some o→b≠PT:=fun b o e z=>by
  have e2:=KX b o e
  rw [z,hT]at e2
  have h2:=Z0J.mp nT (b,o) (PySem.W.mem_of_lookupK e)
  cases e2
  exact absurd (show false=true from h2) Z0t
 have base_of:∀ {b:Addr}{o:Obj},s₁.heap.get? b=some o→H0 b=none→b≠PT→(hidT s₁.heap (upd H0 PT (.tbl #[]))).get? b=some o:=fun e n z=>Z8Z e (by rw [Z2m z];exact n)
 have nsK:∀ {b:Addr}{m:Str→Option Value},s₁.heap.Ns b m→(hidT s₁.heap (upd H0 PT (.tbl #[]))).Ns b m:=fun{b m} ⟨o,es,ep,e,d,r⟩ =>
  ⟨o,es,ep,base_of e (noA e fun vs n z=>by rw [d]at z;cases z) (fun z=>by rw [z,hT]at e;cases e;cases d),d,r⟩
 have nK:∀ b o,K.lookup b=some o→H0 b=none:=fun b o e=>by
  cases q:H0 b with
  |none=>rfl
  |some u =>
   rw [hK0 b u q]at e
   cases e
 have hKb:K.In (hidT s₁.heap (upd H0 PT (.tbl #[]))):=fun b o e=>base_of (KX b o e) (nK b o e) (nKT b o e)
 have hM:Mod K mg (hidT s₁.heap (upd H0 PT (.tbl #[]))):=⟨hKb,nsK hns,⟨mb,nsK hb,hbb⟩,let ⟨mc,h1,h2⟩:=hlim;⟨mc,nsK h1,h2⟩⟩
 have e0:Env0 P w K mg (hidT s₁.heap (upd H0 PT (.tbl #[]))) callerA [] s₁ (upd H0 PT (.tbl #[])):=⟨rfl,hM,fun b o e=>Z6K e,Z0Y (Z8f _ _),trivial,fun b hb=>absurd (show b∈([]:List Addr)from hb) (by simp),hok,.of_eq hg⟩
 have hC':PySem.W.CodeHd (hidT s₁.heap (upd H0 PT (.tbl #[]))) c PT:=by
  obtain⟨o,vs,file,tf,flags,tg,inF,text,tt,e1,r1,r2,r3,r4,r5,r6,r7,r8,hne⟩:=hC
  exact⟨o,vs,file,tf,flags,tg,inF,text,tt,base_of e1 (noA e1 fun _ _ z=>by rw [r2]at z;cases z) hne,r1,r2,r3,r4,r5,r6,r7,r8,hne⟩
 have hB':(hidT s₁.heap (upd H0 PT (.tbl #[]))).BuiltinsAt mg PT:=by
  obtain⟨bm,ob,b1,b2,b3,b4,b5,b6⟩:=hBm
  have n1:bm≠PT:=fun z=>by rw [z,hT]at b3;cases b3;cases b4
  have n2:bm≠mainGlobals:=fun z=>by
   obtain⟨o,es,ep,e,d,_⟩:=hns
   rw [z,e]at b3
   cases b3
   rw [d]at b6
   cases b6
  exact⟨bm,ob,b1,b2,n2,n1,base_of b3 (noA b3 fun _ _ z=>by rw [b6]at z;cases z) n1,b4,b5,b6⟩
 have hl:vals.length=ps.length:=by rw [Z4C hwl];exact hlen
 refine codeAny_mono ((F _ hKb (nsK hns) hC' hB').run callerA [] s₁ (upd H0 PT (.tbl #[])) ⟨vals,[]⟩ vals (vals.map toV) _ _ hr e0 (hbind s₁ vals hl) hV (hsp H0 _ hS hPT)) fun r s' x=>?_
 cases r with
 |error e=>exact(hCX _ e s' x).elim
 |ok fl =>
  cases fl with
  |next=>exact False.elim x
  |brk=>exact False.elim x
  |cont=>exact False.elim x
  |ret u =>
   obtain⟨v,H',os,bare,un,hok',r',q⟩:=x
   have kept:∀ b o,b≠PT→s₁.heap.get? b=some o→s'.heap.get? b=some o:=fun b o nb e=>by
    cases q2:H0 b with
    |none=>exact un.keep b o e (by rw [Z2m nb];exact q2) (by intro z;exact absurd (show b∈([]:List Addr)from z) (by simp)) (by simp)
    |some u2 =>
     rcases hO b with z |⟨ob,u3,z⟩
     ·rw [q2]at z
      cases z
     ·have z2:=un.frzs b ob _ (by rw [Z2m nb];exact z)
      obtain⟨e1,_⟩:=hok0 b _ z
      obtain⟨e2,_⟩:=hok' b _ z2
      rw [e]at e1
      cases e1
      exact e2
   have KX':K.In s'.heap:=fun b o e=>kept b o (nKT b o e) (KX b o e)
   obtain⟨as,hrd⟩:=Dw.reads (R:=R) (cl:=cl) hok' KX' d0 v u q r'
   obtain⟨more,hm⟩:=un.tbls PT #[] Z2n
   have hm':s'.heap.get? PT=some (PySem.W.tabObj (#[]++more)):=hok' PT _ hm
   refine⟨u,as,rfl,hrd,⟨fun b o e=>?_,fun b o e=>?_⟩,os,bare⟩
   ·by_cases z:b=PT
    ·subst z
     rw [hT]at e
     cases e
     exact .inr (.inl ⟨(hC.tab hT).isCodeTable,rfl,#[],more,rfl,hm'⟩)
    ·exact .inl (kept b o z e)
   ·by_cases z:b=PT
    ·subst z
     exact⟨_,hm'⟩
    ·exact⟨o,kept b o z e⟩
theorem Zbv{r:OpenSpec}{k:Nat}{q:Program}{loose:List Str}{XP:(Str→Option Value)→Heap→Prop}{YP:World→Heap→Prop}{d:DefRec}{K:Params→Z0a}{CX:CXT}{ps:List Str}{sp:Z0a→Addr→Sp}
  (hwell:r.wellSaid=true)(hdf:d.params.defaults=[])(hlen:r.args.length=ps.length)(hr:Room k callerA)(hfind:(recsOf q).find? (fun e=>e.name==d.name)=some d)
  (hY:∀ (w:World)(h:Heap),YP w h→(K w.params).In h)
  (nT:∀ w:World,PySem.W.noTabs (K w.params)=true)
  (F:∀ (w:World)(mg:Str→Option Value)(fa:Addr)(h:Heap),YP w h→(K w.params).In h→h.Ns mainGlobals mg→mg d.name=some (.ref fa) →
    ∃ (fd:FuncData)(c PT:Addr),PySem.W.tabIn (K w.params) d.name=some (c,PT)∧(∀ (s:Shared)(us:List Value),us.length=ps.length→BindsTo s fd ⟨us,[]⟩ (ps.zip us)) ∧
     ∀ base:Heap,(K w.params).In base→base.Ns mainGlobals mg→PySem.W.CodeHd base c PT→base.BuiltinsAt mg PT→FnOk r.prog w (K w.params) mg base CX k fa fd ps (sp (K w.params) PT))
  (hsp:∀ (K:Z0a)(PT:Addr)(H:Hp)(xs:List V)(a:Codec.denoteAll r.args),H PT=none→Codec.withinAll r.args a=true→Codec.app r.args r.asked a=true→DwAll K H xs (Codec.encAll r.args a) →
    sp K PT xs (upd H PT (.tbl #[])) (fun v H'=>Dw K H' v (r.ret.enc (Codec.app r.args r.f a))) fun _ _ _=>False)
  (hCX:∀ (H:Hp)(s:Shared)(e:Value)(s':Shared),CX [] H s (fun _ _ _=>False) e s'→False) :
  PySem.W.WalkOS q loose XP YP r d [] (fun f vs=>PySem.call f vs):=by
 intro w s_0 s₁ mg mb G Y fa o pm cd doc dV kV ho hd hcd hD hmg hg args vals as hpre hlay hrd hwl hlo
 obtain⟨a,e1,e2⟩:=PySem.W.os_pre_some hpre
 obtain⟨e3,hwi⟩:=Codec.encAll_of_decAll r.args args a e1
 subst e3
 have KX:=hY w _ Y
 obtain⟨fd,c,PT,hti,hb,hF⟩:=F w mg fa _ Y KX G.T.g hmg
 obtain⟨hC,hT⟩:=PySem.W.tab_of G.T KX hfind hti
 refine PySem.W.enter_call (codeAny_mono (Zas (R:=[]) (cl:=classAt s_0.heap) (d0:=r.ret.enc (Codec.app r.args r.f a)) KX (nT w) hC hT G.T.bmain G.T.g G.T.b G.T.builtins G.T.nolimit hg hwl (Z8h _ _) (Z7L hlay) hr hF hb (by rw [Z7j];exact hlen)
  (fun H xs hS hP=>hsp _ PT H xs a hP hwi e2 hS) fun H e s'=>hCX H s₁ e s') fun r' s' hq=>?_)
 obtain⟨u,as',rfl,h1,h2,h3,h4⟩:=hq
 exact⟨.inl ⟨u,_,as',rfl,fun _=>rfl,h1,(OpenSpec.post_iff hwell hwi _ _).mpr rfl,fun z=>Bool.noConfusion (show false=true from z)⟩,h2,h3,h4⟩
end LM
end
section
namespace EX
open PySem PyProof.Rows HT
def lexLe:List Int→List Int→Bool
 |[],_=>true
 |_::_,[]=>false
 |x::xs,y::ys=>if x=y then lexLe xs ys else decide (x≤y)
theorem Z5W(x y:Int)(xs ys:List Int):lexLe (x::xs) (y::ys)=if x=y then lexLe xs ys else decide (x≤y):=rfl
theorem rcLe_int(A:Around)(s:Shared)(a:Int)(t:Tok)(c:Int)(u:Tok)(prog:Program)(w:World)(E:Value→Shared→Prop)(Q:Value→Shared→Prop)(h:Q (.bool (decide (a≤c))) s) :
  wpAny (model prog w) A (richCompare .LtE (.int a t) (.int c u)) Q E s :=
 (PyProof.Rows.le_int h:wpAny (model prog w) A (compareOp .LtE (.int a t) (.int c u)) Q E s)
section
open PySem.SeqAt
open PySem.AutoSeq1 (wpAny_loadPart')
open PySem.MeetsSeq PySem.MeetsSeq2 PySem.MeetsSeq3
theorem Z8v(l b:Addr)(items items2:Array Value)(n n2:Nat)(dd dd2:Option Addr)(sl sl2:Array (Option Value))(ns ms:List Int)(hi:IntsAre items.toList ns)(hj:IntsAre items2.toList ms) :
  Meets (Builtin.«tuple.__le__» ⟨[.ref l,.ref b],[]⟩)
   (fun _ R s=>s.heap.get? l=some { cls:=.type "tuple",dict:=dd,data:=.seq items n,slots:=sl }∧s.heap.get? b=some { cls:=.type "tuple",dict:=dd2,data:=.seq items2 n2,slots:=sl2 } ∧
     R (.ok (.ret (.bool (lexLe ns ms)))) s) :=
 .of_wp fun prog w A R s h=>by
  obtain⟨hp,g,d,tk,os⟩:=s;obtain⟨hl,hb,h⟩:=h
  have f2:=AutoSeq1.sub_tuple_tuple
  have z1:items.size=ns.length:=by rw [←hi.length];simp
  have z2:items2.size=ms.length:=by rw [←hj.length];simp
  wp_walk using wpAny_loadPart' hl,wpAny_loadPart' hb,wpAny_forIn_list _ (fun rest b s'=>b.1=none∧s'=⟨hp,g,d,tk,os⟩∧∃ (vs ws:List Value)(ns' ms':List Int),rest=vs.zip ws ∧
   IntsAre vs ns'∧IntsAre ws ms'∧ns'.length+items2.size=ms'.length+items.size∧R (.ok (.ret (.bool (lexLe ns' ms')))) ⟨hp,g,d,tk,os⟩) _
  case turn =>
   rintro⟨y,x⟩ rest b s' ⟨hb',rfl,vs,ws,ns',ms',hz,hvi,hwi,hlen,hR⟩
   cases hvi with
   |nil=>rw [List.zip_nil_left]at hz;cases hz
   |cons a t hvi' =>
    cases hwi with
    |nil=>rw [List.zip_nil_right]at hz;cases hz
    |cons c u hwi' =>
     rw [List.zip_cons_cons]at hz
     injection hz with hyx hrest
     injection hyx with hy hx
     subst hy hx
     rw [Z5W]at hR
     simp only [Z0q]at hlen
     obtain⟨e,he,hiff⟩:=eqAt_int A.in1 ⟨hp,g,d,tk,os⟩ a t c u
     refine wpAny_bind (he prog w _ _ ?_)
     cases e with
     |true =>
      rw [if_pos (hiff.mp rfl)]at hR
      wp_walk
      exact⟨rfl,rfl,_,_,_,_,hrest,hvi',hwi',by omega,hR⟩
     |false =>
      rw [if_neg (fun q=>absurd (hiff.mpr q) Z0t)]at hR
      have hri:=rcLe_int A.in1 ⟨hp,g,d,tk,os⟩ a t c u prog w
      wp_walk using hri
      exact⟨_,rfl,by simpa using hR⟩
  case fin =>
   rintro⟨b1,b2⟩ s' ⟨hb',rfl,vs,ws,ns',ms',hz,hvi,hwi,hlen,hR⟩
   simp only at hb'
   subst hb'
   have hv:lexLe ns' ms'=decide (items.size≤items2.size):=by
    cases hvi with
    |nil =>
     simp only [Z0U]at hlen
     exact(decide_eq_true (by omega)).symm
    |cons a t hv =>
     cases hwi with
     |nil =>
      simp only [Z0U,Z0q]at hlen
      exact(decide_eq_false (by omega)).symm
     |cons c u hw =>
      rw [List.zip_cons_cons]at hz
      cases hz
   rw [hv]at hR
   wp_walk
   exact⟨_,rfl,by simpa [Builtin.Tuple.tupleCompareSizes]using hR⟩
  case h =>
   exact⟨rfl,rfl,items.toList,items2.toList,ns,ms,rfl,hi,hj,by omega,h⟩
end
section
variable{prog:Program}{w:World}{A:Around}{E:Value→Shared→Prop}{s:Shared}
theorem ZaD{l b:Addr}{items items2:Array Value}{ns ms:List Int}{Q:Value→Shared→Prop}(hl:IsTup s.heap l items)(hb:IsTup s.heap b items2)(hi:IntsAre items.toList ns)(hj:IntsAre items2.toList ms)
  (hu:A.units<cLine)(h:Q (.bool (lexLe ns ms)) s):wpAny (model prog w) A (compareOp .LtE (.ref l) (.ref b)) Q E s:=by
 obtain⟨⟨cls,dd,data,sl⟩,ho,hc,n,hd⟩:=id hl
 obtain⟨⟨cls2,dd2,data2,sl2⟩,ho2,hc2,n2,hd2⟩:=id hb
 simp only at hc hd hc2 hd2
 subst hc hd hc2 hd2
 exact richCompare_meets_room (op:=.LtE) ⟨_,ho,rfl⟩ ⟨_,ho2,rfl⟩ PySem.F.slot_tuple_le PySem.F.entry_tuple_le (PySem.F.args_tuple_le_2 _ _) (Z8v l b items items2 n n2 dd dd2 sl sl2 ns ms hi hj)
  ⟨ho,ho2,show Value.bool (lexLe ns ms)≠Value.notImplemented∧Q (.bool (lexLe ns ms)) s from⟨(fun x=>nomatch x),h⟩⟩ hu
end
open L2
def rLeT(K:Z0a):R2:=fun x y H Q=>∃ a b ns ms,x=.ref a∧y=.ref b∧SqT K H a (ns.map V.int)∧SqT K H b (ms.map V.int)∧Q (.bl (lexLe ns ms)) H
theorem op_leT{X:Cx}(hu:X.A.units<cLine):OpR X (compareOp .LtE) (rLeT X.K):=by
 intro pins s σ H x y v u Q I rx ry h
 obtain⟨a,b,ns,ms,rfl,rfl,ha,hb,q⟩:=h
 cases rx
 cases ry
 obtain⟨its,r1,p1,_⟩:=I.tuple ha
 obtain⟨its2,r2,p2,_⟩:=I.tuple hb
 exact ZaD p1 p2 (Z7E r1) (Z7E r2) hu ⟨.bl (lexLe ns ms),H,I,rfl,q⟩
end EX
end
section
namespace RD
open PySem PySem.Spec PyProof.Rows L2 EX
section
variable{X:Cx}
theorem pe_gc{x:Str}{v:V}{pos:Pos}(hg:Gl X x)(h:∃ u,X.mg x=some u∧RelV v u)(hd:(x==("__debug__" : Str))=false:=by decide):PE X (.Name x pos) (tC v):=by
 obtain⟨u,a,b⟩:=h
 exact Z6F hg a b hd
end
theorem for_rev{K:Z0a}{a:Addr}{xs:List V}{g:TG}{tb:TS}{D:Ends}{σ:L2.St}{H:Hp}(Pv:Nat→L2.St→Hp→Prop)(h0:Pv 0 σ H)(hl:∀ i σ H,i≤xs.length→Pv i σ H→SqL K H a xs)
  (hs:∀ i x σ H,i<xs.length→xs[xs.length-1-i]?=some x→Pv i σ H→g x σ H fun σ2 H2=>tb { D with nx:=Pv (i+1),ct:=Pv (i+1),bk:=D.nx } σ2 H2)(hd:∀ σ H,Pv xs.length σ H→D.nx σ H) :
  ∃ W:Nat→Nat→L2.St→Hp→Prop,(∃ m,W 0 m σ H)∧∀ i m σ H,W i m σ H →
   ((Itv K a xs.length).stop i H∧D.nx σ H)∨((Itv K a xs.length).go i H∧∃ N:L2.St→Hp→Prop,(∀ σ' H',N σ' H'→∃ m',m' < m∧W (i+1) m' σ' H')∧∀ x H',(Itv K a xs.length).yld i H x H'→g x σ H' fun σ2 H2=>tb { D with nx:=N,ct:=N,bk:=D.nx } σ2 H2):=by
 refine⟨fun i m σ H=>m=xs.length-i∧i≤xs.length∧Pv i σ H,⟨xs.length,by simp,Z0p _,h0⟩,?_⟩
 rintro i m σ H ⟨rfl,hi,p⟩
 have q:=hl i σ H hi p
 by_cases hlt:i<xs.length
 ·have hx:xs.length-1-i<xs.length:=by omega
  refine .inr ⟨⟨hlt,xs,xs[xs.length-1-i],q,by simp [hx]⟩,Pv (i+1),fun σ' H' p'=>⟨xs.length-(i+1),by omega,rfl,hlt,p'⟩,fun x H' y=>?_⟩
  obtain⟨e,y⟩:=y
  subst e
  exact hs i x σ _ hlt (y xs q) p
 ·have e:i=xs.length:=by omega
  subst e
  exact .inl ⟨Z0d _,hd σ H p⟩
def Only(r:Addr)(H H':Hp):Prop:=∀ b o,H b=some o→b≠r→H' b=some o
theorem Only.refl(r:Addr)(H:Hp):Only r H H:=fun _ _ h _=>h
theorem Only.trans{r:Addr}{H H1 H2:Hp}(a:Only r H H1)(b:Only r H1 H2):Only r H H2:=fun c o h n=>b c o (a c o h n) n
theorem Only.upd{r:Addr}{H:Hp}(o:HO):Only r H (L2.upd H r o):=fun b o' h n=>by rw [Z2m n];exact h
theorem Only.new{r a:Addr}{H H1:Hp}{o:HO}(h:Only r H H1)(n:H1 a=none):Only r H (L2.upd H1 a o):=fun b o' e hb=>by
 have e1:=h b o' e hb
 rw [Z2m (Z2p e1 n)];exact e1
theorem Same.new{a:Addr}{H:Hp}{o:HO}(n:H a=none):Same H (L2.upd H a o):=fun b o' e=>by
 rw [Z2m (Z2p e n)];exact e
theorem Only.sq{K:Z0a}{r a C dx:Addr}{fs:List (Str×V)}{H H':Hp}{xs:List V}(h:Only r H H')(hr:H r=some (.ins C dx fs))(s:SqL K H a xs):SqL K H' a xs:=by
 rcases s with(s |⟨o,s⟩) |s
 ·exact .inl (.inl (h _ _ s (ne_of s hr (by intro z;cases z))))
 ·exact .inl (.inr ⟨o,h _ _ s (ne_of s hr (by intro z;cases z))⟩)
 ·exact .inr s
theorem Only.sqT{K:Z0a}{r a C dx:Addr}{fs:List (Str×V)}{H H':Hp}{xs:List V}(h:Only r H H')(hr:H r=some (.ins C dx fs))(s:SqT K H a xs):SqT K H' a xs:=by
 rcases s with(s |⟨o,s⟩) |s
 ·exact .inl (.inl (h _ _ s (ne_of s hr (by intro z;cases z))))
 ·exact .inl (.inr ⟨o,h _ _ s (ne_of s hr (by intro z;cases z))⟩)
 ·exact .inr s
theorem Same.sqT{K:Z0a}{H H':Hp}{a:Addr}{xs:List V}(e:Same H H')(h:SqT K H a xs):SqT K H' a xs:=by
 rcases h with(h |⟨o,h⟩) |h
 ·exact .inl (.inl (e _ _ h))
 ·exact .inl (.inr ⟨o,e _ _ h⟩)
 ·exact .inr h
def rf(a:Addr)(p:Int):List (Str×V):=[("form",.ref a),("place",.int p)]
theorem Z4R(a:Addr)(p:Int):(rf a p).lookup ("form" : Str)=some (.ref a):=by
 unfold rf;rw [Z0c,show(("form" : Str)=="form")=true by decide]
theorem Z3j(a:Addr)(p:Int):(rf a p).lookup ("place" : Str)=some (.int p):=by
 unfold rf;rw [Z0c,show(("place" : Str)=="form")=false by decide,Z0c,show(("place" : Str)=="place")=true by decide]
theorem rf_no(a:Addr)(p:Int){m:Str}(h:(m=="form")=false)(h':(m=="place")=false):(rf a p).lookup m=none:=by
 unfold rf;rw [Z0c,h,Z0c,h'];rfl
theorem rf_put(a:Addr)(p q:Int):putF "place" (.int q) (rf a p)=rf a q:=by
 unfold rf putF
 rw [if_neg (by decide)]
 unfold putF
 rw [if_pos rfl]
theorem rf_mk(a:Addr)(p:Int):putF "place" (.int p) (putF "form" (.ref a) [])=rf a p:=by
 unfold rf
 show putF "place" (.int p) [("form",.ref a)]=_
 unfold putF
 rw [if_neg (by decide)]
 rfl
def RdAt(C:Addr)(H:Hp)(r a:Addr)(p:Nat):Prop:=∃ dx,H r=some (.ins C dx (rf a p))
def xf(rule place which:Int):List (Str×V):=[("which",.int which),("place",.int place),("rule",.int rule)]
theorem xf_which(r p w:Int):(xf r p w).lookup ("which" : Str)=some (.int w):=by
 unfold xf;rw [Z0c,show(("which" : Str)=="which")=true by decide]
theorem Z9z(r p w:Int):(xf r p w).lookup ("place" : Str)=some (.int p):=by
 unfold xf;rw [Z0c,show(("place" : Str)=="which")=false by decide,Z0c,show(("place" : Str)=="place")=true by decide]
theorem Zam(r p w:Int):(xf r p w).lookup ("rule" : Str)=some (.int r):=by
 unfold xf;rw [Z0c,show(("rule" : Str)=="which")=false by decide,Z0c,show(("rule" : Str)=="place")=false by decide,Z0c,show(("rule" : Str)=="rule")=true by decide]
def Flt(CF:Addr)(E:XK)(H:Hp)(r:Addr)(rule place:Int):Prop:=∀ H' dx,Only r H H'→H' dx=some (.xd (xf rule place 0))→E (.ref CF) (some dx) H'
theorem Flt.only{CF:Addr}{E:XK}{H H1:Hp}{r:Addr}{rule place:Int}(f:Flt CF E H r rule place)(o:Only r H H1):Flt CF E H1 r rule place:=fun H' dx o' h=>f H' dx (o.trans o') h
def numL(l:List Int):Int:=l.foldr (fun b n=>b+256*n) 0
def numM(bs:List Int)(p size:Nat)(lo hi:Int):Except (Int×Int) Int :=
 if bs.length<p+size then .error (5,bs.length)else
 if numL ((bs.drop p).take size)<lo∨hi<numL ((bs.drop p).take size)then .error (2,p)else .ok (numL ((bs.drop p).take size))
def markM(bs:List Int):Nat→List Int→Except (Int×Int) Nat
 |p,[]=>.ok p
 |p,m::ms=>if p=bs.length then .error (5,p)else if bs[p]?≠some m then .error (1,p)else markM bs (p+1) ms
theorem cut_nat(xs:List V)(p q:Nat)(h:q≤xs.length)(hp:p≤q):cutV xs (some (p:Int)) (some (q:Int))=(xs.drop p).take (q-p):=by
 unfold cutV
 rw [HT.sIx_nat,HT.sIx_nat,Nat.min_eq_left h,Nat.min_eq_left (Z0A hp h)]
theorem ZaP{l:List Int}{i:Nat}{x:Int}(hi:i<l.length)(h:l[l.length-1-i]?=some x):numL (l.drop (l.length-(i+1)))=numL (l.drop (l.length-i))*256+x:=by
 have h1:l.length-(i+1)<l.length:=by omega
 have e1:l.length-1-i=l.length-(i+1):=by omega
 rw [e1]at h
 have e2:l.length-(i+1)+1=l.length-i:=by omega
 have hx:l[l.length-(i+1)]=x:=by
  rw [Z0j h1]at h
  exact Option.some.inj h
 rw [Z1y h1,e2,hx]
 show x+256*numL (l.drop (l.length-i))=_
 omega
section
variable{X:Cx}
def CDivL(i j:Int):Prop:=0<j∧j.natAbs.log2<9000
theorem Z8G:OpR X (binaryOp .FloorDiv) (rI CDivL fun i j=>.int (i / j)):=opI fun i j _ _ _ _ _ hc q=>by
 have h1:(0:Int)<j:=hc.1
 exact floordiv_int (by omega) (by rw [Int.fdiv_eq_ediv_of_nonneg i (by omega)];exact q) (.inl (PyProof.noPylong_of_log2 hc.2))
theorem CDivL.of{i j:Int}{k:Nat}(h0:0<j)(h:j.natAbs<2 ^ k)(hk:k≤9000):CDivL i j:=by
 refine⟨h0,Z0w ((Nat.log2_lt (by omega)).mpr h) hk⟩
def Tups(H:Hp)(ts:List Addr)(ls:List (List Int)):Prop:=ts.length=ls.length∧∀ (j:Nat)(t:Addr)(m:List Int),ts[j]?=some t→ls[j]?=some m→H t=some (.tup (m.map V.int))
theorem Tups.same{H H':Hp}{ts:List Addr}{ls:List (List Int)}(h:Tups H ts ls)(k:∀ b xs,H b=some (.tup xs)→H' b=some (.tup xs)):Tups H' ts ls:=⟨h.1,fun j t m a b=>k _ _ (h.2 j t m a b)⟩
theorem Tups.nil{H:Hp}:Tups H [] []:=⟨rfl,fun j t m a b=>by simp at a⟩
theorem Tups.snoc{H:Hp}{ts:List Addr}{ls:List (List Int)}{t:Addr}{m:List Int}(h:Tups H ts ls)(ht:H t=some (.tup (m.map V.int))):Tups H (ts++[t]) (ls++[m]):=by
 refine⟨by simp [h.1],fun j t' m' a b=>?_⟩
 rw [List.getElem?_append]at a b
 rw [h.1]at a
 split at a
 ·rename_i hj
  rw [if_pos hj]at b
  exact h.2 j t' m' a b
 ·rename_i hj
  rw [if_neg hj]at b
  cases z:j-ls.length with
  |zero =>
   rw [z]at a b
   cases a;cases b
   exact ht
  |succ n=>rw [z]at a;simp at a
open Classical in
end
end RD
end
section
namespace L2
open PySem PySem.Spec PyProof.Rows
theorem Z5T{K:Z0a}{a:Addr}{xs:List V}{g:TG}{tb:TS}{D:Ends}{σ:St}{H:Hp}(Pv:Nat→St→Hp→Prop)(h0:Pv 0 σ H)(hl:∀ i σ H,i≤xs.length→Pv i σ H→SqL K H a xs)
  (hs:∀ i x σ H T,xs[i]?=some x→Pv i σ H→H T=none→g (.ref T) σ (upd H T (.tup [.int (i:Nat),x])) fun σ2 H2=>tb { D with nx:=Pv (i+1),ct:=Pv (i+1),bk:=D.nx } σ2 H2)(hd:∀ σ H,Pv xs.length σ H→D.nx σ H) :
  ∃ W:Nat→Nat→St→Hp→Prop,(∃ m,W 0 m σ H)∧∀ i m σ H,W i m σ H →
   ((Ite K a).stop i H∧D.nx σ H)∨((Ite K a).go i H∧∃ N:St→Hp→Prop,(∀ σ' H',N σ' H'→∃ m',m' < m∧W (i+1) m' σ' H')∧∀ x H',(Ite K a).yld i H x H'→g x σ H' fun σ2 H2=>tb { D with nx:=N,ct:=N,bk:=D.nx } σ2 H2):=by
 refine⟨fun i m σ H=>m=xs.length-i∧i≤xs.length∧Pv i σ H,⟨xs.length,by simp,Z0p _,h0⟩,?_⟩
 rintro i m σ H ⟨rfl,hi,p⟩
 have q:=hl i σ H hi p
 by_cases hlt:i<xs.length
 ·refine .inr ⟨⟨xs,xs[i],q,by simp [hlt]⟩,Pv (i+1),fun σ' H' p'=>⟨xs.length-(i+1),by omega,rfl,hlt,p'⟩,fun x H' y=>?_⟩
  obtain⟨T,y,rfl,hT,rfl,h⟩:=y
  exact hs i y σ _ T (h xs q) p hT
 ·have e:i=xs.length:=by omega
  subst e
  exact .inl ⟨⟨xs,q,Z0d _⟩,hd σ H p⟩
theorem Zal{n j:Nat}(h:j<n):ixN n (j:Int)=some j:=by
 unfold ixN
 rw [if_pos (by omega),if_pos (by omega)]
 simp
section
variable{X:Cx}
def rGetL(K:Z0a):V→V→Hp→VK→Prop:=fun x y H Q=>∃ (p:Addr)(xs:List V)(j:Nat)(v:V),x=.ref p∧y=.int (j:Int)∧SqL K H p xs∧xs[j]?=some v∧Q v H
theorem Z8K:PGet X (rGetL X.K):=by
 intro pins s σ H o i ov iv Q I ro ri h
 obtain⟨p,xs,j,z,rfl,rfl,hq,he,q⟩:=h
 cases ro
 obtain⟨t,rfl⟩:=ri
 obtain⟨its,r,pl,hz⟩:=I.list hq
 obtain⟨w,ew,rw'⟩:=r.get he
 have hl:=r.length
 have hn:=Z5A
 have hj:=(Z0r.mp he).1
 exact wpAny_getItem_list pl.isList (by omega) (by omega) (by simpa using ew) ⟨z,H,I,rw',q⟩
end
section
variable{X:Cx}{pins:List (Addr×Obj)}{σ:St}{H:Hp}{s:Shared}{a b:Addr}{y v d:V}{u r:Value}{A:Around}{E:Value→Shared→Prop}{kvs:List (List Key×V)}{xs:List (List Key×Addr×Value)}{k:List Key}
end
section
variable{X:Cx}{o e f i value:Expr}{pos pos' apos cpos:Pos}{td ty tx tv:TE}
end
section
variable{prog:Program}{w:World}{A:Around}{E:Value→Shared→Prop}{s:Shared}
end
section
variable{X:Cx}{e:Expr}{td:TE}{apos cpos:Pos}
end
section
variable{prog:Program}{w:World}{A:Around}{E:Value→Shared→Prop}{s:Shared}
end
section
variable{X:Cx}{e:Expr}{te:TE}{apos cpos tpos:Pos}{elts:List Expr}{kk:Nat}
end
section
variable{X:Cx}
end
section
variable{X:Cx}{e:Expr}{td:TE}{apos cpos:Pos}
end
theorem lc_zip{K:Z0a}{a b:Addr}{xs ys:List V}{n:Nat}{g:TG}{tt:TT}{te:TE}{vs:List Nat}{σ:St}{H1:Hp}{D:Addr}{Qd:Hp→Prop}(Pv:Nat→Hp→Prop)(h0:Pv 0 (upd H1 D (.lst [])))(hn:n=min xs.length ys.length)(hl:∀ i H,Pv i H→SqL K H a xs∧SqL K H b ys)
  (hs:∀ i x y H T,xs[i]?=some x→ys[i]?=some y→Pv i H→H T=none→g (.ref T) (wipe σ vs) (upd H T (.tup [x,y])) fun σ2 H2=>wipe σ2 vs=wipe σ vs∧tt σ2 H2 fun b H3 =>
    if b=true then te σ2 H3 fun y H4=>∃ acc,H4 D=some (.lst acc)∧acc.length<sizeLine∧Pv (i+1) (upd H4 D (.lst (acc++[y])))else Pv (i+1) H3)(hd:∀ H,Pv n H→Qd H) :
  ∃ W:Nat→Nat→Hp→Prop,(∃ m,W 0 m (upd H1 D (.lst [])))∧∀ i m H,W i m H →
   ((Itz K a b).stop i H∧Qd H)∨((Itz K a b).go i H∧∃ Nx:Hp→Prop,(∀ H',Nx H'→∃ m',m' < m∧W (i+1) m' H')∧∀ x H',(Itz K a b).yld i H x H'→g x (wipe σ vs) H' fun σ2 H2=>wipe σ2 vs=wipe σ vs∧tt σ2 H2 fun b H3 =>
     if b=true then te σ2 H3 fun y H4=>∃ acc,H4 D=some (.lst acc)∧acc.length<sizeLine∧Nx (upd H4 D (.lst (acc++[y])))else Nx H3):=by
 refine⟨fun i m H=>m=n-i∧i≤n∧Pv i H,⟨n,by simp,Z0p _,h0⟩,?_⟩
 rintro i m H ⟨rfl,hi,p⟩
 obtain⟨q1,q2⟩:=hl i H p
 by_cases hlt:i<n
 ·have l1:i<xs.length:=by omega
  have l2:i<ys.length:=by omega
  refine .inr ⟨⟨xs,ys,_,_,q1,q2,Z0j l1,Z0j l2⟩,Pv (i+1),fun H' p'=>⟨n-(i+1),by omega,rfl,hlt,p'⟩,fun x H' y=>?_⟩
  obtain⟨T,u,v,rfl,hT,rfl,e1,e2⟩:=y
  exact hs i u v _ T (e1 _ q1) (e2 _ q2) p hT
 ·have e:i=n:=by omega
  subst e
  exact .inl ⟨⟨xs,ys,q1,q2,by omega⟩,hd H p⟩
theorem Zap{X:Cx}{es:List Expr}{k:Nat}{t:TGs}{n:Nat}{pos:Pos}(K:Z0a)(hK:X.K=K)(hc:X.calm=true)(h:PGs X es t)
  (hn:(assignEach es X.env).length=n:=by rfl)(hst:(assignEach es X.env).findIdx? (·.1)=none:=by rfl):PG X (.Tuple es k pos) (gTup K n t):=by
 subst hK
 exact Z6C hc h hn hst
end L2
end
section
namespace FM
open Fk
end FM
end
section
namespace MX
def sm:Nat→(Nat→Int)→Int
 |0,_=>0
 |n+1,f=>sm n f+f n
theorem Z5b{n:Nat}{f g:Nat→Int}(h:∀ i,i<n→f i=g i):sm n f=sm n g:=by
 induction n with
 |zero=>rfl
 |succ n ih=>unfold sm;rw [ih fun i hi=>h i (by omega),h n (by omega)]
theorem Z4v{n:Nat}{f:Nat→Int}(h:∀ i,i<n→f i=0):sm n f=0:=by
 induction n with
 |zero=>rfl
 |succ n ih=>unfold sm;rw [ih fun i hi=>h i (by omega),h n (by omega)];rfl
theorem Z6f(n:Nat)(f g:Nat→Int):sm n (fun i=>f i+g i)=sm n f+sm n g:=by
 induction n with
 |zero=>rfl
 |succ n ih=>show sm n (fun i=>f i+g i)+(f n+g n)=(sm n f+f n)+(sm n g+g n);rw [ih];omega
theorem Z8D(n:Nat)(c:Int)(f:Nat→Int):sm n (fun i=>c*f i)=c*sm n f:=by
 induction n with
 |zero=>show(0:Int)=c*0;omega
 |succ n ih=>unfold sm;rw [ih,Int.mul_add]
theorem Zai(n m:Nat)(f:Nat→Nat→Int):sm n (fun i=>sm m (fun j=>f i j))=sm m (fun j=>sm n (fun i=>f i j)):=by
 induction n with
 |zero=>exact(Z4v fun j _=>rfl).symm
 |succ n ih =>
  show sm n (fun i=>sm m fun j=>f i j)+sm m (fun j=>f n j)=sm m fun j=>sm n (fun i=>f i j)+f n j
  rw [ih,Z6f]
theorem Z5K{n a:Nat}(h:a<n)(g:Nat→Int):sm n (fun v=>if v=a then g v else 0)=g a:=by
 induction n with
 |zero=>omega
 |succ n ih =>
  show sm n (fun v=>if v=a then g v else 0)+(if n=a then g n else 0)=g a
  by_cases e:n=a
  ·subst e
   rw [if_pos rfl,Z4v fun i hi=>if_neg (by omega)]
   omega
  ·rw [if_neg e,ih (by omega)]
   omega
theorem Z8d{n:Nat}{f:Nat→Int}(h:∀ i,i<n→0≤f i):0≤sm n f:=by
 induction n with
 |zero=>exact Int.le_refl 0
 |succ n ih=>unfold sm;have:=ih fun i hi=>h i (by omega);have:=h n (by omega);omega
theorem sm_le{n:Nat}{f g:Nat→Int}(h:∀ i,i<n→f i≤g i):sm n f≤sm n g:=by
 induction n with
 |zero=>exact Int.le_refl 0
 |succ n ih=>unfold sm;have:=ih fun i hi=>h i (by omega);have:=h n (by omega);omega
theorem sm_but{n k:Nat}{f:Nat→Int}{b:Int}(hb:b≤0)(hk:b≤f k)(h:∀ i,i<n→i≠k→0≤f i):b≤sm n f:=by
 induction n with
 |zero=>exact hb
 |succ n ih =>
  unfold sm
  by_cases e:n=k
  ·subst e
   have:0≤sm n f:=Z8d fun i hi=>h i (by omega) (by omega)
   omega
  ·have:=ih fun i hi hn=>h i (by omega) hn
   have:=h n (by omega) e
   omega
theorem sm_even{n:Nat}{f g:Nat→Int}(h:∀ i,i<n→(f i-g i) % 2=0):(sm n f-sm n g) % 2=0:=by
 induction n with
 |zero=>rfl
 |succ n ih=>unfold sm;have:=ih fun i hi=>h i (by omega);have:=h n (by omega);omega
structure Bd where
 a:Nat
 b:Nat
 o:Int
structure Gr where
 n:Nat
 m:Nat
 bd:Nat→Bd
structure Gr.Ok(G:Gr):Prop where
 ne:∀ e,e<G.m→(G.bd e).a≠(G.bd e).b
 an:∀ e,e<G.m→(G.bd e).a<G.n
 bn:∀ e,e<G.m→(G.bd e).b<G.n
 lo:∀ e,e<G.m→1≤(G.bd e).o∧(G.bd e).o≤3
def Gr.room(G:Gr)(t:Int)(e:Nat):Int:=if t=1 then 3-(G.bd e).o else(G.bd e).o-1
def inc(d:Bd)(v:Nat):Int:=(if v=d.a then 1 else 0)+(if v=d.b then 1 else 0)
def Gr.bdr(G:Gr)(δ:Nat→Int)(v:Nat):Int:=sm G.m fun e=>inc (G.bd e) v*δ e
structure Gr.Chg(G:Gr)(δ:Nat→Int):Prop where
 up:∀ e,e<G.m→δ e≤3-(G.bd e).o
 dn:∀ e,e<G.m→-((G.bd e).o-1)≤δ e
 sum:∀ v,v<G.n→G.bdr δ v=0
inductive Lab where
 |un
 |one (t:Int)
 |two (r:Nat)
 deriving DecidableEq
def Lab.has:Lab→Int→Prop
 |.un,_=>False
 |.one t,s=>t=s
 |.two _,_=>True
def Lab.y:Lab→Int
 |.one t=>t
 |_=>0
structure Cert(G:Gr)(c:Nat)(T:Int)(lab:Nat→Lab)(st:Nat→Nat):Prop where
 sgn:∀ v t,v<G.n→lab v=.one t→t=1∨t=-1
 root:∀ v r,v<G.n→lab v=.two r→r<G.n∧lab r=.two r
 out:∀ e t,e<G.m→e≠c→(t=1∨t=-1)→0<G.room t e→((lab (G.bd e).a).has t→lab (G.bd e).b≠.un)∧((lab (G.bd e).b).has t→lab (G.bd e).a≠.un)
 two:∀ e t,e<G.m→e≠c→(t=1∨t=-1)→0<G.room t e→(lab (G.bd e).a).has t→(lab (G.bd e).b).has t →
  (∃ r,lab (G.bd e).a=.two r∧lab (G.bd e).b=.two r)∨(G.room t e=1∧((lab (G.bd e).a=.two (G.bd e).a∧st (G.bd e).a=e)∨(lab (G.bd e).b=.two (G.bd e).b∧st (G.bd e).b=e)))
 stem:∀ r,r<G.n→lab r=.two r→st r=c∨(st r<G.m∧st r≠c∧∃ s,(s=1∨s=-1)∧0<G.room s (st r)∧(((G.bd (st r)).a=r∧(lab (G.bd (st r)).b).has s)∨((G.bd (st r)).b=r∧(lab (G.bd (st r)).a).has s)))
 cm:c<G.m
 ca:lab (G.bd c).a=.one (-T)∨(lab (G.bd c).a=.two (G.bd c).a∧st (G.bd c).a=c)
 cb:lab (G.bd c).b=.one (-T)∨(lab (G.bd c).b=.two (G.bd c).b∧st (G.bd c).b=c)
 cT:T=1∨T=-1
def wt(lab:Nat→Lab)(st:Nat→Nat)(x y e:Nat)(r:Nat):Int:=if lab x=.two r∧lab y≠.two r then(if st r=e then -1 else 1)else 0
section
variable{G:Gr}{c:Nat}{T:Int}{lab:Nat→Lab}{st:Nat→Nat}{δ:Nat→Int}
theorem inc_pick(h:G.Ok){e:Nat}(he:e<G.m)(y:Nat→Int):sm G.n (fun v=>y v*inc (G.bd e) v)=y (G.bd e).a+y (G.bd e).b:=by
 have e1:(fun v=>y v*inc (G.bd e) v)=fun v=>(if v=(G.bd e).a then y v else 0)+(if v=(G.bd e).b then y v else 0):=by
  funext v
  unfold inc
  split<;>split<;>omega
 rw [e1,Z6f,Z5K (h.an e he),Z5K (h.bn e he)]
theorem sum_y(h:G.Ok)(hd:G.Chg δ)(y:Nat→Int):sm G.m (fun e=>δ e*(y (G.bd e).a+y (G.bd e).b))=0:=by
 have e1:sm G.n (fun v=>y v*G.bdr δ v)=0:=Z4v fun v hv=>by rw [hd.sum v hv];omega
 have e2:sm G.n (fun v=>y v*G.bdr δ v)=sm G.n fun v=>sm G.m fun e=>y v*(inc (G.bd e) v*δ e):=Z5b fun v _=>(Z8D _ _ _).symm
 rw [e2,Zai]at e1
 rw [←e1]
 refine Z5b fun e he=>?_
 rw [←inc_pick h he y]
 rw [←Z8D]
 refine Z5b fun v _=>?_
 rw [Int.mul_comm (δ e),Int.mul_assoc]
theorem sum_wt(C:Cert G c T lab st)(h:G.Ok){x y e:Nat}(hx:x<G.n):sm G.n (fun r=>wt lab st x y e r)=(match lab x with |.two r=>if lab y≠.two r then(if st r=e then -1 else 1)else 0 |_=>0):=by
 cases hl:lab x with
 |un=>exact Z4v fun r _=>by unfold wt;rw [if_neg];rw [hl];rintro⟨z,_⟩;cases z
 |one t=>exact Z4v fun r _=>by unfold wt;rw [if_neg];rw [hl];rintro⟨z,_⟩;cases z
 |two r0 =>
  have hr:=(C.root x r0 hx hl).1
  have:(fun r=>wt lab st x y e r)=fun r=>if r=r0 then(if lab y≠.two r then(if st r=e then -1 else 1)else 0)else 0:=by
   funext r
   unfold wt
   rw [hl]
   by_cases q:r=r0
   ·subst q
    simp
   ·rw [if_neg q,if_neg]
    rintro⟨z,_⟩
    cases z
    exact q rfl
  rw [this,Z5K hr]
theorem border(C:Cert G c T lab st)(h:G.Ok)(hd:G.Chg δ)(hc:δ c=T){r:Nat}(hr:r<G.n) :
  0≤sm G.m (fun e=>(δ e).natAbs*(wt lab st (G.bd e).a (G.bd e).b e r+wt lab st (G.bd e).b (G.bd e).a e r)):=by
 by_cases hm:lab r=.two r
 ·have ev:(sm G.m (fun e=>(δ e).natAbs*(wt lab st (G.bd e).a (G.bd e).b e r+wt lab st (G.bd e).b (G.bd e).a e r))-sm G.m (fun e=>δ e*((if lab (G.bd e).a=.two r then 1 else 0)+(if lab (G.bd e).b=.two r then 1 else 0)))) % 2=0:=by
   refine sm_even fun e he=>?_
   unfold wt
   by_cases q1:lab (G.bd e).a=.two r<;>by_cases q2:lab (G.bd e).b=.two r
   ·simp [q1,q2]
   ·simp only [q1,q2,ne_eq,not_true_eq_false,not_false_eq_true,and_true,and_false,if_true,if_false]
    split<;>omega
   ·simp only [q1,q2,ne_eq,not_true_eq_false,not_false_eq_true,and_true,and_false,if_true,if_false]
    split<;>omega
   ·simp [q1,q2]
  rw [sum_y h hd (fun v=>if lab v=.two r then 1 else 0)]at ev
  have lb:(-1:Int)≤sm G.m (fun e=>(δ e).natAbs*(wt lab st (G.bd e).a (G.bd e).b e r+wt lab st (G.bd e).b (G.bd e).a e r)):=by
   refine sm_but (k:=st r) (by decide) ?_ fun e he hne=>?_
   ·
    by_cases q1:lab (G.bd (st r)).a=.two r<;>by_cases q2:lab (G.bd (st r)).b=.two r
    ·simp [wt,q1,q2]
    ·have small:(δ (st r)).natAbs≤1:=by
      rcases C.stem r hr hm with z |⟨z1,z2,s,hs,hro,z3⟩
      ·rw [z,hc];rcases C.cT with e |e<;>rw [e]<;>decide
      ·have hh:(lab (G.bd (st r)).a).has s:=by rw [q1];trivial
       have hh2:(lab (G.bd (st r)).b).has s:=by
        rcases z3 with⟨_,z⟩ |⟨z,_⟩
        ·exact z
        ·rw [z]at q2;exact absurd hm q2
       have:=C.two (st r) s z1 z2 hs hro hh hh2
       rcases this with⟨r2,a1,a2⟩ |⟨a1,_⟩
       ·rw [q1]at a1;cases a1;exact absurd a2 q2
       ·have u:=hd.up _ z1
        have d:=hd.dn _ z1
        unfold Gr.room at a1
        split at a1<;>omega
     simp only [wt,q1,q2,ne_eq,not_true_eq_false,not_false_eq_true,and_true,and_false,if_true,if_false]
     omega
    ·have small:(δ (st r)).natAbs≤1:=by
      rcases C.stem r hr hm with z |⟨z1,z2,s,hs,hro,z3⟩
      ·rw [z,hc];rcases C.cT with e |e<;>rw [e]<;>decide
      ·have hh:(lab (G.bd (st r)).b).has s:=by rw [q2];trivial
       have hh2:(lab (G.bd (st r)).a).has s:=by
        rcases z3 with⟨z,_⟩ |⟨_,z⟩
        ·rw [z]at q1;exact absurd hm q1
        ·exact z
       have:=C.two (st r) s z1 z2 hs hro hh2 hh
       rcases this with⟨r2,a1,a2⟩ |⟨a1,_⟩
       ·rw [q2]at a2;cases a2;exact absurd a1 q1
       ·have u:=hd.up _ z1
        have d:=hd.dn _ z1
        unfold Gr.room at a1
        split at a1<;>omega
     simp only [wt,q1,q2,ne_eq,not_true_eq_false,not_false_eq_true,and_true,and_false,if_true,if_false]
     omega
    ·simp [wt,q1,q2]
   ·have hn:(if st r=e then(-1:Int)else 1)=1:=if_neg fun z=>hne z.symm
    unfold wt
    rw [hn]
    by_cases q1:lab (G.bd e).a=.two r<;>by_cases q2:lab (G.bd e).b=.two r
    ·simp [q1,q2]
    ·simp only [q1,q2,ne_eq,not_true_eq_false,not_false_eq_true,and_true,and_false,if_true,if_false];omega
    ·simp only [q1,q2,ne_eq,not_true_eq_false,not_false_eq_true,and_true,and_false,if_true,if_false];omega
    ·simp [q1,q2]
  omega
 ·
  rw [Z4v]
  ·exact Int.le_refl 0
  ·intro e he
   have q1:lab (G.bd e).a≠.two r:=fun z=>hm (C.root _ r (h.an e he) z).2
   have q2:lab (G.bd e).b≠.two r:=fun z=>hm (C.root _ r (h.bn e he) z).2
   simp [wt,q1,q2]
def Wx(lab:Nat→Lab)(st:Nat→Nat)(x y e:Nat):Int:=match lab x with
 |.two r=>if lab y≠.two r then(if st r=e then -1 else 1)else 0
 |_=>0
theorem local_le(C:Cert G c T lab st)(h:G.Ok)(hd:G.Chg δ){e:Nat}(he:e<G.m)(hec:e≠c) :
  δ e*((lab (G.bd e).a).y+(lab (G.bd e).b).y)+(δ e).natAbs*(Wx lab st (G.bd e).a (G.bd e).b e+Wx lab st (G.bd e).b (G.bd e).a e)≤0:=by
 have up:=hd.up e he
 have dn:=hd.dn e he
 have rm:∀ t:Int,(t=1∨t=-1)→0<t*δ e→0<G.room t e:=fun t ht hp=>by
  unfold Gr.room
  rcases ht with rfl |rfl
  ·rw [if_pos rfl];omega
  ·rw [if_neg (by decide)];omega
 have C2:=fun t ht hp=>C.two e t he hec ht (rm t ht hp)
 have C1:=fun t ht hp=>C.out e t he hec ht (rm t ht hp)
 have sa:=fun t z=>C.sgn (G.bd e).a t (h.an e he) z
 have sb:=fun t z=>C.sgn (G.bd e).b t (h.bn e he) z
 unfold Wx
 generalize (G.bd e).a=x at *
 generalize (G.bd e).b=y at *
 generalize δ e=d at *
 cases lx:lab x with
 |un =>
  cases ly:lab y with
  |un=>simp [Lab.y]
  |one t =>
   rw [lx,ly]at C1
   simp only [Lab.y]
   have ht:=sb t ly
   have:¬ 0<t*d:=fun hp=>(C1 t ht hp).2 rfl rfl
   rcases ht with rfl |rfl<;>omega
  |two r =>
   rw [lx,ly]at C1
   have a1:¬ 0<1*d:=fun hp=>(C1 1 (.inl rfl) hp).2 trivial rfl
   have a2:¬ 0 < -1*d:=fun hp=>(C1 (-1) (.inr rfl) hp).2 trivial rfl
   have:d=0:=by omega
   rw [this];simp
 |one t =>
  have ht:=sa t lx
  cases ly:lab y with
  |un =>
   rw [lx,ly]at C1
   simp only [Lab.y]
   have:¬ 0<t*d:=fun hp=>(C1 t ht hp).1 rfl rfl
   rcases ht with rfl |rfl<;>omega
  |one u =>
   have hu:=sb u ly
   simp only [Lab.y]
   by_cases q:t=u
   ·subst q
    have:¬ 0<t*d:=fun hp=>by
     rcases C2 t ht hp (by rw [lx];rfl) (by rw [ly];rfl)with⟨r,z,_⟩ |⟨_,⟨z,_⟩ |⟨z,_⟩⟩
     ·rw [lx]at z;cases z
     ·rw [lx]at z;cases z
     ·rw [ly]at z;cases z
    rcases ht with rfl |rfl<;>omega
   ·have:t+u=0:=by omega
    rw [this];simp
  |two r =>
   simp only [Lab.y]
   rw [if_pos (by intro z;cases z)]
   by_cases hp:0<t*d
   ·rcases C2 t ht hp (by rw [lx];rfl) (by rw [ly];trivial)with⟨r',z,_⟩ |⟨_,⟨z,_⟩ |⟨z1,z2⟩⟩
    ·rw [lx]at z;cases z
    ·rw [lx]at z;cases z
    ·rw [ly]at z1
     cases z1
     rw [if_pos z2]
     rcases ht with rfl |rfl<;>omega
   ·have:(if st r=e then(-1:Int)else 1)≤1:=by split<;>decide
    generalize (if st r=e then(-1:Int)else 1)=w at this
    have hn:(0:Int)≤(d.natAbs:Int):=Int.natCast_nonneg _
    have h2:(d.natAbs:Int)*(0+w)≤(d.natAbs:Int)*1:=Z2h (by omega) hn
    rcases ht with rfl |rfl<;>omega
 |two r =>
  cases ly:lab y with
  |un =>
   rw [lx,ly]at C1
   have a1:¬ 0<1*d:=fun hp=>(C1 1 (.inl rfl) hp).1 trivial rfl
   have a2:¬ 0 < -1*d:=fun hp=>(C1 (-1) (.inr rfl) hp).1 trivial rfl
   have:d=0:=by omega
   rw [this];simp
  |one t =>
   have ht:=sb t ly
   simp only [Lab.y]
   rw [if_pos (by intro z;cases z)]
   by_cases hp:0<t*d
   ·rcases C2 t ht hp (by rw [lx];trivial) (by rw [ly];rfl)with⟨r',_,z⟩ |⟨_,⟨z1,z2⟩ |⟨z,_⟩⟩
    ·rw [ly]at z;cases z
    ·rw [lx]at z1
     cases z1
     rw [if_pos z2]
     rcases ht with rfl |rfl<;>omega
    ·rw [ly]at z;cases z
   ·have:(if st r=e then(-1:Int)else 1)≤1:=by split<;>decide
    generalize (if st r=e then(-1:Int)else 1)=w at this
    have hn:(0:Int)≤(d.natAbs:Int):=Int.natCast_nonneg _
    have h2:(d.natAbs:Int)*(w+0)≤(d.natAbs:Int)*1:=Z2h (by omega) hn
    rcases ht with rfl |rfl<;>omega
  |two u =>
   simp only [Lab.y]
   by_cases q:u=r
   ·subst q
    simp
   ·rw [if_pos (c:=Lab.two u≠Lab.two r) (by intro z;cases z;exact q rfl),if_pos (c:=Lab.two r≠Lab.two u) (by intro z;cases z;exact q rfl)]
    by_cases z:d=0
    ·rw [z];simp
    ·have hn:(0:Int)≤(d.natAbs:Int):=Int.natCast_nonneg _
     have key:(if st r=e then(-1:Int)else 1)+(if st u=e then(-1:Int)else 1)≤0:=by
      have:∃ t:Int,(t=1∨t=-1)∧0<t*d:=by
       rcases Int.lt_or_gt_of_ne z with z |z
       ·exact⟨-1,.inr rfl,by omega⟩
       ·exact⟨1,.inl rfl,by omega⟩
      obtain⟨t,ht,hp⟩:=this
      rcases C2 t ht hp (by rw [lx];trivial) (by rw [ly];trivial)with⟨r',z1,z2⟩ |⟨_,⟨z1,z2⟩ |⟨z1,z2⟩⟩
      ·rw [lx]at z1;rw [ly]at z2;cases z1;cases z2;exact absurd rfl q
      ·rw [lx]at z1;cases z1
       rw [if_pos z2]
       split<;>decide
      ·rw [ly]at z1;cases z1
       rw [if_pos z2]
       split<;>decide
     have h2:(d.natAbs:Int)*((if st r=e then(-1:Int)else 1)+(if st u=e then(-1:Int)else 1))≤(d.natAbs:Int)*0:=Z2h key hn
     omega
theorem local_c(C:Cert G c T lab st)(h:G.Ok)(hc:δ c=T) :
  δ c*((lab (G.bd c).a).y+(lab (G.bd c).b).y)+(δ c).natAbs*(Wx lab st (G.bd c).a (G.bd c).b c+Wx lab st (G.bd c).b (G.bd c).a c)≤-2:=by
 have ne:=h.ne c C.cm
 have ca:=C.ca
 have cb:=C.cb
 have hT:=C.cT
 rw [hc]
 unfold Wx
 generalize (G.bd c).a=x at *
 generalize (G.bd c).b=y at *
 rcases ca with ca |⟨ca,ca2⟩<;>rcases cb with cb |⟨cb,cb2⟩<;>rw [ca,cb]<;>simp only [Lab.y]
 ·rcases hT with rfl |rfl<;>decide
 ·rw [if_pos (by intro z;cases z),if_pos cb2]
  rcases hT with rfl |rfl<;>decide
 ·rw [if_pos (by intro z;cases z),if_pos ca2]
  rcases hT with rfl |rfl<;>decide
 ·rw [if_pos (c:=Lab.two y≠Lab.two x) (by intro z;cases z;exact ne rfl),if_pos (c:=Lab.two x≠Lab.two y) (by intro z;cases z;exact ne rfl),if_pos ca2,if_pos cb2]
  rcases hT with rfl |rfl<;>decide
theorem ZaR(C:Cert G c T lab st)(h:G.Ok)(hd:G.Chg δ):δ c≠T:=fun hc=>by
 have s1:0≤sm G.n fun r=>sm G.m fun e=>(δ e).natAbs*(wt lab st (G.bd e).a (G.bd e).b e r+wt lab st (G.bd e).b (G.bd e).a e r):=Z8d fun r hr=>border C h hd hc hr
 rw [Zai]at s1
 have e1:sm G.m (fun e=>sm G.n fun r=>(δ e).natAbs*(wt lab st (G.bd e).a (G.bd e).b e r+wt lab st (G.bd e).b (G.bd e).a e r))=sm G.m fun e=>(δ e).natAbs*(Wx lab st (G.bd e).a (G.bd e).b e+Wx lab st (G.bd e).b (G.bd e).a e):=by
  refine Z5b fun e he=>?_
  rw [Z8D,Z6f,sum_wt C h (h.an e he),sum_wt C h (h.bn e he)]
  rfl
 rw [e1]at s1
 have s2:=sum_y h hd (fun v=>(lab v).y)
 have s3:sm G.m (fun e=>δ e*((lab (G.bd e).a).y+(lab (G.bd e).b).y)+(δ e).natAbs*(Wx lab st (G.bd e).a (G.bd e).b e+Wx lab st (G.bd e).b (G.bd e).a e))≤sm G.m fun e=>if e=c then(-2:Int)else 0:=by
  refine sm_le fun e he=>?_
  by_cases q:e=c
  ·subst q
   rw [if_pos rfl]
   exact local_c C h hc
  ·rw [if_neg q]
   exact local_le C h hd he q
 rw [Z6f,s2,Z5K C.cm (fun _=>(-2:Int))]at s3
 omega
end
end MX
end
section
namespace MX
def Jn(d:Bd)(x y:Nat):Prop:=(d.a=x∧d.b=y)∨(d.b=x∧d.a=y)
theorem Jn.symm{d:Bd}{x y:Nat}(h:Jn d x y):Jn d y x:=h.elim (fun⟨a,b⟩=>.inr ⟨b,a⟩) fun⟨a,b⟩=>.inl ⟨b,a⟩
theorem Jn.eq{d:Bd}{x y z:Nat}(h:Jn d x y)(h2:Jn d x z)(hn:d.a≠d.b):y=z:=by
 rcases h with⟨a,b⟩ |⟨a,b⟩<;>rcases h2 with⟨a',b'⟩ |⟨a',b'⟩<;>first |(rw [←b,←b'];done) |(exfalso;apply hn;omega)
theorem Jn.ne{d:Bd}{x y:Nat}(h:Jn d x y)(hn:d.a≠d.b):x≠y:=by
 rcases h with⟨a,b⟩ |⟨a,b⟩<;>omega
theorem Jn.end{d:Bd}{x y z w:Nat}(h:Jn d x y)(h2:Jn d z w):z=x∨z=y:=by
 rcases h with⟨a,b⟩ |⟨a,b⟩<;>rcases h2 with⟨a',b'⟩ |⟨a',b'⟩<;>omega
def one(e:Nat)(t:Int):Nat→Int:=fun i=>if i=e then t else 0
def dl(x:Nat)(t:Int):Nat→Int:=fun v=>if v=x then t else 0
section
variable{G:Gr}
theorem Z3n(f g:Nat→Int)(v:Nat):G.bdr (fun e=>f e+g e) v=G.bdr f v+G.bdr g v:=by
 unfold Gr.bdr
 rw [←Z6f]
 exact Z5b fun e _=>Int.mul_add ..
theorem Z7g(v:Nat):G.bdr (fun _=>0) v=0:=Z4v fun e _=>Int.mul_zero _
theorem Z4T{e x y:Nat}(he:e<G.m)(h:Jn (G.bd e) x y)(t:Int)(v:Nat):G.bdr (one e t) v=dl x t v+dl y t v:=by
 unfold Gr.bdr one
 have:(fun i=>inc (G.bd i) v*if i=e then t else 0)=fun i=>if i=e then inc (G.bd i) v*t else 0:=by
  funext i;split<;>omega
 rw [this,Z5K he (fun i=>inc (G.bd i) v*t)]
 unfold inc dl
 rcases h with⟨rfl,rfl⟩ |⟨rfl,rfl⟩<;>split<;>split<;>omega
def Gr.Bnd(G:Gr)(f:Nat→Int):Prop:=∀ e,e<G.m→f e≤G.room 1 e∧-(G.room (-1) e)≤f e
theorem Z4X(h:G.Ok){e:Nat}(he:e<G.m)(t:Int):0≤G.room t e:=by
 have:=h.lo e he
 unfold Gr.room
 split<;>omega
theorem Z6U(h:G.Ok):G.Bnd fun _=>0:=fun e he=>⟨Z4X h he 1,by have:=Z4X h he (-1);show -(G.room (-1) e)≤0;omega⟩
theorem Z5G(h:G.Ok){e:Nat}{t:Int}(ht:t=1∨t=-1)(hr:0<G.room t e):G.Bnd (one e t):=fun i hi=>by
 have a:=Z4X h hi 1
 have b:=Z4X h hi (-1)
 unfold one
 by_cases q:i=e
 ·subst q
  rw [if_pos rfl]
  rcases ht with rfl |rfl<;>omega
 ·rw [if_neg q];omega
theorem Z3s{f g:Nat→Int}(hf:G.Bnd f)(hg:G.Bnd g)(hd:∀ e,f e=0∨g e=0):G.Bnd fun e=>f e+g e:=fun e he=>by
 have a:=hf e he
 have b:=hg e he
 show f e+g e≤_∧_≤f e+g e
 rcases hd e with q |q<;>rw [q]<;>omega
end
structure S where
 re:Nat→Prop
 root:Nat→Nat
 rk:Nat→Nat
 nx:Nat
 cb:Nat→Nat
 cf:Nat→Option Nat
 ar:Nat→Int
 tn:Nat→Int→Prop
 dn:Nat→Int→Nat→Prop
def S.up(s:S)(z:Nat):Option Nat:=(s.cf z).map s.root
structure S.Mu(s:S)(G:Gr)(c v:Nat)(t:Int)(μ:Nat→Int):Prop where
 bnd:G.Bnd μ
 sup:∀ e,μ e≠0→e<G.m∧e≠c∧s.re (G.bd e).a∧s.re (G.bd e).b∧s.root (G.bd e).a=s.root v∧s.root (G.bd e).b=s.root v
 bdr:∀ w,G.bdr μ w=-(dl (s.root v) (s.ar (s.root v)) w)-dl v t w
structure S.Ok(s:S)(G:Gr)(c:Nat)(T:Int):Prop where
 rn:∀ x,s.re x→x<G.n
 rkn:∀ x,s.re x→s.rk x<s.nx
 root:∀ x,s.re x→s.re (s.root x)∧s.root (s.root x)=s.root x∧(s.root x≠x→s.rk (s.root x)<s.rk x)
 first:∀ x,s.re x→s.tn x (-(s.ar x))∧(s.ar x=1∨s.ar x=-1)
 tnr:∀ x t,s.tn x t→s.re x∧(t=1∨t=-1)
 cls:∀ x y t,s.re x→s.re y→x≠y→s.root x=s.root y→(t=1∨t=-1)→s.tn x t
 top:∀ x,s.re x→s.cf x=none→s.cb x=c∧(x=(G.bd c).a∨x=(G.bd c).b)∧s.ar x=T
 tree:∀ x w,s.re x→s.cf x=some w→s.re w∧s.rk w<s.rk x∧s.cb x<G.m∧s.cb x≠c∧Jn (G.bd (s.cb x)) x w∧0<G.room (s.ar x) (s.cb x)∧s.tn w (s.ar x)∧s.dn w (s.ar x) (s.cb x)
 upp:∀ x,s.re x→s.root x≠x→∃ w,s.cf x=some w∧s.root w=s.root x
 ends:s.re (G.bd c).a∧s.re (G.bd c).b∧s.cf (G.bd c).a=none∧s.cf (G.bd c).b=none
 mu:∀ v t,s.tn v t→∃ μ,s.Mu G c v t μ
 d1:∀ x t e,s.dn x t e→s.tn x t∧e<G.m∧e≠c∧0<G.room t e∧∃ y,Jn (G.bd e) x y∧s.re y
 d2:∀ x y t e,Jn (G.bd e) x y→s.dn x t e→s.dn y t e→s.root x=s.root y∨(G.room t e=1∧((s.root x=x∧s.cb x=e∧s.ar x=t)∨(s.root y=y∧s.cb y=e∧s.ar y=t)))
 d4:∀ x y t e,Jn (G.bd e) x y→s.dn y t e→s.cb x=e→s.cf x=some y→s.ar x=-t→s.root x=s.root y
section
variable{G:Gr}{c:Nat}{T:Int}{s:S}
theorem S.Ok.rootTop(k:s.Ok G c T){x:Nat}(h:s.re x)(hc:s.cf x=none):s.root x=x:=by
 by_cases q:s.root x=x
 ·exact q
 ·obtain⟨w,e,_⟩:=k.upp x h q
  rw [hc]at e;cases e
inductive Path (up:Nat→Option Nat):Nat→List Nat→Option Nat→Prop
 |nil (m:Nat):Path up m [] (some m)
 |top (z:Nat):up z=none→Path up z [z] none
 |step (z z':Nat)(L:List Nat)(m:Option Nat):up z=some z'→some z≠m→Path up z' L m→Path up z (z::L) m
theorem up_lt(k:s.Ok G c T){z z':Nat}(hr:s.re z)(h:s.up z=some z'):s.re z'∧s.root z'=z'∧s.rk z' < s.rk z:=by
 unfold S.up at h
 cases e:s.cf z with
 |none=>rw [e]at h;cases h
 |some w =>
  rw [e]at h
  cases h
  obtain⟨h1,h2,_⟩:=k.tree z w hr e
  obtain⟨h3,h4,h5⟩:=k.root w h1
  refine⟨h3,h4,?_⟩
  by_cases q:s.root w=w
  ·rw [q];exact h2
  ·exact Z0Q (h5 q) h2
theorem Z6G(k:s.Ok G c T):∀ {z:Nat}{L:List Nat}{m:Option Nat},Path s.up z L m→s.re z→s.root z=z→(∀ w∈L,s.re w∧s.root w=w∧s.rk w≤s.rk z)∧∀ m',m=some m'→s.re m'∧s.root m'=m'∧s.rk m'≤s.rk z∧∀ w∈L,s.rk m' < s.rk w
 |_,_,_,.nil m,hr,hz=>⟨fun w hw=>by simp at hw,fun m' e=>by cases e;exact⟨hr,hz,Z0d _,fun w hw=>by simp at hw⟩⟩
 |_,_,_,.top z hu,hr,hz=>⟨fun w hw=>by rw [Z0l.mp hw];exact⟨hr,hz,Z0d _⟩,fun m' e=>by cases e⟩
 |_,_,_,.step z z' L m hu hne hp,hr,hz=>by
  obtain⟨a1,a2,a3⟩:=up_lt k hr hu
  obtain⟨b1,b2⟩:=Z6G k hp a1 a2
  refine⟨fun w hw=>?_,fun m' e=>?_⟩
  ·rcases Z0e.mp hw with rfl |hw
   ·exact⟨hr,hz,Z0d _⟩
   ·obtain⟨c1,c2,c3⟩:=b1 w hw
    exact⟨c1,c2,by omega⟩
  ·obtain⟨c1,c2,c3,c4⟩:=b2 m' e
   refine⟨c1,c2,by omega,fun w hw=>?_⟩
   rcases Z0e.mp hw with rfl |hw
   ·omega
   ·exact c4 w hw
theorem Z7I(k:s.Ok G c T){z z':Nat}{L:List Nat}{m:Option Nat}(hr:s.re z)(hz:s.root z=z)(hu:s.up z=some z')(hp:Path s.up z' L m):z∉L∧∀ w∈L,s.rk w<s.rk z:=by
 obtain⟨a1,a2,a3⟩:=up_lt k hr hu
 obtain⟨b1,_⟩:=Z6G k hp a1 a2
 have h:∀ w∈L,s.rk w<s.rk z:=fun w hw=>by have:=(b1 w hw).2.2;omega
 exact⟨fun hm=>Z0v _ (h z hm),h⟩
structure Kap(s:S)(G:Gr)(c v:Nat)(t:Int)(L:List Nat)(m:Nat)(κ:Nat→Int)(w:Nat)(r:Int):Prop where
 rew:s.re w
 rtw:s.root w=m
 tnw:s.tn w r
 bnd:G.Bnd κ
 sup:∀ e,κ e≠0→e<G.m∧e≠c∧s.re (G.bd e).a∧s.re (G.bd e).b∧(s.root (G.bd e).a∈L∨s.root (G.bd e).b∈L)∧(s.root (G.bd e).a∈L∨s.root (G.bd e).a=m)∧(s.root (G.bd e).b∈L∨s.root (G.bd e).b=m)
 stem:∀ e,κ e≠0→(s.root (G.bd e).a=m∨s.root (G.bd e).b=m)→∃ z∈L,∃ w',s.cb z=e∧Jn (G.bd e) z w'∧κ e=s.ar z
 bdr:∀ u,G.bdr κ u=-(dl v t u)+dl w r u
theorem kap(k:s.Ok G c T)(hG:G.Ok):∀ {L:List Nat}{z m v:Nat}{t:Int},Path s.up z L (some m)→s.re v→s.root v=z→s.tn v t→∃ κ w r,Kap s G c v t L m κ w r
 |[],z,m,v,t,hp,hv,hz,ht=>by
  have e:z=m:=by cases hp with |nil=>rfl
  subst e
  refine⟨fun _=>0,v,t,hv,hz,ht,Z6U hG,fun e h=>absurd rfl h,fun e h=>absurd rfl h,fun u=>?_⟩
  rw [Z7g];omega
 |y::L,z,m,v,t,hp,hv,hz,ht=>by
  have hyz:z=y:=by cases hp with |step _ _ _ _ _ _ _=>rfl
  subst hyz
  obtain⟨z',hu,hne,hp⟩:∃ z',s.up z=some z'∧some z≠some m∧Path s.up z' L (some m):=by
   cases hp with |step _ z' _ _ hu hne hp=>exact⟨z',hu,hne,hp⟩
  ·
   have hroot:=k.root v hv
   rw [hz]at hroot
   obtain⟨hrz,hzz,_⟩:=hroot
   obtain⟨nL,_⟩:=Z7I k hrz hzz hu hp
   have hu':=hu
   unfold S.up at hu'
   cases ec:s.cf z with
   |none=>rw [ec]at hu';cases hu'
   |some w1 =>
    rw [ec]at hu'
    have er:s.root w1=z':=Option.some.inj hu'
    obtain⟨t1,t2,t3,t4,t5,t6,t7,t8⟩:=k.tree z w1 hrz ec
    obtain⟨κ1,w,r,K1⟩:=kap k hG hp t1 er t7
    obtain⟨μ,M⟩:=k.mu v t ht
    have a1:=up_lt k hrz hu
    have mz:∀ m',some m=some m'→m'≠z:=fun m' e q=>hne (by rw [e,q])
    have mz:=mz m rfl
    have z'z:z'≠z:=fun q=>by have:=a1.2.2;rw [q]at this;exact Z0v _ this
    have hf:=(k.first z hrz).2
    have s1:∀ e,κ1 e≠0→s.root (G.bd e).a≠z∧s.root (G.bd e).b≠z:=fun e h=>by
     obtain⟨_,_,_,_,_,q1,q2⟩:=K1.sup e h
     refine⟨fun q=>?_,fun q=>?_⟩
     ·rcases q1 with q1 |q1
      ·rw [q]at q1;exact nL q1
      ·rw [q]at q1;exact mz q1.symm
     ·rcases q2 with q2 |q2
      ·rw [q]at q2;exact nL q2
      ·rw [q]at q2;exact mz q2.symm
    have s2:∀ e,μ e≠0→s.root (G.bd e).a=z∧s.root (G.bd e).b=z:=fun e h=>by
     obtain⟨_,_,_,_,q1,q2⟩:=M.sup e h
     rw [hz]at q1 q2
     exact⟨q1,q2⟩
    have s3:(s.root (G.bd (s.cb z)).a=z∧s.root (G.bd (s.cb z)).b=z')∨(s.root (G.bd (s.cb z)).b=z∧s.root (G.bd (s.cb z)).a=z'):=by
     rcases t5 with⟨q1,q2⟩ |⟨q1,q2⟩
     ·exact .inl ⟨by rw [q1];exact hzz,by rw [q2];exact er⟩
     ·exact .inr ⟨by rw [q1];exact hzz,by rw [q2];exact er⟩
    have d1:∀ e,μ e=0∨one (s.cb z) (s.ar z) e=0:=fun e=>by
     by_cases q:e=s.cb z
     ·left
      by_cases q2:μ e=0
      ·exact q2
      ·have:=s2 e q2
       rw [q]at this
       rcases s3 with⟨_,b⟩ |⟨_,b⟩
       ·rw [this.2]at b;exact absurd b.symm z'z
       ·rw [this.1]at b;exact absurd b.symm z'z
     ·right;unfold one;rw [if_neg q]
    have d2:∀ e,μ e+one (s.cb z) (s.ar z) e=0∨κ1 e=0:=fun e=>by
     by_cases q:κ1 e=0
     ·exact .inr q
     ·left
      have h1:=s1 e q
      have h2:μ e=0:=by
       by_cases q2:μ e=0
       ·exact q2
       ·exact absurd (s2 e q2).1 h1.1
      have h3:e≠s.cb z:=fun q3=>by
       rw [q3]at h1
       rcases s3 with⟨b,_⟩ |⟨b,_⟩
       ·exact h1.1 b
       ·exact h1.2 b
      rw [h2]
      unfold one
      rw [if_neg h3]
      rfl
    refine⟨fun e=>(μ e+one (s.cb z) (s.ar z) e)+κ1 e,w,r,K1.rew,K1.rtw,K1.tnw,Z3s (Z3s M.bnd (Z5G hG hf t6) d1) K1.bnd d2,fun e h=>?_,fun e h hm=>?_,fun u=>?_⟩
    ·by_cases q1:κ1 e=0
     ·by_cases q2:e=s.cb z
      ·rw [q2]
       refine⟨t3,t4,?_⟩
       have hz':z'∈L∨z'=m:=by
        cases hp with
        |nil=>exact .inr rfl
        |step _ _ _ _ _ _ _=>exact .inl (Z0h ..)
       have rea:s.re (G.bd (s.cb z)).a∧s.re (G.bd (s.cb z)).b:=by
        rcases t5 with⟨q1,q2⟩ |⟨q1,q2⟩
        ·rw [q1,q2];exact⟨hrz,t1⟩
        ·rw [q1,q2];exact⟨t1,hrz⟩
       refine⟨rea.1,rea.2,?_⟩
       rcases s3 with⟨b1,b2⟩ |⟨b1,b2⟩
       ·rw [b1,b2]
        exact⟨.inl (Z0h ..),.inl (Z0h ..),hz'.elim (fun q=>.inl (Z0g _ q)) .inr⟩
       ·rw [b1,b2]
        exact⟨.inr (Z0h ..),hz'.elim (fun q=>.inl (Z0g _ q)) .inr,.inl (Z0h ..)⟩
      ·have q3:μ e≠0:=fun q3=>h (by show μ e+one (s.cb z) (s.ar z) e+κ1 e=0;rw [q1,q3];unfold one;rw [if_neg q2];rfl)
       obtain⟨m1,m2,m3,m4,m5,m6⟩:=M.sup e q3
       rw [hz]at m5 m6
       rw [m5,m6]
       exact⟨m1,m2,m3,m4,.inl (Z0h ..),.inl (Z0h ..),.inl (Z0h ..)⟩
     ·obtain⟨m1,m2,m3,m4,m5,m6,m7⟩:=K1.sup e q1
      exact⟨m1,m2,m3,m4,m5.imp (Z0g _) (Z0g _),m6.imp_left (Z0g _),m7.imp_left (Z0g _)⟩
    ·by_cases q1:κ1 e=0
     ·by_cases q2:e=s.cb z
      ·refine⟨z,Z0h ..,w1,q2.symm,by rw [q2];exact t5,?_⟩
       have h2:μ e=0:=by
        rcases d1 e with q |q
        ·exact q
        ·rw [q2]at q;unfold one at q;rw [if_pos rfl]at q;rcases hf with z |z<;>omega
       show μ e+one (s.cb z) (s.ar z) e+κ1 e=s.ar z
       rw [q1,h2,q2];unfold one;rw [if_pos rfl];omega
      ·have q3:μ e≠0:=fun q3=>h (by show μ e+one (s.cb z) (s.ar z) e+κ1 e=0;rw [q1,q3];unfold one;rw [if_neg q2];rfl)
       obtain⟨m5,m6⟩:=s2 e q3
       rw [m5,m6]at hm
       exact absurd (hm.elim id id).symm mz
     ·obtain⟨y',hy,w',a1,a2,a3⟩:=K1.stem e q1 hm
      refine⟨y',Z0g _ hy,w',a1,a2,?_⟩
      show μ e+one (s.cb z) (s.ar z) e+κ1 e=s.ar y'
      rcases d2 e with q |q
      ·omega
      ·exact absurd q q1
    ·rw [Z3n,Z3n,M.bdr,Z4T t3 t5,K1.bdr,hz]
     omega
end
end MX
end
section
namespace MX
section
variable{G:Gr}{c:Nat}{T:Int}{s:S}
structure Nu(s:S)(G:Gr)(c:Nat)(T:Int)(v:Nat)(t:Int)(L:List Nat)(ν:Nat→Int)(p:Nat):Prop where
 top:p=(G.bd c).a∨p=(G.bd c).b
 mem:p∈L
 bnd:G.Bnd ν
 sup:∀ e,ν e≠0→e<G.m∧e≠c∧s.root (G.bd e).a∈L∧s.root (G.bd e).b∈L
 bdr:∀ u,G.bdr ν u=-(dl v t u)-dl p T u
theorem nu(k:s.Ok G c T)(hG:G.Ok):∀ {L:List Nat}{z v:Nat}{t:Int},Path s.up z L none→s.re v→s.root v=z→s.tn v t→∃ ν p,Nu s G c T v t L ν p
 |[],z,v,t,hp,hv,hz,ht=>by cases hp
 |y::L,z,v,t,hp,hv,hz,ht=>by
  have hyz:z=y:=by cases hp<;>rfl
  subst hyz
  have hroot:=k.root v hv
  rw [hz]at hroot
  obtain⟨hrz,hzz,_⟩:=hroot
  obtain⟨μ,M⟩:=k.mu v t ht
  have cases2:(L=[]∧s.up z=none)∨∃ z',s.up z=some z'∧Path s.up z' L none:=by
   cases hp with
   |top _ hu=>exact .inl ⟨rfl,hu⟩
   |step _ z' _ _ hu hne hp=>exact .inr ⟨z',hu,hp⟩
  rcases cases2 with⟨rfl,hu⟩ |⟨z',hu,hp⟩
  ·have ec:s.cf z=none:=by
    unfold S.up at hu
    cases e:s.cf z with
    |none=>rfl
    |some w=>rw [e]at hu;cases hu
   obtain⟨c1,c2,c3⟩:=k.top z hrz ec
   refine⟨μ,z,c2,Z0h ..,M.bnd,fun e h=>?_,fun u=>?_⟩
   ·obtain⟨m1,m2,m3,m4,m5,m6⟩:=M.sup e h
    rw [hz]at m5 m6
    rw [m5,m6]
    exact⟨m1,m2,Z0h ..,Z0h ..⟩
   ·rw [M.bdr,hz,c3];omega
  ·obtain⟨nL,_⟩:=Z7I k hrz hzz hu hp
   have hu':=hu
   unfold S.up at hu'
   cases ec:s.cf z with
   |none=>rw [ec]at hu';cases hu'
   |some w1 =>
    rw [ec]at hu'
    have er:s.root w1=z':=Option.some.inj hu'
    obtain⟨t1,t2,t3,t4,t5,t6,t7,t8⟩:=k.tree z w1 hrz ec
    obtain⟨ν1,p,N1⟩:=nu k hG hp t1 er t7
    have a1:=up_lt k hrz hu
    have z'z:z'≠z:=fun q=>by have:=a1.2.2;rw [q]at this;exact Z0v _ this
    have hf:=(k.first z hrz).2
    have s1:∀ e,ν1 e≠0→s.root (G.bd e).a≠z∧s.root (G.bd e).b≠z:=fun e h=>by
     obtain⟨_,_,q1,q2⟩:=N1.sup e h
     exact⟨fun q=>nL (q ▸ q1),fun q=>nL (q ▸ q2)⟩
    have s2:∀ e,μ e≠0→s.root (G.bd e).a=z∧s.root (G.bd e).b=z:=fun e h=>by
     obtain⟨_,_,_,_,q1,q2⟩:=M.sup e h
     rw [hz]at q1 q2
     exact⟨q1,q2⟩
    have s3:(s.root (G.bd (s.cb z)).a=z∧s.root (G.bd (s.cb z)).b=z')∨(s.root (G.bd (s.cb z)).b=z∧s.root (G.bd (s.cb z)).a=z'):=by
     rcases t5 with⟨q1,q2⟩ |⟨q1,q2⟩
     ·exact .inl ⟨by rw [q1];exact hzz,by rw [q2];exact er⟩
     ·exact .inr ⟨by rw [q1];exact hzz,by rw [q2];exact er⟩
    have d1:∀ e,μ e=0∨one (s.cb z) (s.ar z) e=0:=fun e=>by
     by_cases q:e=s.cb z
     ·left
      by_cases q2:μ e=0
      ·exact q2
      ·have:=s2 e q2
       rw [q]at this
       rcases s3 with⟨_,b⟩ |⟨_,b⟩
       ·rw [this.2]at b;exact absurd b.symm z'z
       ·rw [this.1]at b;exact absurd b.symm z'z
     ·right;unfold one;rw [if_neg q]
    have d2:∀ e,μ e+one (s.cb z) (s.ar z) e=0∨ν1 e=0:=fun e=>by
     by_cases q:ν1 e=0
     ·exact .inr q
     ·left
      have h1:=s1 e q
      have h2:μ e=0:=by
       by_cases q2:μ e=0
       ·exact q2
       ·exact absurd (s2 e q2).1 h1.1
      have h3:e≠s.cb z:=fun q3=>by
       rw [q3]at h1
       rcases s3 with⟨b,_⟩ |⟨b,_⟩
       ·exact h1.1 b
       ·exact h1.2 b
      rw [h2]
      unfold one
      rw [if_neg h3]
      rfl
    have hz':z'∈L:=by
     cases hp with
     |top _ _=>exact Z0h ..
     |step _ _ _ _ _ _ _=>exact Z0h ..
    refine⟨fun e=>(μ e+one (s.cb z) (s.ar z) e)+ν1 e,p,N1.top,Z0g _ N1.mem,Z3s (Z3s M.bnd (Z5G hG hf t6) d1) N1.bnd d2,fun e h=>?_,fun u=>?_⟩
    ·by_cases q1:ν1 e=0
     ·by_cases q2:e=s.cb z
      ·rw [q2]
       refine⟨t3,t4,?_⟩
       rcases s3 with⟨b1,b2⟩ |⟨b1,b2⟩
       ·rw [b1,b2];exact⟨Z0h ..,Z0g _ hz'⟩
       ·rw [b1,b2];exact⟨Z0g _ hz',Z0h ..⟩
      ·have q3:μ e≠0:=fun q3=>h (by show μ e+one (s.cb z) (s.ar z) e+ν1 e=0;rw [q1,q3];unfold one;rw [if_neg q2];rfl)
       obtain⟨m1,m2,m3,m4,m5,m6⟩:=M.sup e q3
       rw [hz]at m5 m6
       rw [m5,m6]
       exact⟨m1,m2,Z0h ..,Z0h ..⟩
     ·obtain⟨m1,m2,m3,m4⟩:=N1.sup e q1
      exact⟨m1,m2,Z0g _ m3,Z0g _ m4⟩
    ·rw [Z3n,Z3n,M.bdr,Z4T t3 t5,N1.bdr,hz]
     omega
theorem found(k:s.Ok G c T)(hG:G.Ok)(hcm:c<G.m)(ho:(G.bd c).o=2)(hT:T=1∨T=-1){x y e:Nat}{t:Int}{C D:List Nat}(he:e<G.m)(hec:e≠c)(hj:Jn (G.bd e) x y)(hr:0<G.room t e)
  (tx:s.tn x t)(ty:s.tn y t)(pC:Path s.up (s.root x) C none)(pD:Path s.up (s.root y) D none)(dis:∀ z,z∈C→z∉D):∃ δ,G.Chg δ∧δ c=T:=by
 obtain⟨rx,ht⟩:=k.tnr x t tx
 obtain⟨ry,_⟩:=k.tnr y t ty
 obtain⟨f,p,F⟩:=nu k hG pC rx rfl tx
 obtain⟨g,q,Gq⟩:=nu k hG pD ry rfl ty
 have head:∀ {z:Nat}{L:List Nat},Path s.up z L none→z∈L:=fun{z L} h=>by
  cases h with
  |top _ _=>exact Z0h ..
  |step _ _ _ _ _ _ _=>exact Z0h ..
 have hx:=head pC
 have hy:=head pD
 have sx:∀ i,f i≠0→s.root (G.bd i).a∉D∧s.root (G.bd i).b∉D:=fun i h=>let ⟨_,_,a,b⟩:=F.sup i h;⟨dis _ a,dis _ b⟩
 have d1:∀ i,f i=0∨g i=0:=fun i=>by
  by_cases h:f i=0
  ·exact .inl h
  ·right
   by_cases h2:g i=0
   ·exact h2
   ·exact absurd (Gq.sup i h2).2.2.1 (sx i h).1
 have fe:f e=0:=by
  by_cases h:f e=0
  ·exact h
  ·obtain⟨_,_,a,b⟩:=F.sup e h
   rcases hj with⟨q1,q2⟩ |⟨q1,q2⟩
   ·rw [q2]at b;exact absurd hy (dis _ b)
   ·rw [q2]at a;exact absurd hy (dis _ a)
 have ge:g e=0:=by
  by_cases h:g e=0
  ·exact h
  ·obtain⟨_,_,a,b⟩:=Gq.sup e h
   rcases hj with⟨q1,q2⟩ |⟨q1,q2⟩
   ·rw [q1]at a;exact absurd a (dis _ hx)
   ·rw [q1]at b;exact absurd b (dis _ hx)
 have fc:f c=0:=by
  by_cases h:f c=0
  ·exact h
  ·exact absurd rfl (F.sup c h).2.1
 have gc:g c=0:=by
  by_cases h:g c=0
  ·exact h
  ·exact absurd rfl (Gq.sup c h).2.1
 have rc:∀ t:Int,G.room t c=1:=fun t=>by unfold Gr.room;rw [ho];split<;>rfl
 have b1:=Z3s F.bnd Gq.bnd d1
 have b2:=Z3s b1 (Z5G hG ht hr) fun i=>by
  by_cases h:i=e
  ·rw [h];left;show f e+g e=0;omega
  ·right;unfold one;rw [if_neg h]
 have b3:=Z3s b2 (Z5G hG hT (by rw [rc];decide)) fun i=>by
  by_cases h:i=c
  ·rw [h];left;show f c+g c+one e t c=0;unfold one;rw [if_neg (Ne.symm hec)];omega
  ·right;unfold one;rw [if_neg h]
 refine⟨fun i=>f i+g i+one e t i+one c T i,⟨fun i hi=>?_,fun i hi=>?_,fun v _=>?_⟩,?_⟩
 ·have:=(b3 i hi).1;unfold Gr.room at this;rw [if_pos rfl]at this;exact this
 ·have:=(b3 i hi).2;unfold Gr.room at this;rw [if_neg (by decide)]at this;exact this
 ·rw [Z3n,Z3n,Z3n,F.bdr,Gq.bdr,Z4T he hj,Z4T hcm (.inl ⟨rfl,rfl⟩)]
  have pq:p≠q:=fun z=>dis p F.mem (z ▸ Gq.mem)
  rcases F.top with rfl |rfl<;>rcases Gq.top with rfl |rfl
  ·exact absurd rfl pq
  ·omega
  ·omega
  ·exact absurd rfl pq
 ·show f c+g c+one e t c+one c T c=T
  unfold one
  rw [if_neg (Ne.symm hec),if_pos rfl]
  omega
end
end MX
end
section
namespace MX
section
variable{G:Gr}{c:Nat}{T:Int}{s:S}
theorem Z3l{up:Nat→Option Nat}{z:Nat}{L:List Nat}{m:Nat}(h:Path up z L (some m)):z∈L∨z=m:=by
 cases h with
 |nil=>exact .inr rfl
 |step _ _ _ _ _ _ _=>exact .inl (Z0h ..)
theorem Z4Q(k:s.Ok G c T):∀ {L:List Nat}{x m z:Nat},Path s.up x L (some m)→s.re x→s.root x=x→z∈L→∃ C1 C2,L=C1++z::C2∧Path s.up x C1 (some z)∧Path s.up z (z::C2) (some m)∧(∀ w∈C1,w∈L)∧∀ w∈C2,w∈L
 |[],x,m,z,h,hr,hx,hz=>by simp at hz
 |y::L,x,m,z,h,hr,hx,hz=>by
  have hyx:x=y:=by cases h with |step _ _ _ _ _ _ _=>rfl
  subst hyx
  obtain⟨x',hu,hne,hp⟩:∃ x',s.up x=some x'∧some x≠some m∧Path s.up x' L (some m):=by
   cases h with |step _ x' _ _ hu hne hp=>exact⟨x',hu,hne,hp⟩
  obtain⟨nL,_⟩:=Z7I k hr hx hu hp
  rcases Z0e.mp hz with rfl |hz
  ·exact⟨[],L,rfl,.nil _,.step _ x' _ _ hu hne hp,fun w hw=>by simp at hw,fun w hw=>Z0g _ hw⟩
  ·obtain⟨a1,a2,a3⟩:=up_lt k hr hu
   obtain⟨C1,C2,e,p1,p2,b1,b2⟩:=Z4Q k hp a1 a2 hz
   refine⟨x::C1,C2,by rw [e];rfl,.step _ x' _ _ hu (fun q=>?_) p1,p2,fun w hw=>?_,fun w hw=>Z0g _ (b2 w hw)⟩
   ·cases q;exact nL hz
   ·rcases Z0e.mp hw with rfl |hw
    ·exact Z0h ..
    ·exact Z0g _ (b1 w hw)
structure Ring(s:S)(G:Gr)(c x y e:Nat)(t:Int)(C D:List Nat)(m:Nat):Prop where
 tx:s.tn x t
 ty:s.tn y t
 he:e<G.m
 hec:e≠c
 hj:Jn (G.bd e) x y
 hr:0<G.room t e
 pC:Path s.up (s.root x) C (some m)
 pD:Path s.up (s.root y) D (some m)
 dis:∀ z,z∈C→z∉D
theorem Ring.symm{x y e:Nat}{t:Int}{C D:List Nat}{m:Nat}(R:Ring s G c x y e t C D m):Ring s G c y x e t D C m:=⟨R.ty,R.tx,R.he,R.hec,R.hj.symm,R.hr,R.pD,R.pC,fun z a b=>R.dis z b a⟩
structure RMu(s:S)(G:Gr)(c:Nat)(C D:List Nat)(m v:Nat)(t:Int)(μ:Nat→Int):Prop where
 bnd:G.Bnd μ
 sup:∀ e,μ e≠0→e<G.m∧e≠c∧s.re (G.bd e).a∧s.re (G.bd e).b∧(s.root (G.bd e).a∈C∨s.root (G.bd e).a∈D∨s.root (G.bd e).a=m)∧(s.root (G.bd e).b∈C∨s.root (G.bd e).b∈D∨s.root (G.bd e).b=m)
 bdr:∀ w,G.bdr μ w=-(dl m (s.ar m) w)-dl v t w
theorem RMu.swap{C D:List Nat}{m v:Nat}{t:Int}{μ:Nat→Int}(h:RMu s G c C D m v t μ):RMu s G c D C m v t μ :=
 ⟨h.bnd,fun e q=>let ⟨a,b,c1,d,f,g⟩:=h.sup e q;⟨a,b,c1,d,f.elim (fun z=>.inr (.inl z)) fun z=>z.elim .inl fun z=>.inr (.inr z),g.elim (fun z=>.inr (.inl z)) fun z=>z.elim .inl fun z=>.inr (.inr z)⟩,h.bdr⟩
theorem Z7s(k:s.Ok G c T){x y e:Nat}{t:Int}{C D:List Nat}{m:Nat}(R:Ring s G c x y e t C D m):s.re m∧s.root m=m∧m∉C∧m∉D∧(∀ z∈C,s.re z∧s.root z=z∧s.rk m<s.rk z)∧∀ z∈D,s.re z∧s.root z=z∧s.rk m<s.rk z:=by
 have rx:=(k.tnr x t R.tx).1
 have ry:=(k.tnr y t R.ty).1
 obtain⟨a1,a2⟩:=Z6G k R.pC (k.root x rx).1 (k.root x rx).2.1
 obtain⟨b1,b2⟩:=Z6G k R.pD (k.root y ry).1 (k.root y ry).2.1
 obtain⟨c1,c2,c3,c4⟩:=a2 m rfl
 obtain⟨_,_,_,d4⟩:=b2 m rfl
 exact⟨c1,c2,fun h=>Z0v _ (c4 m h),fun h=>Z0v _ (d4 m h),fun z hz=>⟨(a1 z hz).1,(a1 z hz).2.1,c4 z hz⟩,fun z hz=>⟨(b1 z hz).1,(b1 z hz).2.1,d4 z hz⟩⟩
theorem Z8T(k:s.Ok G c T)(hG:G.Ok){x y e v:Nat}{t u:Int}{C D:List Nat}{m:Nat}(R:Ring s G c x y e t C D m)(hv:s.re v)(hc:s.root v∈C)(hu:s.tn v u):∃ μ,RMu s G c C D m v u μ:=by
 obtain⟨m1,m2,m3,m4,m5,m6⟩:=Z7s k R
 have rx:=(k.tnr x t R.tx).1
 obtain⟨C1,C2,e1,p1,p2,b1,b2⟩:=Z4Q k R.pC (k.root x rx).1 (k.root x rx).2.1 hc
 have sub:∀ w,w∈s.root v::C2→w∈C:=fun w hw=>by
  rcases Z0e.mp hw with rfl |hw
  ·exact hc
  ·exact b2 w hw
 obtain⟨κ,w,r,K⟩:=kap k hG p2 hv rfl hu
 obtain⟨μ,M⟩:=k.mu w r K.tnw
 have hM:∀ i,μ i≠0→s.root (G.bd i).a=m∧s.root (G.bd i).b=m:=fun i h=>by
  obtain⟨_,_,_,_,q1,q2⟩:=M.sup i h
  rw [K.rtw]at q1 q2
  exact⟨q1,q2⟩
 have d:∀ i,κ i=0∨μ i=0:=fun i=>by
  by_cases h:κ i=0
  ·exact .inl h
  ·right
   by_cases h2:μ i=0
   ·exact h2
   ·obtain⟨q1,q2⟩:=hM i h2
    obtain⟨_,_,_,_,q,_,_⟩:=K.sup i h
    rw [q1,q2]at q
    exact absurd (sub m (q.elim id id)) m3
 refine⟨fun i=>κ i+μ i,Z3s K.bnd M.bnd d,fun i h=>?_,fun q=>?_⟩
 ·by_cases h1:κ i=0
  ·have h2:μ i≠0:=fun z=>h (by show κ i+μ i=0;rw [h1,z];rfl)
   obtain⟨a1,a2,a3,a4,_,_⟩:=M.sup i h2
   obtain⟨q1,q2⟩:=hM i h2
   exact⟨a1,a2,a3,a4,.inr (.inr q1),.inr (.inr q2)⟩
  ·obtain⟨a1,a2,a3,a4,_,a6,a7⟩:=K.sup i h1
   exact⟨a1,a2,a3,a4,a6.elim (fun z=>.inl (sub _ z)) fun z=>.inr (.inr z),a7.elim (fun z=>.inl (sub _ z)) fun z=>.inr (.inr z)⟩
 ·rw [Z3n,K.bdr,M.bdr,K.rtw]
  omega
theorem Z9k(k:s.Ok G c T)(hG:G.Ok){x y e z:Nat}{t:Int}{C D:List Nat}{m:Nat}(R:Ring s G c x y e t C D m)(hz:z∈C)(hn:¬ s.tn z (s.ar z)):∃ μ,RMu s G c C D m z (s.ar z) μ:=by
 obtain⟨m1,m2,m3,m4,m5,m6⟩:=Z7s k R
 have rx:=(k.tnr x t R.tx).1
 have ry:=(k.tnr y t R.ty).1
 obtain⟨C1,C2,e1,p1,p2,b1,b2⟩:=Z4Q k R.pC (k.root x rx).1 (k.root x rx).2.1 hz
 obtain⟨hrz,hzz,hmz⟩:=m5 z hz
 have hsz:=(k.first z hrz).2
 obtain⟨κ1,w1,r1,K1⟩:=kap k hG p1 rx rfl R.tx
 have hw1:w1=z:=by
  by_cases q:w1=z
  ·exact q
  ·exact absurd (k.cls z w1 (s.ar z) hrz K1.rew (fun z'=>q z'.symm) (by rw [K1.rtw,hzz]) hsz) hn
 subst hw1
 have hr1:r1=-(s.ar w1):=by
  have h2:=(k.tnr w1 r1 K1.tnw).2
  by_cases q:r1=s.ar w1
  ·rw [q]at K1;exact absurd K1.tnw hn
  ·omega
 obtain⟨κy,wy,ry',Ky⟩:=kap k hG R.pD ry rfl R.ty
 obtain⟨μ,M⟩:=k.mu wy ry' Ky.tnw
 have hM:∀ i,μ i≠0→s.root (G.bd i).a=m∧s.root (G.bd i).b=m:=fun i h=>by
  obtain⟨_,_,_,_,q1,q2⟩:=M.sup i h
  rw [Ky.rtw]at q1 q2
  exact⟨q1,q2⟩
 have h1:∀ i,κ1 i≠0→s.root (G.bd i).a∈C∧s.root (G.bd i).b∈C:=fun i h=>by
  obtain⟨_,_,_,_,_,a6,a7⟩:=K1.sup i h
  exact⟨a6.elim (b1 _) fun q=>by rw [q];exact hz,a7.elim (b1 _) fun q=>by rw [q];exact hz⟩
 have hy:∀ i,κy i≠0→s.root (G.bd i).a∉C∧s.root (G.bd i).b∉C:=fun i h=>by
  obtain⟨_,_,_,_,_,a6,a7⟩:=Ky.sup i h
  exact⟨fun q=>a6.elim (R.dis _ q) fun z'=>by rw [z']at q;exact m3 q,fun q=>a7.elim (R.dis _ q) fun z'=>by rw [z']at q;exact m3 q⟩
 have xC:s.root x∈C:=by
  rcases Z3l R.pC with q |q
  ·exact q
  ·have hpc:=R.pC
   rw [q]at hpc
   cases hpc with
   |nil=>simp at hz
   |step _ _ _ _ _ hne _=>exact absurd rfl hne
 have yD:s.root y∉C:=by
  rcases Z3l R.pD with q |q
  ·exact fun z'=>R.dis _ z' q
  ·rw [q];exact m3
 have eA:(s.root (G.bd e).a∈C∧s.root (G.bd e).b∉C)∨(s.root (G.bd e).b∈C∧s.root (G.bd e).a∉C):=by
  rcases R.hj with⟨q1,q2⟩ |⟨q1,q2⟩
  ·rw [q1,q2];exact .inl ⟨xC,yD⟩
  ·rw [q1,q2];exact .inr ⟨xC,yD⟩
 have d1:∀ i,κy i=0∨μ i=0:=fun i=>by
  by_cases h:κy i=0
  ·exact .inl h
  ·right
   by_cases h2:μ i=0
   ·exact h2
   ·obtain⟨q1,q2⟩:=hM i h2
    obtain⟨_,_,_,_,q,_,_⟩:=Ky.sup i h
    rw [q1,q2]at q
    exact absurd (q.elim id id) m4
 have d2:∀ i,κy i+μ i=0∨one e t i=0:=fun i=>by
  by_cases h:i=e
  ·left
   have a:κy i=0:=by
    by_cases q:κy i=0
    ·exact q
    ·have:=hy i q
     rw [h]at this
     rcases eA with z' |z'
     ·exact absurd z'.1 this.1
     ·exact absurd z'.1 this.2
   have b:μ i=0:=by
    by_cases q:μ i=0
    ·exact q
    ·have:=hM i q
     rw [h]at this
     rcases eA with z' |z'
     ·rw [this.1]at z';exact absurd z'.1 m3
     ·rw [this.2]at z';exact absurd z'.1 m3
   rw [a,b];rfl
  ·right;unfold one;rw [if_neg h]
 have d3:∀ i,κy i+μ i+one e t i=0∨κ1 i=0:=fun i=>by
  by_cases h:κ1 i=0
  ·exact .inr h
  ·left
   obtain⟨q1,q2⟩:=h1 i h
   have a:κy i=0:=by
    by_cases q:κy i=0
    ·exact q
    ·exact absurd q1 (hy i q).1
   have b:μ i=0:=by
    by_cases q:μ i=0
    ·exact q
    ·rw [(hM i q).1]at q1;exact absurd q1 m3
   have c1:i≠e:=fun q=>by
    rw [q]at q1 q2
    rcases eA with z' |z'
    ·exact z'.2 q2
    ·exact z'.2 q1
   rw [a,b];unfold one;rw [if_neg c1];rfl
 have hs:=(k.tnr x t R.tx).2
 refine⟨fun i=>κy i+μ i+one e t i+κ1 i,Z3s (Z3s (Z3s Ky.bnd M.bnd d1) (Z5G hG hs R.hr) d2) K1.bnd d3,fun i h=>?_,fun q=>?_⟩
 ·by_cases q1:κ1 i=0
  ·by_cases q2:i=e
   ·rw [q2]
    refine⟨R.he,R.hec,?_⟩
    have yy:s.root y∈C∨s.root y∈D∨s.root y=m:=(Z3l R.pD).elim (fun z'=>.inr (.inl z')) fun z'=>.inr (.inr z')
    rcases R.hj with⟨j1,j2⟩ |⟨j1,j2⟩
    ·rw [j1,j2];exact⟨rx,ry,.inl xC,yy⟩
    ·rw [j1,j2];exact⟨ry,rx,yy,.inl xC⟩
   ·by_cases q3:κy i=0
    ·have q4:μ i≠0:=fun z'=>h (by show κy i+μ i+one e t i+κ1 i=0;rw [q1,q3,z'];unfold one;rw [if_neg q2];rfl)
     obtain⟨a1,a2,a3,a4,_,_⟩:=M.sup i q4
     obtain⟨z1,z2⟩:=hM i q4
     exact⟨a1,a2,a3,a4,.inr (.inr z1),.inr (.inr z2)⟩
    ·obtain⟨a1,a2,a3,a4,_,a6,a7⟩:=Ky.sup i q3
     exact⟨a1,a2,a3,a4,.inr a6,.inr a7⟩
  ·obtain⟨a1,a2,a3,a4,_,_,_⟩:=K1.sup i q1
   obtain⟨z1,z2⟩:=h1 i q1
   exact⟨a1,a2,a3,a4,.inl z1,.inl z2⟩
 ·rw [Z3n,Z3n,Z3n,Ky.bdr,M.bdr,Ky.rtw,Z4T R.he R.hj,K1.bdr,hr1]
  unfold dl
  split<;>split<;>split<;>split<;>split<;>omega
theorem ring_top(k:s.Ok G c T)(hG:G.Ok){x y e:Nat}{t:Int}{C D:List Nat}{m:Nat}(R:Ring s G c x y e t C D m)(hn:¬ s.tn m (s.ar m))(hxy:s.root x≠s.root y)
  (hx:s.cb x=e→s.root x=x→s.ar x=t→2≤G.room t e)(hy:s.cb y=e→s.root y=y→s.ar y=t→2≤G.room t e):∃ μ,RMu s G c C D m m (s.ar m) μ:=by
 obtain⟨m1,m2,m3,m4,m5,m6⟩:=Z7s k R
 have rx:=(k.tnr x t R.tx).1
 have ry:=(k.tnr y t R.ty).1
 have hsm:=(k.first m m1).2
 obtain⟨f,wx,r,Kx⟩:=kap k hG R.pC rx rfl R.tx
 obtain⟨g,wy,r',Ky⟩:=kap k hG R.pD ry rfl R.ty
 have alone:∀ {w:Nat},s.re w→s.root w=m→w=m:=fun{w} h1 h2=>by
  by_cases q:w=m
  ·exact q
  ·exact absurd (k.cls m w (s.ar m) m1 h1 (fun z'=>q z'.symm) (by rw [h2,m2]) hsm) hn
 have ewx:=alone Kx.rew Kx.rtw
 have ewy:=alone Ky.rew Ky.rtw
 subst ewx
 have hr1:r=-(s.ar wx):=by
  have h2:=(k.tnr wx r Kx.tnw).2
  by_cases q:r=s.ar wx
  ·rw [q]at Kx;exact absurd Kx.tnw hn
  ·omega
 have hr2:r'=-(s.ar wx):=by
  have h3:=Ky.tnw
  rw [ewy]at h3
  have h2:=(k.tnr wx r' h3).2
  by_cases q:r'=s.ar wx
  ·rw [q]at h3;exact absurd h3 hn
  ·omega
 have d1:∀ i,f i=0∨g i=0:=fun i=>by
  by_cases h:f i=0
  ·exact .inl h
  ·right
   by_cases h2:g i=0
   ·exact h2
   ·obtain⟨_,_,_,_,a5,_,_⟩:=Kx.sup i h
    obtain⟨_,_,_,_,_,b6,b7⟩:=Ky.sup i h2
    rcases a5 with q |q
    ·exact(b6.elim (R.dis _ q) fun z'=>by rw [z']at q;exact m3 q).elim
    ·exact(b7.elim (R.dis _ q) fun z'=>by rw [z']at q;exact m3 q).elim
 have sg:=(k.tnr x t R.tx).2
 have fe:f e=0∨(f e=s.ar x∧s.cb x=e∧s.root x=x):=by
  by_cases h:f e=0
  ·exact .inl h
  ·right
   obtain⟨_,_,_,_,a5,a6,a7⟩:=Kx.sup e h
   have yin:s.root y∈C∨s.root y=wx:=by
    rcases R.hj with⟨j1,j2⟩ |⟨j1,j2⟩
    ·rw [j2]at a7;exact a7
    ·rw [j2]at a6;exact a6
   have ym:s.root y=wx:=yin.elim (fun q=>(Z3l R.pD).elim (fun z'=>(R.dis _ q z').elim) id) id
   obtain⟨z,hz,w',s1,s2,s3⟩:=Kx.stem e h (by
    rcases R.hj with⟨j1,j2⟩ |⟨j1,j2⟩
    ·rw [j2];exact .inr ym
    ·rw [j2];exact .inl ym)
   obtain⟨_,zz,_⟩:=m5 z hz
   rcases R.hj.end s2 with q |q
   ·subst q;exact⟨s3,s1,zz⟩
   ·rw [q]at zz hz
    rw [zz]at ym
    rw [ym]at hz
    exact absurd hz m3
 have ge:g e=0∨(g e=s.ar y∧s.cb y=e∧s.root y=y):=by
  by_cases h:g e=0
  ·exact .inl h
  ·right
   obtain⟨_,_,_,_,a5,a6,a7⟩:=Ky.sup e h
   have xin:s.root x∈D∨s.root x=wx:=by
    rcases R.hj with⟨j1,j2⟩ |⟨j1,j2⟩
    ·rw [j1]at a6;exact a6
    ·rw [j1]at a7;exact a7
   have xm:s.root x=wx:=xin.elim (fun q=>(Z3l R.pC).elim (fun z'=>(R.dis _ z' q).elim) id) id
   obtain⟨z,hz,w',s1,s2,s3⟩:=Ky.stem e h (by
    rcases R.hj with⟨j1,j2⟩ |⟨j1,j2⟩
    ·rw [j1];exact .inl xm
    ·rw [j1];exact .inr xm)
   obtain⟨_,zz,_⟩:=m6 z hz
   rcases R.hj.end s2 with q |q
   ·rw [q]at zz hz
    rw [zz]at xm
    rw [xm]at hz
    exact absurd hz m4
   ·subst q;exact⟨s3,s1,zz⟩
 have b0:=Z3s Kx.bnd Ky.bnd d1
 have one_nn:=fun i hi=>Z4X hG (e:=i) hi 1
 have two_nn:=fun i hi=>Z4X hG (e:=i) hi (-1)
 have bnd:G.Bnd fun i=>f i+g i+one e t i:=fun i hi=>by
  by_cases h:i=e
  ·subst h
   show f i+g i+one i t i≤_∧_≤f i+g i+one i t i
   unfold one
   rw [if_pos rfl]
   have a:=one_nn i hi
   have b:=two_nn i hi
   have hr:=R.hr
   have fin:∀ v:Int,(v=0∨(v=1∨v=-1)∧(v=t→2≤G.room t i))→v+t≤G.room 1 i∧-(G.room (-1) i)≤v+t:=fun v hv=>by
    rcases sg with rfl |rfl
    ·rcases hv with rfl |⟨rfl |rfl,h2⟩
     ·omega
     ·have:=h2 rfl;omega
     ·omega
    ·rcases hv with rfl |⟨rfl |rfl,h2⟩
     ·omega
     ·omega
     ·have:=h2 rfl;omega
   rcases fe with q1 |⟨q1,q2,q3⟩
   ·rcases ge with q4 |⟨q4,q5,q6⟩
    ·rw [q1,q4];exact fin 0 (.inl rfl)
    ·rw [q1,q4,Int.zero_add]
     exact fin _ (.inr ⟨(k.first y ry).2,hy q5 q6⟩)
   ·have q4:g i=0:=by
     rcases d1 i with q |q
     ·rw [q1]at q;have:=(k.first x rx).2;omega
     ·exact q
    rw [q1,q4,Int.add_zero]
    exact fin _ (.inr ⟨(k.first x rx).2,hx q2 q3⟩)
  ·show f i+g i+one e t i≤_∧_≤f i+g i+one e t i
   unfold one
   rw [if_neg h]
   have:=(show f i+g i≤G.room 1 i∧-(G.room (-1) i)≤f i+g i from b0 i hi)
   omega
 refine⟨fun i=>f i+g i+one e t i,bnd,fun i h=>?_,fun q=>?_⟩
 ·by_cases q2:i=e
  ·rw [q2]
   refine⟨R.he,R.hec,?_⟩
   have yy:s.root y∈C∨s.root y∈D∨s.root y=wx:=(Z3l R.pD).elim (fun z'=>.inr (.inl z')) fun z'=>.inr (.inr z')
   have xx:s.root x∈C∨s.root x∈D∨s.root x=wx:=(Z3l R.pC).elim (fun z'=>.inl z') fun z'=>.inr (.inr z')
   rcases R.hj with⟨j1,j2⟩ |⟨j1,j2⟩
   ·rw [j1,j2];exact⟨rx,ry,xx,yy⟩
   ·rw [j1,j2];exact⟨ry,rx,yy,xx⟩
  ·by_cases q3:f i=0
   ·have q4:g i≠0:=fun z'=>h (by show f i+g i+one e t i=0;rw [q3,z'];unfold one;rw [if_neg q2];rfl)
    obtain⟨a1,a2,a3,a4,_,a6,a7⟩:=Ky.sup i q4
    exact⟨a1,a2,a3,a4,.inr a6,.inr a7⟩
   ·obtain⟨a1,a2,a3,a4,_,a6,a7⟩:=Kx.sup i q3
    exact⟨a1,a2,a3,a4,a6.elim .inl fun z'=>.inr (.inr z'),a7.elim .inl fun z'=>.inr (.inr z')⟩
 ·rw [Z3n,Z3n,Kx.bdr,Ky.bdr,Z4T R.he R.hj,hr1,hr2,ewy]
  unfold dl
  split<;>split<;>split<;>omega
end
end MX
end
section
namespace MX
section
variable{G:Gr}{c:Nat}{T:Int}{s:S}
def S.start(G:Gr)(c:Nat)(T:Int):S where
 re:=fun x=>x=(G.bd c).a∨x=(G.bd c).b
 root:=fun x=>x
 rk:=fun x=>if x=(G.bd c).a then 0 else 1
 nx:=2
 cb:=fun _=>c
 cf:=fun _=>none
 ar:=fun _=>T
 tn:=fun x t=>(x=(G.bd c).a∨x=(G.bd c).b)∧t=-T
 dn:=fun _ _ _=>False
theorem start_ok(hG:G.Ok)(hc:c<G.m)(hT:T=1∨T=-1):(S.start G c T).Ok G c T where
 rn:=fun x h=>by
  rcases h with rfl |rfl
  ·exact hG.an c hc
  ·exact hG.bn c hc
 rkn:=fun x h=>by show(if x=_ then 0 else 1)<2;split<;>decide
 root:=fun x h=>⟨h,rfl,fun q=>absurd rfl q⟩
 first:=fun x h=>⟨⟨h,rfl⟩,hT⟩
 tnr:=fun x t h=>⟨h.1,by rw [h.2];rcases hT with rfl |rfl;exact .inr rfl;exact .inl rfl⟩
 cls:=fun x y t _ _ hn h _=>absurd h hn
 top:=fun x h _=>⟨rfl,h,rfl⟩
 tree:=fun x w h e=>by cases e
 upp:=fun x h q=>absurd rfl q
 ends:=⟨.inl rfl,.inr rfl,rfl,rfl⟩
 mu:=fun v t h=>by
  refine⟨fun _=>0,Z6U hG,fun e q=>absurd rfl q,fun w=>?_⟩
  rw [Z7g,h.2]
  show 0=-(dl v T w)-dl v (-T) w
  unfold dl
  split<;>omega
 d1:=fun _ _ _ h=>h.elim
 d2:=fun _ _ _ _ _ h=>h.elim
 d4:=fun _ _ _ _ _ h=>h.elim
def S.reach(s:S)(x y e:Nat)(t:Int):S where
 re:=fun z=>s.re z∨z=y
 root:=fun z=>if z=y then y else s.root z
 rk:=fun z=>if z=y then s.nx else s.rk z
 nx:=s.nx+1
 cb:=fun z=>if z=y then e else s.cb z
 cf:=fun z=>if z=y then some x else s.cf z
 ar:=fun z=>if z=y then t else s.ar z
 tn:=fun z u=>s.tn z u∨(z=y∧u=-t)
 dn:=fun z u f=>s.dn z u f∨(z=x∧u=t∧f=e)
theorem reach_ok(k:s.Ok G c T)(hG:G.Ok){x y e:Nat}{t:Int}(tx:s.tn x t)(he:e<G.m)(hec:e≠c)(hj:Jn (G.bd e) x y)(hr:0<G.room t e)(hy:¬ s.re y):(s.reach x y e t).Ok G c T:=by
 have rx:=(k.tnr x t tx).1
 have ht:=(k.tnr x t tx).2
 have ney:∀ {z},s.re z→z≠y:=fun h q=>hy (q ▸ h)
 have xy:x≠y:=ney rx
 have rt:∀ {z},s.re z→(s.reach x y e t).root z=s.root z:=fun h=>if_neg (ney h)
 have rk:∀ {z},s.re z→(s.reach x y e t).rk z=s.rk z:=fun h=>if_neg (ney h)
 have cb:∀ {z},s.re z→(s.reach x y e t).cb z=s.cb z:=fun h=>if_neg (ney h)
 have cf:∀ {z},s.re z→(s.reach x y e t).cf z=s.cf z:=fun h=>if_neg (ney h)
 have ar:∀ {z},s.re z→(s.reach x y e t).ar z=s.ar z:=fun h=>if_neg (ney h)
 have rty:(s.reach x y e t).root y=y:=if_pos rfl
 have cby:(s.reach x y e t).cb y=e:=if_pos rfl
 have cfy:(s.reach x y e t).cf y=some x:=if_pos rfl
 have ary:(s.reach x y e t).ar y=t:=if_pos rfl
 have rky:(s.reach x y e t).rk y=s.nx:=if_pos rfl
 have rooty:∀ {z},s.re z→s.root z≠y:=fun h=>ney (k.root _ h).1
 have yn:y<G.n:=by
  rcases hj with⟨_,q⟩ |⟨_,q⟩
  ·rw [←q];exact hG.bn e he
  ·rw [←q];exact hG.an e he
 refine⟨fun z h=>?_,fun z h=>?_,fun z h=>?_,fun z h=>?_,fun z u h=>?_,fun z w u h1 h2 hn h hu=>?_,fun z h hc=>?_,fun z w h hc=>?_,fun z h hn=>?_,?_,fun v u h=>?_,fun z u f h=>?_,fun z w u f hj2 h1 h2=>?_,fun z w u f hj2 h1 h2 h3 h4=>?_⟩
 ·rcases h with h |rfl
  ·exact k.rn z h
  ·exact yn
 ·rcases h with h |rfl
  ·rw [rk h];exact Z1x (k.rkn z h)
  ·rw [rky];exact Z1L _
 ·rcases h with h |rfl
  ·rw [rt h]
   obtain⟨a,b,d⟩:=k.root z h
   refine⟨.inl a,by rw [rt a];exact b,fun q=>?_⟩
   rw [rk a,rk h];exact d q
  ·rw [rty,rty];exact⟨.inr rfl,rfl,fun q=>absurd rfl q⟩
 ·rcases h with h |rfl
  ·rw [ar h];exact⟨.inl (k.first z h).1,(k.first z h).2⟩
  ·rw [ary];exact⟨.inr ⟨rfl,rfl⟩,ht⟩
 ·rcases h with h |⟨rfl,rfl⟩
  ·exact⟨.inl (k.tnr z u h).1,(k.tnr z u h).2⟩
  ·exact⟨.inr rfl,by omega⟩
 ·rcases h1 with h1 |rfl
  ·rcases h2 with h2 |rfl
   ·rw [rt h1,rt h2]at h
    exact .inl (k.cls z w u h1 h2 hn h hu)
   ·rw [rt h1,rty]at h;exact absurd h (rooty h1)
  ·rcases h2 with h2 |rfl
   ·rw [rt h2,rty]at h;exact absurd h.symm (rooty h2)
   ·exact absurd rfl hn
 ·rcases h with h |rfl
  ·rw [cf h]at hc
   rw [cb h,ar h]
   exact k.top z h hc
  ·rw [cfy]at hc;cases hc
 ·rcases h with h |rfl
  ·rw [cf h]at hc
   obtain⟨a1,a2,a3,a4,a5,a6,a7,a8⟩:=k.tree z w h hc
   rw [cb h,ar h,rk h,rk a1]
   exact⟨.inl a1,a2,a3,a4,a5,a6,.inl a7,.inl a8⟩
  ·rw [cfy]at hc
   cases hc
   rw [cby,ary,rky,rk rx]
   exact⟨.inl rx,k.rkn x rx,he,hec,hj.symm,hr,.inl tx,.inr ⟨rfl,rfl,rfl⟩⟩
 ·rcases h with h |rfl
  ·rw [rt h]at hn
   obtain⟨w,a,b⟩:=k.upp z h hn
   have rw':=(k.tree z w h a).1
   exact⟨w,by rw [cf h];exact a,by rw [rt rw',rt h];exact b⟩
  ·exact absurd rty hn
 ·obtain⟨a,b,d,f⟩:=k.ends
  exact⟨.inl a,.inl b,by rw [cf a];exact d,by rw [cf b];exact f⟩
 ·rcases h with h |⟨rfl,rfl⟩
  ·have rv:=(k.tnr v u h).1
   obtain⟨μ,M⟩:=k.mu v u h
   refine⟨μ,M.bnd,fun f q=>?_,fun w=>?_⟩
   ·obtain⟨a1,a2,a3,a4,a5,a6⟩:=M.sup f q
    exact⟨a1,a2,.inl a3,.inl a4,by rw [rt a3,rt rv];exact a5,by rw [rt a4,rt rv];exact a6⟩
   ·rw [M.bdr,rt rv,ar (k.root v rv).1]
  ·refine⟨fun _=>0,Z6U hG,fun f q=>absurd rfl q,fun w=>?_⟩
   rw [Z7g,rty,ary]
   unfold dl
   split<;>omega
 ·rcases h with h |⟨rfl,rfl,rfl⟩
  ·obtain⟨a1,a2,a3,a4,w,a5,a6⟩:=k.d1 z u f h
   exact⟨.inl a1,a2,a3,a4,w,a5,.inl a6⟩
  ·exact⟨.inl tx,he,hec,hr,y,hj,.inr rfl⟩
 ·
  have nodn:∀ {u f},¬ s.dn y u f:=fun h=>hy (k.tnr _ _ (k.d1 _ _ _ h).1).1
  rcases h1 with h1 |⟨rfl,rfl,rfl⟩
  ·have rz:=(k.tnr _ _ (k.d1 _ _ _ h1).1).1
   rcases h2 with h2 |⟨rfl,rfl,rfl⟩
   ·have rw':=(k.tnr _ _ (k.d1 _ _ _ h2).1).1
    rw [rt rz,rt rw',cb rz,cb rw',ar rz,ar rw']
    exact k.d2 z w u f hj2 h1 h2
   ·have:=Jn.eq hj2.symm hj (hG.ne f he)
    subst this
    exact absurd h1 nodn
  ·rcases h2 with h2 |⟨rfl,_,_⟩
   ·have:=Jn.eq hj2 hj (hG.ne f he)
    subst this
    exact absurd h2 nodn
   ·exact absurd rfl (Jn.ne hj2 (hG.ne f he))
 ·
  by_cases q:z=y
  ·subst q
   rw [cby]at h2
   rw [cfy]at h3
   rw [ary]at h4
   subst h2
   cases h3
   rcases h1 with h1 |⟨_,rfl,_⟩
   ·obtain⟨_,_,_,_,w',a5,a6⟩:=k.d1 _ _ _ h1
    have:=Jn.eq a5 hj (hG.ne e he)
    subst this
    exact absurd a6 hy
   ·rcases ht with rfl |rfl<;>omega
  ·have cbz:(s.reach x y e t).cb z=s.cb z:=if_neg q
   have cfz:(s.reach x y e t).cf z=s.cf z:=if_neg q
   have arz:(s.reach x y e t).ar z=s.ar z:=if_neg q
   have rtz:(s.reach x y e t).root z=s.root z:=if_neg q
   rw [cbz]at h2
   rw [cfz]at h3
   rw [arz]at h4
   rcases h1 with h1 |⟨rfl,rfl,rfl⟩
   ·have rw':=(k.tnr _ _ (k.d1 _ _ _ h1).1).1
    rw [rtz,rt rw']
    exact k.d4 z w u f hj2 h1 h2 h3 h4
   ·have:=Jn.eq hj2.symm hj (hG.ne f he)
    exact absurd this q
def S.mark(s:S)(x e:Nat)(t:Int):S:={ s with dn:=fun z u f=>s.dn z u f∨(z=x∧u=t∧f=e) }
theorem by_end(k:s.Ok G c T){z e x y:Nat}(hz:s.re z)(hb:s.cb z=e)(hec:e≠c)(hj:Jn (G.bd e) x y):(z=x∨z=y)∧∃ w,s.cf z=some w:=by
 cases q:s.cf z with
 |none=>exact absurd (hb.symm.trans (k.top z hz q).1) hec
 |some w =>
  have:=(k.tree z w hz q).2.2.2.2.1
  rw [hb]at this
  exact⟨hj.end this,w,rfl⟩
theorem mark_ok(k:s.Ok G c T)(hG:G.Ok){x y e:Nat}{t:Int}(tx:s.tn x t)(he:e<G.m)(hec:e≠c)(hj:Jn (G.bd e) x y)(hr:0<G.room t e)(hy:s.re y)
  (h:s.root x=s.root y∨(s.cb (s.root x)=e∧G.room t e=1)∨¬ s.tn y t):(s.mark x e t).Ok G c T:=by
 have rx:=(k.tnr x t tx).1
 have ht:=(k.tnr x t tx).2
 have used:s.cb (s.root x)=e→s.root x=s.root y∨(s.root x=x∧s.cb x=e∧s.cf x=some y):=fun hb=>by
  obtain⟨a,w,hw⟩:=by_end k (k.root x rx).1 hb hec hj
  rcases a with a |a
  ·rw [a]at hb hw
   have:=(k.tree x w rx hw).2.2.2.2.1
   rw [hb]at this
   have:=Jn.eq this hj (hG.ne e he)
   subst this
   exact .inr ⟨a,hb,hw⟩
  ·have:=(k.root x rx).2.1
   rw [a]at this
   exact .inl (by rw [a,this])
 have key2:s.dn y t e→s.root x=s.root y∨(G.room t e=1∧s.root x=x∧s.cb x=e∧s.ar x=t):=fun hd=>by
  rcases h with h |⟨h1,h2⟩ |h
  ·exact .inl h
  ·rcases used h1 with z |⟨z1,z2,z3⟩
   ·exact .inl z
   ·by_cases q:s.ar x=t
    ·exact .inr ⟨h2,z1,z2,q⟩
    ·have:s.ar x=-t:=by have:=(k.first x rx).2;omega
     exact .inl (k.d4 x y t e hj hd z2 z3 this)
  ·exact absurd (k.d1 _ _ _ hd).1 h
 refine⟨k.rn,k.rkn,k.root,k.first,k.tnr,k.cls,k.top,fun z w h hc=>?_,k.upp,k.ends,(fun v u h=>let ⟨μ,M⟩:=k.mu v u h;⟨μ,M.bnd,M.sup,M.bdr⟩),fun z u f h=>?_,fun z w u f hj2 h1 h2=>?_,fun z w u f hj2 h1 h2 h3 h4=>?_⟩
 ·obtain⟨a1,a2,a3,a4,a5,a6,a7,a8⟩:=k.tree z w h hc
  exact⟨a1,a2,a3,a4,a5,a6,a7,.inl a8⟩
 ·rcases h with h |⟨rfl,rfl,rfl⟩
  ·exact k.d1 z u f h
  ·exact⟨tx,he,hec,hr,y,hj,hy⟩
 ·rcases h1 with h1 |⟨rfl,rfl,rfl⟩
  ·rcases h2 with h2 |⟨rfl,rfl,rfl⟩
   ·exact k.d2 z w u f hj2 h1 h2
   ·have:=Jn.eq hj2.symm hj (hG.ne f he)
    subst this
    rcases key2 h1 with q |⟨q1,q2⟩
    ·exact .inl q.symm
    ·exact .inr ⟨q1,.inr q2⟩
  ·rcases h2 with h2 |⟨rfl,_,_⟩
   ·have:=Jn.eq hj2 hj (hG.ne f he)
    subst this
    rcases key2 h2 with q |⟨q1,q2⟩
    ·exact .inl q
    ·exact .inr ⟨q1,.inl q2⟩
   ·exact absurd rfl (Jn.ne hj2 (hG.ne f he))
 ·rcases h1 with h1 |⟨rfl,rfl,rfl⟩
  ·exact k.d4 z w u f hj2 h1 h2 h3 h4
  ·have:=Jn.eq hj2.symm hj (hG.ne f he)
   subst this
   show s.root z=s.root w
   rcases h with h |⟨h1,_⟩ |h
   ·exact h.symm
   ·rcases used h1 with q |⟨_,_,q⟩
    ·exact q.symm
    ·have a:=(k.tree w z rx q).2.1
     have b:=(k.tree z w hy h3).2.1
     omega
   ·have:=(k.first z hy).1
    have h4:s.ar z=-u:=h4
    rw [h4,Int.neg_neg]at this
    exact absurd this h
end
end MX
end
section
namespace MX
section
variable{G:Gr}{c:Nat}{T:Int}{s:S}
open Classical in
noncomputable def S.fold(s:S)(C D:List Nat)(m x e:Nat)(t:Int):S where
 re:=s.re
 root:=fun v=>if s.root v∈C∨s.root v∈D then m else s.root v
 rk:=s.rk
 nx:=s.nx
 cb:=s.cb
 cf:=s.cf
 ar:=s.ar
 tn:=fun z u=>s.tn z u∨((z∈C∨z∈D∨z=m)∧(u=1∨u=-1))
 dn:=fun z u f=>s.dn z u f∨(z=x∧u=t∧f=e)
theorem fold_ok(k:s.Ok G c T)(hG:G.Ok){x y e:Nat}{t:Int}{C D:List Nat}{m:Nat}(R:Ring s G c x y e t C D m)(hxy:s.root x≠s.root y)(hnu:¬ (s.cb (s.root x)=e∧G.room t e=1))(hnd:¬ s.dn x t e) :
  (s.fold C D m x e t).Ok G c T:=by
 obtain⟨m1,m2,m3,m4,m5,m6⟩:=Z7s k R
 have rx:=(k.tnr x t R.tx).1
 have ry:=(k.tnr y t R.ty).1
 have rin:∀ {v},(s.root v∈C∨s.root v∈D)→(s.fold C D m x e t).root v=m:=fun h=>if_pos h
 have rout:∀ {v},¬ (s.root v∈C∨s.root v∈D)→(s.fold C D m x e t).root v=s.root v:=fun h=>if_neg h
 have rm:∀ {v},s.root v=m→(s.fold C D m x e t).root v=m:=fun h=>by
  rw [rout (by rw [h];exact fun q=>q.elim m3 m4)];exact h
 have rCDm:∀ {v},(s.root v∈C∨s.root v∈D∨s.root v=m)→(s.fold C D m x e t).root v=m:=fun h=>by
  rcases h with h |h |h
  ·exact rin (.inl h)
  ·exact rin (.inr h)
  ·exact rm h
 have req:∀ {v w},s.root v=s.root w→(s.fold C D m x e t).root v=(s.fold C D m x e t).root w:=fun{v w} h=>by
  show(if _ then m else s.root v)=if _ then m else s.root w
  rw [h]
 have rootCD:∀ {z},(z∈C∨z∈D)→s.re z∧s.root z=z∧s.rk m<s.rk z:=fun h=>h.elim (m5 _) (m6 _)
 have tr:∀ {z u},s.tn z u→(s.fold C D m x e t).tn z u:=fun h=>.inl h
 have upC:∀ {L:List Nat}{z w:Nat},Path s.up z L (some m)→s.re z→s.root z=z→w∈L→∃ w',s.cf w=some w'∧(s.root w'∈L∨s.root w'=m):=fun{L z w} hp hr hz hw=>by
  obtain⟨C1,C2,e1,p1,p2,b1,b2⟩:=Z4Q k hp hr hz hw
  cases p2 with
  |step _ z' _ _ hu _ hp2 =>
   unfold S.up at hu
   cases q:s.cf w with
   |none=>rw [q]at hu;cases hu
   |some w' =>
    rw [q]at hu
    have:s.root w'=z':=Option.some.inj hu
    refine⟨w',rfl,?_⟩
    rw [this]
    exact(Z3l hp2).imp_left (b2 _)
 have upCD:∀ {z},(z∈C∨z∈D)→∃ w,s.cf z=some w∧(s.root w∈C∨s.root w∈D∨s.root w=m):=fun h=>by
  rcases h with h |h
  ·obtain⟨w,a,b⟩:=upC R.pC (k.root x rx).1 (k.root x rx).2.1 h
   exact⟨w,a,b.imp_right .inr⟩
  ·obtain⟨w,a,b⟩:=upC R.pD (k.root y ry).1 (k.root y ry).2.1 h
   exact⟨w,a,.inr b⟩
 have hyy:s.cb y=e→s.root y=y→s.ar y=t→2≤G.room t e:=fun h1 h2 h3=>by
  obtain⟨_,w,hw⟩:=by_end k ry h1 R.hec R.hj
  obtain⟨_,_,_,_,a5,_,_,a8⟩:=k.tree y w ry hw
  rw [h1]at a5 a8
  have:=Jn.eq a5 R.hj.symm (hG.ne e R.he)
  subst this
  rw [h3]at a8
  exact absurd a8 hnd
 have hxx:s.cb x=e→s.root x=x→s.ar x=t→2≤G.room t e:=fun h1 h2 _=>by
  have:=R.hr
  by_cases q:G.room t e=1
  ·exact absurd ⟨by rw [h2];exact h1,q⟩ hnu
  ·omega
 have xin:s.root x∈C∨s.root x∈D∨s.root x=m:=(Z3l R.pC).elim .inl fun q=>.inr (.inr q)
 have yin:s.root y∈C∨s.root y∈D∨s.root y=m:=(Z3l R.pD).elim (fun q=>.inr (.inl q)) fun q=>.inr (.inr q)
 have mu1:∀ {v:Nat}{u:Int}{μ:Nat→Int},(s.root v∈C∨s.root v∈D∨s.root v=m)→RMu s G c C D m v u μ→∃ μ,(s.fold C D m x e t).Mu G c v u μ:=fun{v u μ} hv h=>by
  refine⟨μ,h.bnd,fun f q=>?_,fun w=>?_⟩
  ·obtain⟨a1,a2,a3,a4,a5,a6⟩:=h.sup f q
   exact⟨a1,a2,a3,a4,by rw [rCDm a5,rCDm hv],by rw [rCDm a6,rCDm hv]⟩
  ·rw [h.bdr,rCDm hv];rfl
 refine⟨k.rn,k.rkn,fun z h=>?_,fun z h=>⟨tr (k.first z h).1,(k.first z h).2⟩,fun z u h=>?_,fun z w u h1 h2 hn h hu=>?_,k.top,fun z w h hc=>?_,fun z h hn=>?_,k.ends,fun v u h=>?_,fun z u f h=>?_,fun z w u f hj2 h1 h2=>?_,fun z w u f hj2 h1 h2 h3 h4=>?_⟩
 ·obtain⟨a,b,d⟩:=k.root z h
  by_cases q:s.root z∈C∨s.root z∈D
  ·rw [rin q,rm m2]
   refine⟨m1,rfl,fun _=>?_⟩
   show s.rk m<s.rk z
   have:=(rootCD q).2.2
   by_cases q2:s.root z=z
   ·rw [q2]at this;exact this
   ·exact Z0Q this (d q2)
  ·rw [rout q]
   refine⟨a,?_,d⟩
   rw [rout (by rw [b];exact q)];exact b
 ·rcases h with h |⟨h,hu⟩
  ·exact k.tnr z u h
  ·refine⟨?_,hu⟩
   rcases h with h |h |rfl
   ·exact(m5 z h).1
   ·exact(m6 z h).1
   ·exact m1
 ·
  by_cases q1:s.root z=s.root w
  ·exact tr (k.cls z w u h1 h2 hn q1 hu)
  ·have inn:s.root z∈C∨s.root z∈D∨s.root z=m:=by
    by_cases p1:s.root z∈C∨s.root z∈D
    ·exact p1.imp_right .inl
    ·right;right
     rw [rout p1]at h
     by_cases p2:s.root w∈C∨s.root w∈D
     ·rw [rin p2]at h;exact h
     ·rw [rout p2]at h;exact absurd h q1
   by_cases q2:s.root z=z
   ·rw [q2]at inn
    exact .inr ⟨inn,hu⟩
   ·exact tr (k.cls z (s.root z) u h1 (k.root z h1).1 (fun q=>q2 q.symm) (k.root z h1).2.1.symm hu)
 ·obtain⟨a1,a2,a3,a4,a5,a6,a7,a8⟩:=k.tree z w h hc
  exact⟨a1,a2,a3,a4,a5,a6,tr a7,.inl a8⟩
 ·
  by_cases q2:s.root z=z
  ·by_cases q:s.root z∈C∨s.root z∈D
   ·rw [q2]at q
    obtain⟨w,a,b⟩:=upCD q
    refine⟨w,a,?_⟩
    rw [rCDm b,rin (by rw [q2];exact q)]
   ·rw [rout q]at hn;exact absurd q2 hn
  ·obtain⟨w,a,b⟩:=k.upp z h q2
   exact⟨w,a,req b⟩
 ·
  have rv:s.re v:=by
   rcases h with h |⟨h |h |rfl,_⟩
   ·exact(k.tnr v u h).1
   ·exact(m5 v h).1
   ·exact(m6 v h).1
   ·exact m1
  by_cases hin:s.root v∈C∨s.root v∈D∨s.root v=m
  ·by_cases old:s.tn v u
   ·rcases hin with q |q |q
    ·obtain⟨μ,M⟩:=Z8T k hG R rv q old
     exact mu1 (.inl q) M
    ·obtain⟨μ,M⟩:=Z8T k hG R.symm rv q old
     exact mu1 (.inr (.inl q)) M.swap
    ·obtain⟨μ,M⟩:=k.mu v u old
     refine⟨μ,M.bnd,fun f p=>?_,fun w=>?_⟩
     ·obtain⟨a1,a2,a3,a4,a5,a6⟩:=M.sup f p
      exact⟨a1,a2,a3,a4,req a5,req a6⟩
     ·rw [M.bdr,rm q,q];rfl
   ·obtain⟨hv,hu⟩:(v∈C∨v∈D∨v=m)∧(u=1∨u=-1):=h.elim (fun z=>absurd z old) id
    have hf:=k.first v rv
    have eu:u=s.ar v:=by
     by_cases q:u=s.ar v
     ·exact q
     ·have:u=-(s.ar v):=by omega
      rw [this]at old
      exact absurd hf.1 old
    rw [eu]at old ⊢
    rcases hv with q |q |rfl
    ·obtain⟨μ,M⟩:=Z9k k hG R q old
     exact mu1 (.inl (by rw [(m5 v q).2.1];exact q)) M
    ·obtain⟨μ,M⟩:=Z9k k hG R.symm q old
     exact mu1 (.inr (.inl (by rw [(m6 v q).2.1];exact q))) M.swap
    ·obtain⟨μ,M⟩:=ring_top k hG R old hxy hxx hyy
     exact mu1 (.inr (.inr m2)) M
  ·
   have old:s.tn v u:=by
    rcases h with h |⟨h,_⟩
    ·exact h
    ·rcases h with h |h |rfl
     ·exact absurd (.inl (by rw [(m5 v h).2.1];exact h)) hin
     ·exact absurd (.inr (.inl (by rw [(m6 v h).2.1];exact h))) hin
     ·exact absurd (.inr (.inr m2)) hin
   have hnot:¬ (s.root v∈C∨s.root v∈D):=fun q=>hin (q.imp_right .inl)
   obtain⟨μ,M⟩:=k.mu v u old
   refine⟨μ,M.bnd,fun f p=>?_,fun w=>?_⟩
   ·obtain⟨a1,a2,a3,a4,a5,a6⟩:=M.sup f p
    exact⟨a1,a2,a3,a4,req a5,req a6⟩
   ·rw [M.bdr,rout hnot];rfl
 ·rcases h with h |⟨rfl,rfl,rfl⟩
  ·obtain⟨a1,a2⟩:=k.d1 z u f h
   exact⟨tr a1,a2⟩
  ·exact⟨tr R.tx,R.he,R.hec,R.hr,y,R.hj,ry⟩
 ·
  have exy:(s.fold C D m x e t).root x=(s.fold C D m x e t).root y:=by rw [rCDm xin,rCDm yin]
  have stay:∀ {p q:Nat},Jn (G.bd f) p q→s.dn p u f→s.root p=p∧s.cb p=f∧s.ar p=u→(s.fold C D m x e t).root p=(s.fold C D m x e t).root q∨((s.fold C D m x e t).root p=p∧s.cb p=f∧s.ar p=u):=fun{p q} hjp hd ⟨h1,h2,h3⟩=>by
   have rp:=(k.tnr _ _ (k.d1 _ _ _ hd).1).1
   by_cases z1:s.root p∈C∨s.root p∈D
   ·left
    rw [h1]at z1
    obtain⟨w',a,b⟩:=upCD z1
    have a5:=(k.tree p w' rp a).2.2.2.2.1
    rw [h2]at a5
    have:=Jn.eq a5 hjp (hG.ne f (k.d1 _ _ _ hd).2.1)
    subst this
    rw [rCDm b,rin (by rw [h1];exact z1)]
   ·right
    rw [rout z1]
    exact⟨h1,h2,h3⟩
  rcases h1 with h1 |⟨rfl,rfl,rfl⟩
  ·rcases h2 with h2 |⟨rfl,rfl,rfl⟩
   ·rcases k.d2 z w u f hj2 h1 h2 with q |⟨q1,q2 |q2⟩
    ·exact .inl (req q)
    ·rcases stay hj2 h1 q2 with q3 |q3
     ·exact .inl q3
     ·exact .inr ⟨q1,.inl q3⟩
    ·rcases stay hj2.symm h2 q2 with q3 |q3
     ·exact .inl q3.symm
     ·exact .inr ⟨q1,.inr q3⟩
   ·have:=Jn.eq hj2.symm R.hj (hG.ne f R.he)
    subst this
    exact .inl exy.symm
  ·rcases h2 with h2 |⟨rfl,_,_⟩
   ·have:=Jn.eq hj2 R.hj (hG.ne f R.he)
    subst this
    exact .inl exy
   ·exact absurd rfl (Jn.ne hj2 (hG.ne f R.he))
 ·rcases h1 with h1 |⟨rfl,rfl,rfl⟩
  ·exact req (k.d4 z w u f hj2 h1 h2 h3 h4)
  ·have:=Jn.eq hj2.symm R.hj (hG.ne f R.he)
   subst this
   rw [rCDm xin,rCDm yin]
open Classical in
theorem ended(k:s.Ok G c T)(hG:G.Ok)(hc:c<G.m)(hT:T=1∨T=-1)(all:∀ x y t e,s.tn x t→e<G.m→e≠c→Jn (G.bd e) x y→0<G.room t e→s.dn x t e){δ:Nat→Int}(hd:G.Chg δ):δ c≠T:=by
 let lab:Nat→Lab:=fun x=>if s.tn x 1 then(if s.tn x (-1)then .two (s.root x)else .one 1)else(if s.tn x (-1)then .one (-1)else .un)
 have l1:∀ {x t},lab x=.one t→(t=1∨t=-1)∧s.tn x t:=fun{x t} h=>by
  simp only [lab]at h
  split at h
  ·split at h
   ·cases h
   ·cases h;exact⟨.inl rfl,by assumption⟩
  ·split at h
   ·cases h;exact⟨.inr rfl,by assumption⟩
   ·cases h
 have l2:∀ {x r},lab x=.two r→s.tn x 1∧s.tn x (-1)∧r=s.root x:=fun{x r} h=>by
  simp only [lab]at h
  split at h
  ·split at h
   ·cases h;exact⟨by assumption,by assumption,rfl⟩
   ·cases h
  ·split at h<;>cases h
 have mk2:∀ {x},s.tn x 1→s.tn x (-1)→lab x=.two (s.root x):=fun h1 h2=>by simp only [lab];rw [if_pos h1,if_pos h2]
 have has:∀ {x t},(t=1∨t=-1)→(lab x).has t→s.tn x t:=fun{x t} ht h=>by
  cases hl:lab x with
  |un=>rw [hl]at h;exact h.elim
  |one u=>rw [hl]at h;have h:u=t:=h;subst h;exact(l1 hl).2
  |two r =>
   obtain⟨a,b,_⟩:=l2 hl
   rcases ht with rfl |rfl
   ·exact a
   ·exact b
 have hs:∀ {x t},s.tn x t→(lab x).has t:=fun{x t} h=>by
  have ht:=(k.tnr x t h).2
  cases hl:lab x with
  |un =>
   simp only [lab]at hl
   split at hl
   ·split at hl<;>cases hl
   ·rename_i a
    split at hl
    ·cases hl
    ·rename_i b
     rcases ht with rfl |rfl
     ·exact absurd h a
     ·exact absurd h b
  |one u =>
   show u=t
   obtain⟨a,b⟩:=l1 hl
   by_cases q:u=t
   ·exact q
   ·have:s.tn x 1∧s.tn x (-1):=by
     rcases a with rfl |rfl<;>rcases ht with rfl |rfl
     ·exact absurd rfl q
     ·exact⟨b,h⟩
     ·exact⟨h,b⟩
     ·exact absurd rfl q
    rw [mk2 this.1 this.2]at hl;cases hl
  |two r=>trivial
 have reun:∀ {x},s.re x→lab x≠.un:=fun{x} h q=>by
  have:=hs (k.first x h).1
  rw [q]at this
  exact this
 have both:∀ {x},s.tn x (s.ar x)→s.re x→s.tn x 1∧s.tn x (-1):=fun{x} h hr=>by
  obtain⟨a,b⟩:=k.first x hr
  rcases b with b |b<;>rw [b]at a h
  ·exact⟨h,a⟩
  ·exact⟨a,h⟩
 have cert:Cert G c T lab s.cb:=by
  refine⟨fun v t hv h=>(l1 h).1,fun v r hv h=>?_,fun e t he hec ht hr=>?_,fun e t he hec ht hr ha hb=>?_,fun r hr h=>?_,hc,?_,?_,hT⟩
  ·obtain⟨a,b,rfl⟩:=l2 h
   have rv:=(k.tnr v 1 a).1
   obtain⟨q1,q2,_⟩:=k.root v rv
   refine⟨k.rn _ q1,?_⟩
   by_cases q:s.root v=v
   ·rw [q];rw [q]at h;exact h
   ·have:=k.cls (s.root v) v
    rw [mk2 (this 1 q1 rv q q2 (.inl rfl)) (this (-1) q1 rv q q2 (.inr rfl)),q2]
  ·refine⟨fun h=>?_,fun h=>?_⟩
   ·obtain⟨_,_,_,_,y,q1,q2⟩:=k.d1 _ _ _ (all _ _ t e (has ht h) he hec (.inl ⟨rfl,rfl⟩) hr)
    have:=Jn.eq q1 (.inl ⟨rfl,rfl⟩) (hG.ne e he)
    subst this
    exact reun q2
   ·obtain⟨_,_,_,_,y,q1,q2⟩:=k.d1 _ _ _ (all _ _ t e (has ht h) he hec (.inr ⟨rfl,rfl⟩) hr)
    have:=Jn.eq q1 (.inr ⟨rfl,rfl⟩) (hG.ne e he)
    subst this
    exact reun q2
  ·have ta:=has ht ha
   have tb:=has ht hb
   have ra:=(k.tnr _ _ ta).1
   have rb:=(k.tnr _ _ tb).1
   have da:=all _ _ t e ta he hec (.inl ⟨rfl,rfl⟩) hr
   have db:=all _ _ t e tb he hec (.inr ⟨rfl,rfl⟩) hr
   have ne:=hG.ne e he
   rcases k.d2 _ _ t e (.inl ⟨rfl,rfl⟩) da db with q |⟨q1,⟨z1,z2,z3⟩ |⟨z1,z2,z3⟩⟩
   ·left
    refine⟨s.root (G.bd e).a,mk2 (k.cls _ _ 1 ra rb ne q (.inl rfl)) (k.cls _ _ (-1) ra rb ne q (.inr rfl)),?_⟩
    rw [q]
    exact mk2 (k.cls _ _ 1 rb ra ne.symm q.symm (.inl rfl)) (k.cls _ _ (-1) rb ra ne.symm q.symm (.inr rfl))
   ·right
    refine⟨q1,.inl ⟨?_,z2⟩⟩
    obtain⟨b1,b2⟩:=both (by rw [z3];exact ta) ra
    rw [mk2 b1 b2,z1]
   ·right
    refine⟨q1,.inr ⟨?_,z2⟩⟩
    obtain⟨b1,b2⟩:=both (by rw [z3];exact tb) rb
    rw [mk2 b1 b2,z1]
  ·obtain⟨a,b,e1⟩:=l2 h
   have rr:=(k.tnr _ _ a).1
   cases q:s.cf r with
   |none=>exact .inl (k.top r rr q).1
   |some w =>
    obtain⟨a1,a2,a3,a4,a5,a6,a7,a8⟩:=k.tree r w rr q
    refine .inr ⟨a3,a4,s.ar r,(k.first r rr).2,a6,?_⟩
    rcases a5 with⟨z1,z2⟩ |⟨z1,z2⟩
    ·exact .inl ⟨z1,by rw [z2];exact hs a7⟩
    ·exact .inr ⟨z1,by rw [z2];exact hs a7⟩
  ·obtain⟨ra,_,ca,_⟩:=k.ends
   obtain⟨t1,_,t3⟩:=k.top _ ra ca
   have f:=(k.first _ ra).1
   rw [t3]at f
   by_cases q:s.tn (G.bd c).a T
   ·obtain⟨b1,b2⟩:=both (by rw [t3];exact q) ra
    right
    rw [mk2 b1 b2,k.rootTop ra ca]
    exact⟨rfl,t1⟩
   ·left
    have:=hs f
    cases hl:lab (G.bd c).a with
    |un=>rw [hl]at this;exact this.elim
    |one u=>rw [hl]at this;have h:u=-T:=this;rw [h]
    |two r=>exact absurd (by rcases hT with rfl |rfl;exact(l2 hl).1;exact(l2 hl).2.1) q
  ·obtain⟨_,ra,_,ca⟩:=k.ends
   obtain⟨t1,_,t3⟩:=k.top _ ra ca
   have f:=(k.first _ ra).1
   rw [t3]at f
   by_cases q:s.tn (G.bd c).b T
   ·obtain⟨b1,b2⟩:=both (by rw [t3];exact q) ra
    right
    rw [mk2 b1 b2,k.rootTop ra ca]
    exact⟨rfl,t1⟩
   ·left
    have:=hs f
    cases hl:lab (G.bd c).b with
    |un=>rw [hl]at this;exact this.elim
    |one u=>rw [hl]at this;have h:u=-T:=this;rw [h]
    |two r=>exact absurd (by rcases hT with rfl |rfl;exact(l2 hl).1;exact(l2 hl).2.1) q
 exact ZaR cert hG hd
end
end MX
end
section
namespace BK
open PySem PySem.Spec PyProof.Rows L2 EX RD
def top(i:Nat):Stmt:=PySem.Challenge.pw_wholeamounts_s10_most.main.body.getD i (.Pass ⟨0,0,0,0⟩)
abbrev Z3t:Stmt:=Z2O (top 1) 0
abbrev Z3Q:Stmt:=top 7
abbrev Z6m:Stmt:=top 8
abbrev Z5u:Stmt:=top 9
abbrev Z7b:Stmt:=top 10
abbrev Z7c:Stmt:=top 11
abbrev Z7P:Stmt:=top 12
abbrev Z6k:Stmt:=top 13
abbrev Z4i:Stmt:=top 14
abbrev Z3c:Stmt:=top 16
abbrev Z4y:Stmt:=top 17
abbrev Z3S:Stmt:=top 19
abbrev Z4A:Stmt:=Z2O (top 30) 0
abbrev Z3z:Stmt:=Z2O (top 30) 1
abbrev Z4z:Stmt:=Z2O (top 30) 2
abbrev Z4a:Stmt:=Z2O (top 30) 3
abbrev Z4c:Stmt:=Z2O (top 30) 4
abbrev Z5w:Stmt:=Z2O (top 35) 0
abbrev Z4w:Stmt:=Z2O (top 36) 0
abbrev Z4p:Stmt:=Z2O (top 36) 1
abbrev Z4k:Stmt:=Z2O (top 36) 2
abbrev Z3F:Stmt:=Z2O (top 36) 3
abbrev Z3R:Stmt:=Z2O (top 36) 4
abbrev Z4b:Stmt:=Z2O (top 36) 5
abbrev Z3P:Stmt:=Z2O (top 36) 6
abbrev Z3v:Stmt:=Z2O (top 36) 7
abbrev Z3G:Stmt:=Z2O (top 36) 8
abbrev Z4B:Stmt:=Z2O (top 36) 9
abbrev Z3D:Stmt:=Z2O (top 36) 10
abbrev Z4r:Stmt:=top 37
abbrev Z3J:Stmt:=top 38
abbrev Z6l:Stmt:=top 39
abbrev Z5m:Stmt:=Z2O (top 53) 0
abbrev Z4Z:Stmt:=Z2O (top 54) 0
abbrev Z4d:Stmt:=Z2O (top 55) 0
abbrev Z3Y:Stmt:=top 56
abbrev Z3H:Stmt:=top 57
abbrev Z5h:Stmt:=top 58
abbrev Z5a:Stmt:=top 59
abbrev Z2Y:Stmt:=top 60
abbrev Z3x:Stmt:=top 61
abbrev Z3W:Stmt:=top 62
abbrev Z3w:Stmt:=top 63
abbrev Z3Z:Stmt:=top 64
abbrev Z3O:Stmt:=top 65
abbrev Z3X:Stmt:=Z2O (top 71) 0
abbrev Z2P:Stmt:=top 72
abbrev Z4s:Stmt:=top 73
abbrev Z3y:Stmt:=top 80
abbrev Z5d:Stmt:=top 81
abbrev Z6A:Stmt:=top 82
abbrev Z8y:Stmt:=top 83
abbrev Z4m:Stmt:=top 84
end BK
end
section
namespace BK
open PySem PySem.Spec PyProof.Rows L2 EX RD LM
structure TA4(K:Z0a)(mg:Str→Option Value)(CF CW CN CT fF:Addr):Prop where
 xc:XC K CF fF ["rule","place","which"]
 xw:XP K CW
 xn:XP K CN
 xt:XP K CT
 mF:mg "Fault" = some (.ref CF)
 mW:mg "WrongNumbers" = some (.ref CW)
 mN:mg "NotThere" = some (.ref CN)
 mT:mg "TooGreat" = some (.ref CT)
 fw:CW≠CF
 fn:CN≠CF
 ft:CT≠CF
 wn:CN≠CW
 wt:CT≠CW
 nt:CT≠CN
 xg:XG K CF
 nr:NoAttr K CF "rule"
 np:NoAttr K CF "place"
 nw:NoAttr K CF "which"
 c0:∃ u,mg "ANSWERED" = some u∧RelV (.int 0) u
 c1:∃ u,mg "WRONG_NUMBERS" = some u∧RelV (.int (-1)) u
 c2:∃ u,mg "NOT_THERE" = some u∧RelV (.int (-2)) u
 c5:∃ u,mg "FAULTY_FORM" = some u∧RelV (.int (-5)) u
 c6:∃ u,mg "TOO_GREAT" = some u∧RelV (.int (-6)) u
def Z8R(CF CW CN CT:Addr)(ans:List Int):XK:=fun cls d H =>
 (cls=.ref CF∧∃ dx r p w,d=some dx∧H dx=some (.xd (xf r p w))∧ans=[-5,w,r,p])∨(cls=.ref CW∧ans=[-1])∨(cls=.ref CN∧ans=[-2])∨(cls=.ref CT∧ans=[-6])
theorem Z6g{X:Cx}{f:Str}{e:Expr}{pos:Pos}{ta:TE}(K:Z0a)(hK:X.K=K)(he:PE X e ta)(hb:attributeBase e f X.env (eval e X.env)=eval e X.env):PE X (.Attribute e f pos) (tXf K ta f):=by
 subst hK
 exact pe_xf he hb
section
variable{P:Program}{w:World}{K:Z0a}{mg:Str→Option Value}{base:Heap}{CF CW CN CT fF:Addr}{ι:Type}{pre:ι→List V→Hp→Prop}{ans:ι→List Int}{z:Bool}
def spL(CF CW CN CT:Addr)(pre:ι→List V→Hp→Prop)(ans:ι→List Int)(vs:List V):Sp:=fun us H Q E=>us=[]∧∃ x,pre x vs H ∧
 (∀ H' t xs,L2.Same H H'→H t=none→H' t=some (.lst (xs.map V.int))→ans x=0::xs→Q (.ref t) H')∧∀ cls d H',Z8R CF CW CN CT (ans x) cls d H'→E cls d H'
def spA(pre:ι→List V→Hp→Prop)(ans:ι→List Int)(f:Addr)(vs:List V):Sp:=fun us H Q _=>us=[.ref f]∧∃ x,pre x vs H∧(ans x).length≤sizeLine∧∀ H' u,H' u=some (.lst ((ans x).map V.int))→Q (.ref u) H'
theorem scAns:Z2v ["tell","fault"] ["tell"] (Z2r Z6A):=⟨rfl,rfl,rfl,by decide +kernel,rfl,by decide +kernel,by decide +kernel⟩
theorem okAns{fA f:Addr}{fdA fd:FuncData}{k:Nat}{vs:List V}(F:Fun K "answer" "answer" Z6A fA fdA)(T:TA4 K mg CF CW CN CT fF)(GL:FnOk P w K mg base (CXQ z P w) k f fd [] (spL CF CW CN CT pre ans vs))(hf:PySem.W.FnAt f base)
  (bL:Binds K fd [] [])(hpre:∀ x H H',L2.Same H H'→pre x vs H→pre x vs H'):FnOk P w K mg base CX0 (k+1) fA fdA ["tell"] (spA pre ans f vs):=by
 refine F.ok scAns (fun vs H Q E h=>?_) (fun cdv A outer s H vs' Q E hr h=>?_)
 ·rw [h.1];rfl
 ·obtain⟨rfl,x,hp,hln,h⟩:=h
  refine⟨_,Z2s (ps_try (W:=fun D cls d H'=>Z8R CF CW CN CT (ans x) cls d H'∧∀ H2 u,H2 u=some (.lst ((ans x).map V.int))→D.rt (.ref u) H2) rfl rfl rfl
   (fun pins E1 Ew hp=>Z2s (Z2y (pe_op Z7A (Z3B (Z2l (pe_gc rfl T.c0) Z2q)) (pe_tell (i:=0) GL hr hf bL hp))))
   (fun pins D H s ea T1 C d a hW=>?_)),?_⟩
  ·obtain⟨hW,hQ⟩:=hW
   rcases hW with⟨e,dx,r,p,w,rfl,hd,hq⟩ |⟨e,hq⟩ |⟨e,hq⟩ |⟨e,hq⟩
   ·cases e
    rw [hq]at hQ
    refine' hb_as (i:=1) a T.xc.k1 rfl rfl rfl rfl T.mF scAns.nd rfl rfl ?hs0 ?hE0
    case hs0=>exact fun ea=>Z2s (Z2y (Z3B (Z2l (pe_gc rfl T.c5) (Z2l (Z6g K rfl (pv 1) rfl) (Z2l (Z6g K rfl (pv 1) rfl) (Z2l (Z6g K rfl (pv 1) rfl) Z2q))))))
    intro ea nea ned
    have h1:upd H ea (XE z ea CF dx) dx=some (.xd (xf r p w)):=by rw [Z2m ned.symm];exact hd
    exact⟨_,rfl,z,ea,CF,dx,_,_,rfl,Z2n,h1,T.xg,T.nw,xf_which _ _ _,_,rfl,z,ea,CF,dx,_,_,rfl,Z2n,h1,T.xg,T.nr,Zam _ _ _,_,rfl,z,ea,CF,dx,_,_,rfl,Z2n,h1,T.xg,T.np,Z9z _ _ _,
     (by show 4≤sizeLine;decide),fun u hu=>hQ _ u Z2n⟩
   ·cases e
    rw [hq]at hQ
    refine Z4S a rfl T.mF T.xw.k1 T.xc.k1 T.fw ?_
    refine' Z8L a T.xw.k1 rfl rfl rfl rfl T.mW ?hs1 ?hE1
    case hs1=>exact fun ea=>Z2s (Z2y (Z3B (Z2l (pe_gc rfl T.c1) Z2q)))
    exact⟨(by show 1≤sizeLine;decide),fun u hu=>hQ _ u Z2n⟩
   ·cases e
    rw [hq]at hQ
    refine Z4S a rfl T.mF T.xn.k1 T.xc.k1 T.fn (Z4S a rfl T.mW T.xn.k1 T.xw.k1 T.wn ?_)
    refine' Z8L a T.xn.k1 rfl rfl rfl rfl T.mN ?hs2 ?hE2
    case hs2=>exact fun ea=>Z2s (Z2y (Z3B (Z2l (pe_gc rfl T.c2) Z2q)))
    exact⟨(by show 1≤sizeLine;decide),fun u hu=>hQ _ u Z2n⟩
   ·cases e
    rw [hq]at hQ
    refine Z4S a rfl T.mF T.xt.k1 T.xc.k1 T.ft (Z4S a rfl T.mW T.xt.k1 T.xw.k1 T.wt (Z4S a rfl T.mN T.xt.k1 T.xn.k1 T.nt ?_))
    refine' Z8L a T.xt.k1 rfl rfl rfl rfl T.mT ?hs3 ?hE3
    case hs3=>exact fun ea=>Z2s (Z2y (Z3B (Z2l (pe_gc rfl T.c6) Z2q)))
    exact⟨(by show 1≤sizeLine;decide),fun u hu=>hQ _ u Z2n⟩
  ·refine⟨(by show 1≤sizeLine;decide),fun l hl=>⟨rfl,rfl,x,hpre x _ _ (RD.Same.new hl) hp,fun H' t xs s1 nt ht e=>?_,fun cls d H' r=>⟨r,h⟩⟩⟩
   rw [e]at h hln
   refine⟨l,t,_,_,rfl,rfl,s1 _ _ Z2n,ht,?_,fun p hp=>h _ p Z2n⟩
   rw [Z0q]at hln
   simp only [Z0q,Z0U,Z0b]
   omega
end
def spD{ι:Type}(PT:Addr)(ix:List Nat)(pre:ι→List V→Hp→Prop)(ans:ι→List Int):Sp:=fun us H Q _=>us.length=ix.length∧H PT=some (.tbl #[])∧∃ x vs,vs.length=ix.length∧(∀ (j i:Nat)(v:V),ix[j]?=some i→vs[j]?=some v→us[i]?=some v) ∧
 (∀ more,pre x vs (upd H PT (.tbl more)))∧(ans x).length≤sizeLine∧∀ H' p,H' p=some (.lst ((ans x).map V.int))→Q (.ref p) H'
theorem code_tab{K:Z0a}{x:Str}{c PT f:Addr}{oc:Value}{od:Option Addr}{fd:FuncData}{osl:Array (Option Value)}(h:PySem.W.tabIn K x=some (c,PT))(hn:PySem.W.nsIn K mainGlobals x=some (some (.ref f)))
  (lk:K.lookup f=some ⟨oc,od,.func fd,osl⟩):fd.code=.ref c:=by
 unfold PySem.W.tabIn at h
 rw [hn]at h
 dsimp only at h
 rw [lk]at h
 dsimp only at h
 split at h
 ·rename_i c2 hc
  split at h
  ·split at h
   ·cases h;exact hc
   ·cases h
  ·cases h
 ·cases h
def lamOf(st:Stmt):Arguments×Expr×Scope×Pos:=match Z2F st with
 |[.Return (some (.Call _ [.Lambda a b s p] _ _)) _]=>(a,b,s,p)
 |_=>(Z3m st,.Name "" ⟨0,0,0,0⟩,Z2r st,⟨0,0,0,0⟩)
abbrev Z4U(st:Stmt):Arguments:=(lamOf st).1
abbrev Z5I(st:Stmt):Expr:=(lamOf st).2.1
abbrev Z3C(st:Stmt):Scope:=(lamOf st).2.2.1
abbrev lamPos(st:Stmt):Pos:=(lamOf st).2.2.2
structure Z9r(st:Stmt)(ps M:List Str)(ix:List Nat):Prop where
 fs:Z2v ps ps (Z2r st)
 ls:Z7w M (Z3C st)
 body:∃ p1 p2 p3,Z2F st=[.Return (some (.Call (.Name "answer" p1) [.Lambda (Z4U st) (Z5I st) (Z3C st) (lamPos st)] [] p2)) p3]
 dft:∀ env,defaultsOf (Z4U st) env=([],[])
 cel:∀ y∈(Z3C st).names,y.2=.free→(Z2r st).names.lookup y.1=some .cell
 at_:∀ (j:Nat)(y:Str),M[j]?=some y→∃ i,ix[j]?=some i∧ps[i]?=some y
 len:ix.length=M.length
 uq:∀ y∈(Z3C st).names,(Z3C st).names.lookup y.1=some y.2
 gl:(Z2r st).names.lookup ("answer" : Str)=some .globalImplicit
 cb:∀ (qual:Str)(cl:List (Str×Addr))(pm cd ctv:Value),bindArgs (PySem.W.kla_fn "<lambda>" qual (Z4U st) (Z5I st) (Z3C st) cl pm cd ctv) ⟨[],[]⟩=pure []
section
variable{P:Program}{w:World}{K:Z0a}{mg:Str→Option Value}{base:Heap}{CF CW CN CT fF:Addr}{ι:Type}{pre:ι→List V→Hp→Prop}{ans:ι→List Int}{k:Nat}{nm:Str}{st:Stmt}{f fA c PT:Addr}{fd fdA:FuncData}{ps M:List Str}{ix:List Nat}
theorem okD(F:Fun K nm nm st f fd)(hcd:fd.code=.ref c)(S:Z9r st ps M ix)(hC:PySem.W.CodeHd base c PT)(hB:base.BuiltinsAt mg PT)
  (hm:mg "answer" = some (.ref fA))(hk:PySem.W.keepIn K (.ref fA)=true)(hb:Binds K fdA ["tell"] [])
  (GA:∀ (base:Heap)(f:Addr)(fd:FuncData)(cl:List (Str×Addr))(cd:Value)(vs:List V),K.In base→base.Ns mainGlobals mg→Lam base f fd (nm++".<locals>."++"<lambda>") (Z4U st) (Z5I st) (Z3C st) cl cd M vs →
    FnOk P w K mg base CX0 k fA fdA ["tell"] (spA pre ans f vs))(hix:ix.length=ps.length) :
  FnOk P w K mg base CX0 (k+1) f fd ps (spD PT ix pre ans):=by
 obtain⟨oc,od,kV,doc,pm,an,cdv,ct,osl,rfl,lk,hc⟩:=F.ex
 obtain rfl:cdv=.ref c:=hcd
 refine fn_of lk hc S.fs (fun vs H Q E h=>by rw [h.1,hix]) fun A outer s H us Q E hr h=>?_
 obtain⟨hl,hT,x,vs,hvl,hvs,hp,hln,hq⟩:=h
 obtain⟨p1,p2,p3,hbd⟩:=S.body
 rw [hbd]
 refine⟨_,Z2s (Z2y (pe_ans (ix:=ix) (spA:=spA pre ans) (CX:=CX0) (E:=E0) hC hB rfl rfl rfl rfl (fun _=>rfl) (S.dft _) S.ls S.cel S.at_ S.len S.uq S.gl hm hk hb hr (fun _ _ _ _ _ _ _ z=>z.elim) GA (by decide) rfl)),?_⟩
 refine⟨#[],vs,hT,rfl,by first |trivial |exact .nil |simp [TriplesOk] |decide,hvl,fun j i v e1 e2=>?_,fun f' more hf'=>⟨rfl,x,hp _,hln,hq⟩⟩
 have z:=hvs j i v e1 e2
 have hi:i<us.length:=(Z0r.mp z).1
 unfold L2.start
 rw [Z0S (by simpa using hi),Z0k,z]
 rfl
theorem bind_lam{qual:Str}{cl:List (Str×Addr)}{cd:Value}{vs:List V}(S:Z9r st ps M ix)(L:Lam base f fd qual (Z4U st) (Z5I st) (Z3C st) cl cd M vs):Binds K fd [] []:=by
 obtain⟨oc,od,sl,pm,ctv,rfl,_⟩:=L.ex
 exact .all fun us hl=>by
  obtain rfl:us=[]:=Z1Q hl
  exact S.cb ..
theorem fnAt_lam{qual:Str}{cl:List (Str×Addr)}{cd:Value}{vs:List V}{a:Arguments}{b:Expr}{sc:Scope}(L:Lam base f fd qual a b sc cl cd M vs):PySem.W.FnAt f base:=by
 obtain⟨oc,od,sl,pm,ctv,_,e⟩:=L.ex
 exact⟨oc,od,_,sl,e⟩
end
section
variable{X:Cx}
end
section
variable{P:Program}{w:World}{K:Z0a}{mg:Str→Option Value}{base:Heap}{CF CW CN CT fF:Addr}
def spGcd:Sp:=fun vs H Q _=>∃ a b:Nat,vs=[.int a,.int b]∧Q (.int (Nat.gcd a b:Nat)) H
theorem scGcd:Z2v ["a","b","remainder"] ["a","b"] (Z2r Z3Q):=⟨rfl,rfl,rfl,by decide +kernel,rfl,by decide +kernel,by decide +kernel⟩
theorem okGcd{f:Addr}{fd:FuncData}(F:Fun K "common_divisor" "common_divisor" Z3Q f fd):FnOk P w K mg base CX0 1 f fd ["a","b"] spGcd:=by
 refine F.ok scGcd (fun vs H Q E h=>?_) (fun cdv A outer s H vs Q E hr h=>?_)
 ·obtain⟨a,b,rfl,_⟩:=h
  rfl
 ·obtain⟨a,b,rfl,k⟩:=h
  refine⟨_,Z2o (Z5f PassesOwn.never (Z2G op_ne (pv 1) Z2t (Z2D _))
    (Z2o (Z2w (i:=2) scGcd.nd rfl (Or.inl rfl) (pe_op op_mod (pv 0) (pv 1)))
    (Z2o (Z2w (i:=0) scGcd.nd rfl (Or.inl rfl) (pv 1))
    (Z2s (Z2w (i:=1) scGcd.nd rfl (Or.inl rfl) (pv 2))))))
   (Z2s (Z2y (pv 0))),?_⟩
  refine Z6b (fun σ H'=>∃ (a' b':Nat)(v:Option V),σ=[some (.int a'),some (.int b'),v]∧H'=H∧Nat.gcd a' b'=Nat.gcd a b) (fun σ _=>match σ with |[_,some (.int b'),_]=>b'.toNat |_=>0) ⟨a,b,none,rfl,rfl,rfl⟩ ?_ ?_
  ·rintro σ H' ⟨a',b',v,rfl,rfl,hg⟩
   refine⟨_,rfl,rfl,_,rfl,ite2 (fun hc=>?_) (fun hc=>?_)⟩
   ·have hb:b'≠0:=fun z=>by simp [z]at hc
    refine⟨_,rfl,_,rfl,_,_,rfl,rfl,(by omega),?_⟩
    refine⟨_,rfl,_,rfl,⟨b',a' % b',some (.int ((a' % b':Nat):Int)),?_,rfl,?_⟩,?_⟩
    ·show[some (V.int (b':Int)),some (V.int ((a':Int) % (b':Int))),some (V.int ((a':Int) % (b':Int)))]=_
     rw [Int.natCast_emod]
    ·rw [←hg,Nat.gcd_comm b' (a' % b'),←Nat.gcd_rec,Nat.gcd_comm]
    ·show((a':Int) % (b':Int)).toNat<(b':Int).toNat
     rw [←Int.natCast_emod]
     exact Nat.mod_lt _ (Z1d hb)
   ·have hb:b'=0:=by
     rcases Nat.eq_zero_or_pos b' with z |z
     ·exact z
     ·exact absurd (show _=true by simp;omega) hc
    subst hb
    refine⟨_,rfl,?_⟩
    rw [Nat.gcd_zero_right]at hg
    rw [hg]
    exact k
  ·rintro σ H' Q1 Q2 hq ⟨v,e,h1,b',e2,q⟩
   exact⟨v,e,h1,b',e2,hq _ _ q⟩
end
def nV(n:Nat):V:=.int (n:Int)
section
variable{P:Program}{w:World}{K:Z0a}{mg:Str→Option Value}{base:Heap}{CF CW CN CT fF:Addr}
def spLow:Sp:=fun vs H Q _=>∃ (n d k:Nat),vs=[.int n,.int d]∧0<d∧d<2 ^ k∧k≤9000∧∀ H' t,L2.Same H H'→H t=none→H' t=some (.tup (([((Fk.low (n,d)).1:Int),((Fk.low (n,d)).2:Int)]:List Int).map V.int))→Q (.ref t) H'
theorem scLow:Z2v ["numerator","denominator","divisor"] ["numerator","denominator"] (Z2r Z6m):=⟨rfl,rfl,rfl,by decide +kernel,rfl,by decide +kernel,by decide +kernel⟩
theorem okLow{f fG:Addr}{fd fdG:FuncData}(F:Fun K "lowest" "lowest" Z6m f fd)(GG:FnOk P w K mg base CX0 1 fG fdG ["a","b"] spGcd)(mG:mg "common_divisor" = some (.ref fG))(kG:PySem.W.keepIn K (.ref fG)=true)(bG:Binds K fdG ["a","b"] []) :
  FnOk P w K mg base CX0 2 f fd ["numerator","denominator"] spLow:=by
 refine F.ok scLow (fun vs H Q E h=>?_) (fun cdv A outer s H vs Q E hr h=>?_)
 ·obtain⟨n,d,k,rfl,_⟩:=h
  rfl
 ·obtain⟨n,d,k,rfl,hd,hk,hk9,q⟩:=h
  refine⟨_,Z2o (Z2w (i:=2) scLow.nd rfl (Or.inl rfl) (Z2B GG hr rfl mG kG bG .nil pass0 (Z2l (pv 0) (Z2l (pv 1) Z2q))))
   (Z2s (Z2y (Z4l (Z2l (pe_op Z8G (pv 0) (pv 2)) (Z2l (pe_op Z8G (pv 1) (pv 2)) Z2q))))),?_⟩
  have g0:0<Nat.gcd n d:=Z1o _ hd
  have g1:Nat.gcd n d≤d:=Nat.le_of_dvd hd (Z1R _ _)
  have cd:∀ i:Int,CDivL i ((Nat.gcd n d:Nat):Int):=fun i=>CDivL.of (k:=k) (by omega) (by simp only [Int.natAbs_natCast];omega) hk9
  refine⟨_,rfl,_,rfl,n,d,rfl,?_⟩
  refine⟨_,rfl,_,rfl,_,_,rfl,rfl,cd _,_,rfl,_,rfl,_,_,rfl,rfl,cd _,(by show 2≤sizeLine;decide),fun t ht=>?_⟩
  refine q _ t (RD.Same.new ht) ht ?_
  rw [Z2n]
  rfl
end
section
variable{P:Program}{w:World}{K:Z0a}{mg:Str→Option Value}{base:Heap}{CF CW CN CT fF:Addr}
def Z9T(K:Z0a)(CT:Addr):Sp:=fun vs H Q E=>∃ (m:Int)(a:Addr)(xs:List Int),vs=[.int m,.ref a]∧SqL K H a (xs.map V.int)∧((xs.any fun x=>decide (m<x))=false→Q .non H)∧((xs.any fun x=>decide (m<x))=true→E (.ref CT) none H)
theorem scAbove:Z2v ["most","numbers","number"] ["most","numbers"] (Z2r Z4i):=⟨rfl,rfl,rfl,by decide +kernel,rfl,by decide +kernel,by decide +kernel⟩
theorem okAbove{f:Addr}{fd:FuncData}(F:Fun K "refuse_above" "refuse_above" Z4i f fd)(xt:XP K CT)(mT:mg "TooGreat" = some (.ref CT)):FnOk P w K mg base (CXF P w) 2 f fd ["most","numbers"] (Z9T K CT):=by
 refine okX F scAbove (fun vs H Q E h=>?_) (fun cdv A outer s H vs Q E hr h=>?_)
 ·obtain⟨m,a,xs,rfl,_⟩:=h
  rfl
 ·obtain⟨m,a,xs,rfl,hS,k1,k2⟩:=h
  refine⟨_,Z2s (Z3A Z4N rfl (Z4W (pv 1)) (Z2H (i:=2) scAbove.nd rfl (Or.inl rfl))
   (Z2s (ps_if (Z2G op_gt (pv 2) (pv 0) (Z2D _)) (Z2s (Z4L xt rfl rfl rfl mT Z2Q)) Z2L))),?_⟩
  refine⟨_,rfl,a,rfl,⟨_,hS⟩,Z5Q (K:=K) (a:=a) (xs:=xs.map V.int) (fun i σ H'=>∃ v:Option V,σ=[some (.int m),some (.ref a),v]∧H'=H∧((xs.take i).any fun x=>decide (m<x))=false)
   ⟨none,rfl,rfl,rfl⟩ (fun i σ H' _ ⟨_,_,e,_⟩=>by rw [e];exact hS) ?_ ?_⟩
  ·rintro i y σ H' hi ⟨v,rfl,rfl,hf⟩
   rw [Z0k]at hi
   cases e:xs[i]? with
   |none=>rw [e]at hi;cases hi
   |some z =>
    rw [e]at hi
    cases hi
    refine⟨_,rfl,_,rfl,_,_,rfl,rfl,_,rfl,ite2 (fun hc=>?_) (fun hc=>?_)⟩
    ·exact k2 (Z1S.mpr ⟨z,Z0u e,hc⟩)
    ·refine⟨_,rfl,rfl,?_⟩
     have hlt:=(Z0r.mp e).1
     rw [Z1z,e,List.any_append,hf]
     simp only [Option.toList,Z1a,List.any_nil,Bool.or_false,Bool.false_or]
     exact Bool.eq_false_iff.mpr hc
  ·rintro σ H' ⟨v,rfl,rfl,hf⟩
   rw [Z0b,Z1T]at hf
   exact k1 hf
def spRow:Sp:=fun vs H Q _=>∃ (a:Addr)(xs:List V),vs=[.ref a]∧H a=some (.lst xs)∧1+xs.length≤sizeLine∧∀ H' t,L2.Same H H'→H t=none→H' t=some (.lst (.int (xs.length:Int)::xs))→Q (.ref t) H'
theorem scRow:Z2v ["numbers"] ["numbers"] (Z2r Z8y):=⟨rfl,rfl,rfl,by decide +kernel,rfl,by decide +kernel,by decide +kernel⟩
theorem okRow{f:Addr}{fd:FuncData}(F:Fun K "row" "row" Z8y f fd)(hlen:mg "len" = none):FnOk P w K mg base CX0 1 f fd ["numbers"] spRow:=by
 refine F.ok scRow (fun vs H Q E h=>?_) (fun cdv A outer s H vs Q E hr h=>?_)
 ·obtain⟨a,xs,rfl,_⟩:=h
  rfl
 ·obtain⟨a,xs,rfl,ha,hl,k⟩:=h
  refine⟨_,Z2s (Z2y (pe_op Z7A (Z3B (Z2l (Z2U Z2J (by rfl) hlen PySem.boot_len (Z2l (pv 0) Z2q)) Z2q)) (pv 0))),?_⟩
  refine⟨_,rfl,a,_,rfl,.inl (SqL.of ha),(by show 1≤sizeLine;decide),fun l hn=>?_⟩
  have s1:L2.Same H (upd H l (.lst [.int (xs.length:Int)])):=RD.Same.new hn
  refine⟨_,rfl,l,a,_,_,rfl,rfl,Z2n,s1 _ _ ha,hl,fun t ht=>?_⟩
  exact k _ t (s1.trans (RD.Same.new ht)) (s1.free ht) Z2n
end
end BK
end
section
namespace MX
open Classical in
noncomputable def cnt:Nat→(Nat→Prop)→Nat
 |0,_=>0
 |n+1,p=>cnt n p+if p n then 1 else 0
theorem Z4G{n:Nat}{p q:Nat→Prop}(h:∀ x,x<n→(p x↔q x)):cnt n p=cnt n q:=by
 induction n with
 |zero=>rfl
 |succ n ih =>
  unfold cnt
  rw [ih fun x hx=>h x (by omega)]
  have:=h n (by omega)
  by_cases q1:p n
  ·rw [if_pos q1,if_pos (this.mp q1)]
  ·rw [if_neg q1,if_neg fun z=>q1 (this.mpr z)]
open Classical in
theorem Z9v{n a:Nat}{p q:Nat→Prop}(ha:a<n)(hp:p a)(h:∀ x,q x↔p x∧x≠a):cnt n p=cnt n q+1:=by
 induction n with
 |zero=>omega
 |succ n ih =>
  unfold cnt
  by_cases e:n=a
  ·subst e
   rw [if_pos hp,if_neg (fun z=>((h n).mp z).2 rfl),Z4G (p:=p) (q:=q) fun x hx=>⟨fun z=>(h x).mpr ⟨z,by omega⟩,fun z=>((h x).mp z).1⟩]
  ·rw [ih (by omega)]
   have:(if p n then 1 else 0)=(if q n then 1 else 0):=by
    by_cases q1:p n
    ·rw [if_pos q1,if_pos ((h n).mpr ⟨q1,e⟩)]
    ·rw [if_neg q1,if_neg fun z=>q1 ((h n).mp z).1]
   rw [this]
   omega
theorem cnt_le(n:Nat)(p:Nat→Prop):cnt n p≤n:=by
 induction n with
 |zero=>exact Z0d _
 |succ n ih=>unfold cnt;split<;>omega
noncomputable def miss(s:S)(n:Nat):Nat:=cnt n (fun x=>¬ s.tn x 1)+cnt n (fun x=>¬ s.tn x (-1))
def S.allow(s:S)(x:Nat)(t:Int):S:={ s with tn:=fun z u=>s.tn z u∨(z=x∧u=t) }
theorem ZaE{s:S}{n x:Nat}{t:Int}(hx:x<n)(ht:t=1∨t=-1)(h:¬ s.tn x t):miss s n=miss (s.allow x t) n+1:=by
 unfold miss
 rcases ht with rfl |rfl
 ·rw [Z9v (p:=fun x=>¬ s.tn x 1) (q:=fun z=>¬ (s.allow x 1).tn z 1) hx h fun z=>?_,Z4G (p:=fun x=>¬ s.tn x (-1)) (q:=fun z=>¬ (s.allow x 1).tn z (-1)) fun z _=>?_]
  ·omega
  ·refine⟨fun a b=>?_,fun a b=>a (.inl b)⟩
   rcases b with b |⟨_,b⟩
   ·exact a b
   ·omega
  ·refine⟨fun a=>⟨fun b=>a (.inl b),fun b=>a (.inr ⟨b,rfl⟩)⟩,fun a b=>?_⟩
   rcases b with b |⟨b,_⟩
   ·exact a.1 b
   ·exact a.2 b
 ·rw [Z9v (p:=fun x=>¬ s.tn x (-1)) (q:=fun z=>¬ (s.allow x (-1)).tn z (-1)) hx h fun z=>?_,Z4G (p:=fun x=>¬ s.tn x 1) (q:=fun z=>¬ (s.allow x (-1)).tn z 1) fun z _=>?_]
  ·omega
  ·refine⟨fun a b=>?_,fun a b=>a (.inl b)⟩
   rcases b with b |⟨_,b⟩
   ·exact a b
   ·omega
  ·refine⟨fun a=>⟨fun b=>a (.inl b),fun b=>a (.inr ⟨b,rfl⟩)⟩,fun a b=>?_⟩
   rcases b with b |⟨b,_⟩
   ·exact a.1 b
   ·exact a.2 b
def cfI(s:S)(x:Nat):Int:=match s.cf x with
 |none=>-1
 |some w=>w
end MX
namespace BK
open PySem PySem.Spec PyProof.Rows L2 EX RD LM
structure SA where
 sr:Addr
 dx:Addr
 wl:Addr
 db:Addr
 cb:Addr
 cf:Addr
 tn:Addr
 wq:Addr
abbrev SA.mut(A:SA):List Addr:=[A.db,A.cb,A.cf,A.tn,A.wq]
def SA.flds(A:SA)(c:Nat):List (Str×V):=[("ways",.ref A.wl),("cut",.int (c:Int)),("bases",.ref A.db),("came_by",.ref A.cb),("came_from",.ref A.cf),("turns",.ref A.tn),("waiting",.ref A.wq)]
theorem sf_ways(A:SA)(c:Nat):(SA.flds A c).lookup ("ways" : Str)=some (.ref A.wl):=by
 unfold SA.flds;rw [Z0c,show(("ways" : Str)=="ways")=true by decide]
theorem sf_cut(A:SA)(c:Nat):(SA.flds A c).lookup ("cut" : Str)=some (.int (c:Int)):=by
 unfold SA.flds;rw [Z0c,show(("cut" : Str)=="ways")=false by decide,Z0c,show(("cut" : Str)=="cut")=true by decide]
theorem Z3E(A:SA)(c:Nat):(SA.flds A c).lookup ("bases" : Str)=some (.ref A.db):=by
 unfold SA.flds;rw [Z0c,show(("bases" : Str)=="ways")=false by decide,Z0c,show(("bases" : Str)=="cut")=false by decide,Z0c,show(("bases" : Str)=="bases")=true by decide]
theorem Z7G(A:SA)(c:Nat):(SA.flds A c).lookup ("came_by" : Str)=some (.ref A.cb):=by
 unfold SA.flds;rw [Z0c,show(("came_by" : Str)=="ways")=false by decide,Z0c,show(("came_by" : Str)=="cut")=false by decide,Z0c,show(("came_by" : Str)=="bases")=false by decide,Z0c,show(("came_by" : Str)=="came_by")=true by decide]
theorem Z6v(A:SA)(c:Nat):(SA.flds A c).lookup ("came_from" : Str)=some (.ref A.cf):=by
 unfold SA.flds;rw [Z0c,show(("came_from" : Str)=="ways")=false by decide,Z0c,show(("came_from" : Str)=="cut")=false by decide,Z0c,show(("came_from" : Str)=="bases")=false by decide,Z0c,show(("came_from" : Str)=="came_by")=false by decide,Z0c,show(("came_from" : Str)=="came_from")=true by decide]
theorem Z6T(A:SA)(c:Nat):(SA.flds A c).lookup ("turns" : Str)=some (.ref A.tn):=by
 unfold SA.flds;rw [Z0c,show(("turns" : Str)=="ways")=false by decide,Z0c,show(("turns" : Str)=="cut")=false by decide,Z0c,show(("turns" : Str)=="bases")=false by decide,Z0c,show(("turns" : Str)=="came_by")=false by decide,Z0c,show(("turns" : Str)=="came_from")=false by decide,Z0c,show(("turns" : Str)=="turns")=true by decide]
theorem Z5R(A:SA)(c:Nat):(SA.flds A c).lookup ("waiting" : Str)=some (.ref A.wq):=by
 unfold SA.flds;rw [Z0c,show(("waiting" : Str)=="ways")=false by decide,Z0c,show(("waiting" : Str)=="cut")=false by decide,Z0c,show(("waiting" : Str)=="bases")=false by decide,Z0c,show(("waiting" : Str)=="came_by")=false by decide,Z0c,show(("waiting" : Str)=="came_from")=false by decide,Z0c,show(("waiting" : Str)=="turns")=false by decide,Z0c,show(("waiting" : Str)=="waiting")=true by decide]
theorem sf_no(A:SA)(c:Nat){m:Str}(h0:(m=="ways")=false)(h1:(m=="cut")=false)(h2:(m=="bases")=false)(h3:(m=="came_by")=false)(h4:(m=="came_from")=false)(h5:(m=="turns")=false)(h6:(m=="waiting")=false):(SA.flds A c).lookup m=none:=by
 unfold SA.flds;rw [Z0c,h0,Z0c,h1,Z0c,h2,Z0c,h3,Z0c,h4,Z0c,h5,Z0c,h6];rfl
def Frm(A:SA)(H H':Hp):Prop:=∀ b o,H b=some o→b∉A.mut→H' b=some o
theorem Frm.refl(A:SA)(H:Hp):Frm A H H:=fun _ _ h _=>h
theorem Frm.trans{A:SA}{H H1 H2:Hp}(a:Frm A H H1)(b:Frm A H1 H2):Frm A H H2:=fun c o h n=>b c o (a c o h n) n
theorem Frm.new{A:SA}{H H1:Hp}{b:Addr}{o:HO}(h:Frm A H H1)(n:H1 b=none):Frm A H (upd H1 b o):=fun c o' e hc=>by
 have e1:=h c o' e hc
 rw [Z2m (Z2p e1 n)];exact e1
theorem Frm.upd{A:SA}{H H1:Hp}{b:Addr}{o:HO}(h:Frm A H H1)(hb:b∈A.mut):Frm A H (L2.upd H1 b o):=fun c o' e hc=>by
 rw [Z2m (fun z=>hc (by rw [z];exact hb))];exact h c o' e hc
structure Bas(s:MX.S)(kvs:List (Key×V)):Prop where
 mid:valV kvs (.inl (-1))=some (.int (-1))
 at_:∀ x:Nat,s.re x→∃ y:Nat,valV kvs (.inl (x:Int))=some (.int (y:Int))∧s.re y∧s.root y=s.root x∧(y=x↔s.root x=x)∧(y≠x→s.rk y<s.rk x)
 no:∀ x:Nat,¬ s.re x→valV kvs (.inl (x:Int))=none
structure Rep(CS:Addr)(n:Nat)(H:Hp)(A:SA)(c:Nat)(s:MX.S)(q:List (Nat×Int))(N M:Nat):Prop where
 obj:H A.sr=some (.ins CS A.dx (A.flds c))
 bas:∃ kvs,H A.db=some (.dK kvs)∧Bas s kvs∧kvs.length≤M
 cby:∃ kvs:List (Key×V),H A.cb=some (.dK kvs)∧(∀ x,s.re x→valV kvs (.inl (x:Int))=some (.int (s.cb x:Int)))∧kvs.length≤M
 cfr:∃ kvs:List (Key×V),H A.cf=some (.dK kvs)∧(∀ x,s.re x→valV kvs (.inl (x:Int))=some (.int (MX.cfI s x)))∧kvs.length≤M
 trn:∃ kvs:List (List Key×V),H A.tn=some (.dT kvs)∧(∀ (x:Nat)(t:Int),(valV kvs [.inl (x:Int),.inl t]).isSome=true↔s.tn x t)∧kvs.length≤N
 wat:∃ ts,H A.wq=some (.lst (ts.map V.ref))∧Tups H ts (q.map fun p=>[(p.1:Int),p.2])
 qle:q.length≤N
 bud:N+MX.miss s n≤2*n+3
 mle:M≤400
 nn:n≤128
 nd:A.mut.Nodup
theorem Rep.small{CS n:Nat}{H:Hp}{A:SA}{c:Nat}{s:MX.S}{q:List (Nat×Int)}{N M:Nat}(r:Rep CS n H A c s q N M):N<300:=by
 have:=r.bud
 have:=r.nn
 omega
section
variable{CS n:Nat}{H H':Hp}{A:SA}{c:Nat}{s s':MX.S}{q:List (Nat×Int)}{N M:Nat}
theorem Rep.sr_mut(r:Rep CS n H A c s q N M):A.sr∉A.mut:=fun h=>by
 have ho:=r.obj
 obtain⟨_,a1,_⟩:=r.bas
 obtain⟨_,a2,_⟩:=r.cby
 obtain⟨_,a3,_⟩:=r.cfr
 obtain⟨_,a4,_⟩:=r.trn
 obtain⟨_,a5,_⟩:=r.wat
 simp only [Z0e,Z0y,or_false]at h
 rcases h with h |h |h |h |h<;>rw [h]at ho
 ·rw [a1]at ho;cases ho
 ·rw [a2]at ho;cases ho
 ·rw [a3]at ho;cases ho
 ·rw [a4]at ho;cases ho
 ·rw [a5]at ho;cases ho
theorem Rep.new(r:Rep CS n H A c s q N M){b:Addr}{o:HO}(hb:H b=none):Rep CS n (upd H b o) A c s q N M:=by
 have k:∀ {a:Addr}{u:HO},H a=some u→upd H b o a=some u:=fun e=>by rw [Z2m (Z2p e hb)];exact e
 obtain⟨_,a1,b1⟩:=r.bas
 obtain⟨_,a2,b2⟩:=r.cby
 obtain⟨_,a3,b3⟩:=r.cfr
 obtain⟨_,a4,b4⟩:=r.trn
 obtain⟨_,a5,b5⟩:=r.wat
 exact⟨k r.obj,⟨_,k a1,b1⟩,⟨_,k a2,b2⟩,⟨_,k a3,b3⟩,⟨_,k a4,b4⟩,⟨_,k a5,b5.same fun c xs e=>k e⟩,r.qle,r.bud,r.mle,r.nn,r.nd⟩
theorem Rep.setBas(r:Rep CS n H A c s q N M){kvs:List (Key×V)}(h:Bas s' kvs)(hl:kvs.length≤M)(e1:s'.re=s.re)(e2:s'.cb=s.cb)(e3:s'.cf=s.cf)(e4:s'.tn=s.tn):Rep CS n (upd H A.db (.dK kvs)) A c s' q N M:=by
 have nd:=r.nd
 simp only [Z0N,Z0e,Z0y,or_false,not_or]at nd
 obtain⟨⟨n1,n2,n3,n4⟩,_⟩:=nd
 obtain⟨_,a1,b1⟩:=r.bas
 obtain⟨_,a2,b2,l2⟩:=r.cby
 obtain⟨_,a3,b3,l3⟩:=r.cfr
 obtain⟨_,a4,b4,l4⟩:=r.trn
 obtain⟨_,a5,b5⟩:=r.wat
 refine⟨by rw [Z2m (ne_of r.obj a1 (by intro z;cases z))];exact r.obj,⟨_,Z2n,h,hl⟩,⟨_,by rw [Z2m (Ne.symm n1)];exact a2,by rw [e1,e2];exact b2,l2⟩,⟨_,by rw [Z2m (Ne.symm n2)];exact a3,?_,l3⟩,⟨_,by rw [Z2m (Ne.symm n3)];exact a4,by rw [e4];exact b4,l4⟩,
  ⟨_,by rw [Z2m (Ne.symm n4)];exact a5,b5.same fun c xs e=>by rw [Z2m (ne_of e a1 (by intro z;cases z))];exact e⟩,r.qle,?_,r.mle,r.nn,r.nd⟩
 ·intro x hx
  rw [e1]at hx
  have:=b3 x hx
  unfold MX.cfI at this ⊢
  rw [e3];exact this
 ·have:=r.bud
  unfold MX.miss at this ⊢
  rw [e4];exact this
end
structure TS7(K:Z0a)(mg:Str→Option Value)(CS:Addr):Prop where
 cl:Cls K CS
 nw:NoAttr K CS "ways"
 nc:NoAttr K CS "cut"
 nb:NoAttr K CS "bases"
 ny:NoAttr K CS "came_by"
 nf:NoAttr K CS "came_from"
 nt:NoAttr K CS "turns"
 nq:NoAttr K CS "waiting"
 up:∃ u,mg "UP" = some u∧RelV (.int 1) u
 dn:∃ u,mg "DOWN" = some u∧RelV (.int (-1)) u
 md:∃ u,mg "MIDDLE" = some u∧RelV (.int (-1)) u
theorem Z9a{κ:Type}[DecidableEq κ]{kvs:List (κ×V)}{k:κ}{v:V}(h:(valV kvs k).isSome=true):(putK kvs k v).length=kvs.length:=by
 unfold putK
 rw [Z5l,if_pos h,Z0b]
theorem Z3k{a b:Int}:((Sum.inl a:Key)=Sum.inl b)↔a=b:=⟨fun h=>Sum.inl.inj h,fun h=>by rw [h]⟩
theorem Bas.put{s:MX.S}{kvs:List (Key×V)}(h:Bas s kvs){x y:Nat}(hy:s.re y)(hr:s.root y=s.root x)(h1:y=x↔s.root x=x)(h2:y≠x→s.rk y<s.rk x)(hx:s.re x):Bas s (putK kvs (.inl (x:Int)) (.int (y:Int))):=by
 refine⟨?_,fun z hz=>?_,fun z hz=>?_⟩
 ·rw [Z2M,if_neg (by rw [Z3k];omega)];exact h.mid
 ·rw [Z2M]
  by_cases q:z=x
  ·subst q
   rw [if_pos rfl]
   exact⟨y,rfl,hy,hr,h1,h2⟩
  ·rw [if_neg (by rw [Z3k];omega)]
   exact h.at_ z hz
 ·rw [Z2M,if_neg (by rw [Z3k];intro q;apply hz;have:z=x:=(by omega);rw [this];exact hx)]
  exact h.no z hz
section
variable{P:Program}{w:World}{K:Z0a}{mg:Str→Option Value}{base:Heap}{CS:Addr}
def BaseIs(s:MX.S)(x r:Int):Prop:=(x=-1∧r=-1)∨∃ a:Nat,x=a∧s.re a∧r=s.root a
def Z9f(CS:Addr):Sp:=fun vs H Q _=>∃ (A:SA)(n c N M:Nat)(s:MX.S)(q:List (Nat×Int))(x r:Int),vs=[.ref A.sr,.int x]∧Rep CS n H A c s q N M∧BaseIs s x r∧∀ H',Frm A H H'→Rep CS n H' A c s q N M→Q (.int r) H'
theorem scBase:Z2v ["self","atom"] ["self","atom"] (Z2r Z3P):=⟨rfl,rfl,rfl,by decide +kernel,rfl,by decide +kernel,by decide +kernel⟩
theorem okBase{f:Addr}{fd:FuncData}(F:Fun K "base_of" "Search.base_of" Z3P f fd)(T:TS7 K mg CS):FnOk P w K mg base CX0 1 f fd ["self","atom"] (Z9f CS):=by
 refine F.ok scBase (fun vs H Q E h=>?_) (fun cdv A' outer s' H vs Q E hr h=>?_)
 ·obtain⟨A,n,c,N,M,s,q,x,r,rfl,_⟩:=h
  rfl
 ·obtain⟨A,n,c,N,M,s,q,x,r,rfl,R,hx,k⟩:=h
  have hu:=hu_of hr
  refine⟨_,Z2o (Z5f PassesOwn.never (Z2G op_ne (Z4h hu (Z2u (pv 0) rfl) (pv 1) (fun _ _=>rfl)) (pv 1) (Z2D _))
    (Z2o (Z4u hu (Z2u (pv 0) rfl) (pv 1) (Z4h hu (Z2u (pv 0) rfl) (Z4h hu (Z2u (pv 0) rfl) (pv 1) (fun _ _=>rfl)) (fun _ _=>rfl)) rfl)
    (Z2s (Z2w (i:=1) scBase.nd rfl (Or.inl rfl) (Z4h hu (Z2u (pv 0) rfl) (pv 1) (fun _ _=>rfl))))))
   (Z2s (Z2y (pv 1))),?_⟩
  refine Z6b (fun σ H'=>∃ y:Int,σ=[some (.ref A.sr),some (.int y)]∧Frm A H H'∧Rep CS n H' A c s q N M∧BaseIs s y r) (fun σ _=>match σ with |[_,some (.int y)]=>s.rk y.toNat |_=>0) ⟨x,rfl,Frm.refl _ _,R,hx⟩ ?_ ?_
  ·rintro σ H1 ⟨y,rfl,fr,R1,hy⟩
   obtain⟨kvs,hb,B,hl⟩:=R1.bas
   have g:∀ z:Int,DGet H1 A.db (.int z) (valV kvs (.inl z)):=fun z=>DGet.k (k:=.inl z) hb
   rcases hy with⟨rfl,rfl⟩ |⟨a,rfl,ra,rfl⟩
   ·refine⟨_,rfl,A.sr,CS,A.dx,_,_,rfl,R1.obj,T.cl,T.nb,Z3E _ _,_,rfl,A.db,.int (-1),rfl,by rw [←B.mid];exact g _,_,rfl,rfl,_,rfl,ite2 (fun hc=>?_) (fun hc=>?_)⟩
    ·simp at hc
    ·exact⟨_,rfl,k H1 fr R1⟩
   ·obtain⟨y1,v1,r1,e1,i1,l1⟩:=B.at_ a ra
    refine⟨_,rfl,A.sr,CS,A.dx,_,_,rfl,R1.obj,T.cl,T.nb,Z3E _ _,_,rfl,A.db,.int y1,rfl,by rw [←v1];exact g _,_,rfl,rfl,_,rfl,ite2 (fun hc=>?_) (fun hc=>?_)⟩
    ·have hne:y1≠a:=fun z=>by simp [z]at hc
     obtain⟨y2,v2,r2,e2,i2,l2⟩:=B.at_ y1 r1
     have rk2:s.rk y2<s.rk a:=by
      by_cases z:y2=y1
      ·rw [z];exact l1 hne
      ·exact Z0Q (l2 z) (l1 hne)
     have n2:y2≠a:=fun z=>by rw [z]at rk2;exact Z0v _ rk2
     have ra1:s.root a≠a:=fun z=>hne (i1.mpr z)
     have B2:Bas s (putK kvs (.inl (a:Int)) (.int (y2:Int))):=B.put r2 (e2.trans e1) ⟨fun z=>absurd z n2,fun z=>absurd z ra1⟩ (fun _=>rk2) ra
     have l2':(putK kvs (.inl (a:Int)) (.int (y2:Int))).length≤M:=by rw [Z9a (by rw [v1];rfl)];exact hl
     have R2:=R1.setBas (s':=s) B2 l2' rfl rfl rfl rfl
     refine⟨_,rfl,A.sr,CS,A.dx,_,_,rfl,R1.obj,T.cl,T.nb,Z3E _ _,_,rfl,A.sr,CS,A.dx,_,_,rfl,R1.obj,T.cl,T.nb,Z3E _ _,_,rfl,A.db,.int y1,rfl,by rw [←v1];exact g _,A.db,.int y2,rfl,by rw [←v2];exact g _,
      _,rfl,A.sr,CS,A.dx,_,_,rfl,R1.obj,T.cl,T.nb,Z3E _ _,_,rfl,A.db,_,rfl,DPut.k (k:=.inl (a:Int)) hb (by rw [sizeLine_eq];have:=R1.mle;omega),?_⟩
     have g2:DGet (upd H1 A.db (.dK (putK kvs (.inl (a:Int)) (.int (y2:Int))))) A.db (.int (a:Int)) (some (.int (y2:Int))):=by
      have:=DGet.k (k:=.inl (a:Int)) (Z2n (H:=H1) (a:=A.db) (o:=.dK (putK kvs (.inl (a:Int)) (.int (y2:Int)))))
      rw [Z2M,if_pos rfl]at this
      exact this
     refine⟨_,rfl,A.sr,CS,A.dx,_,_,rfl,R2.obj,T.cl,T.nb,Z3E _ _,_,rfl,A.db,.int y2,rfl,g2,?_⟩
     refine⟨⟨y2,rfl,fr.upd (by simp),R2,.inr ⟨y2,rfl,r2,by rw [e2.trans e1]⟩⟩,?_⟩
     show s.rk ((y2:Int)).toNat<s.rk ((a:Int)).toNat
     simpa using rk2
    ·have he:y1=a:=by
      by_cases z:y1=a
      ·exact z
      ·exact absurd (show _=true by simp;omega) hc
     refine⟨_,rfl,?_⟩
     rw [i1.mp he]at k
     exact k H1 fr R1
  ·rintro σ H1 Q1 Q2 hq ⟨v,e,a,C,dx,fs,v',h1,h2,h3,h4,h5,v2,h6,d,v3,h7,h8,v4,h9,h10,b',h11,q'⟩
   exact⟨v,e,a,C,dx,fs,v',h1,h2,h3,h4,h5,v2,h6,d,v3,h7,h8,v4,h9,h10,b',h11,hq _ _ q'⟩
end
section
variable{P:Program}{w:World}{K:Z0a}{mg:Str→Option Value}{base:Heap}{CS:Addr}
def BefIs(s:MX.S)(z r:Int):Prop:=(z=-1∧r=-1)∨∃ a:Nat,z=a∧s.re a∧(∀ w,s.cf a=some w→s.re w)∧r=(match s.up a with |none=>(-1:Int) |some y=>(y:Int))
def spBef(CS:Addr):Sp:=fun vs H Q _=>∃ (A:SA)(n c N M:Nat)(s:MX.S)(q:List (Nat×Int))(x r:Int),vs=[.ref A.sr,.int x]∧Rep CS n H A c s q N M∧BefIs s x r∧∀ H',Frm A H H'→Rep CS n H' A c s q N M→Q (.int r) H'
theorem scBef:Z2v ["self","base"] ["self","base"] (Z2r Z3v):=⟨rfl,rfl,rfl,by decide +kernel,rfl,by decide +kernel,by decide +kernel⟩
theorem okBef{f fB:Addr}{fd fdB:FuncData}(F:Fun K "base_before" "Search.base_before" Z3v f fd)(T:TS7 K mg CS)(GB:FnOk P w K mg base CX0 1 fB fdB ["self","atom"] (Z9f CS))(mB:Meth K CS "base_of" fB)(bB:Binds K fdB ["self","atom"] []) :
  FnOk P w K mg base CX0 2 f fd ["self","base"] (spBef CS):=by
 refine F.ok scBef (fun vs H Q E h=>?_) (fun cdv A' outer s' H vs Q E hr h=>?_)
 ·obtain⟨A,n,c,N,M,s,q,x,r,rfl,_⟩:=h
  rfl
 ·obtain⟨A,n,c,N,M,s,q,x,r,rfl,R,hx,k⟩:=h
  have hu:=hu_of hr
  refine⟨_,Z2s (Z2y (pe_ifExp (Z2G op_eq (pv 1) (pe_gc rfl T.md) (Z2D _)) (pe_gc rfl T.md) (Z2A (pv 0) T.cl mB GB hr bB .nil pass0 (Z2l (Z4h hu (Z2u (pv 0) rfl) (pv 1) (fun _ _=>rfl)) Z2q)))),?_⟩
  refine⟨_,rfl,rfl,_,rfl,ite2 (fun hc=>?_) (fun hc=>?_)⟩
  ·have e:x=-1:=by simpa using hc
   have er:r=-1:=by
    rcases hx with⟨_,z⟩ |⟨a,z,_⟩
    ·exact z
    ·omega
   rw [er]at k
   exact k H (Frm.refl _ _) R
  ·have e:x≠-1:=fun z=>hc (by simp [z])
   rcases hx with⟨z,_⟩ |⟨a,rfl,ra,hw,er⟩
   ·exact absurd z e
   ·obtain⟨kvs,hb,hv,hl⟩:=R.cfr
    have g:DGet H A.cf (.int (a:Int)) (some (.int (MX.cfI s a))):=by rw [←hv a ra];exact DGet.k (k:=.inl (a:Int)) hb
    refine⟨_,rfl,A.sr,A.dx,_,rfl,R.obj,sf_no _ _ (by decide) (by decide) (by decide) (by decide) (by decide) (by decide) (by decide),_,rfl,A.sr,CS,A.dx,_,_,rfl,R.obj,T.cl,T.nf,Z6v _ _,_,rfl,A.cf,_,rfl,g,A,n,c,N,M,s,q,MX.cfI s a,r,rfl,R,?_,k⟩
    unfold MX.cfI
    unfold MX.S.up at er
    cases ec:s.cf a with
    |none=>rw [ec]at er;exact .inl ⟨rfl,er⟩
    |some w=>rw [ec]at er;exact .inr ⟨w,rfl,hw w ec,er⟩
def Z7H(CS:Addr):Sp:=fun vs H Q _=>∃ (A:SA)(n c N M:Nat)(s:MX.S)(q:List (Nat×Int))(x:Nat)(t:Int),vs=[.ref A.sr,.int (x:Int),.int t]∧Rep CS n H A c s q N M∧x<n∧(t=1∨t=-1) ∧
 ∀ H' q' N',Frm A H H'→Rep CS n H' A c (s.allow x t) q' N' M→(s.tn x t→q'=q)→(¬ s.tn x t→q'=q++[(x,t)]∧N'=N+1)→N≤N'→Q .non H'
theorem scAllow:Z2v ["self","atom","turn"] ["self","atom","turn"] (Z2r Z4k):=⟨rfl,rfl,rfl,by decide +kernel,rfl,by decide +kernel,by decide +kernel⟩
theorem Z8j{s:MX.S}{x:Nat}{t:Int}(h:s.tn x t):s.allow x t=s:=by
 unfold MX.S.allow
 have:(fun z u=>s.tn z u∨(z=x∧u=t))=s.tn:=by
  funext z u
  exact propext ⟨fun q=>q.elim id fun⟨a,b⟩=>by rw [a,b];exact h,.inl⟩
 rw [this]
theorem okAllow{f:Addr}{fd:FuncData}(F:Fun K "allow" "Search.allow" Z4k f fd)(T:TS7 K mg CS):FnOk P w K mg base CX0 1 f fd ["self","atom","turn"] (Z7H CS):=by
 refine F.ok scAllow (fun vs H Q E h=>?_) (fun cdv A' outer s' H vs Q E hr h=>?_)
 ·obtain⟨A,n,c,N,M,s,q,x,t,rfl,_⟩:=h
  rfl
 ·obtain⟨A,n,c,N,M,s,q,x,t,rfl,R,hx,ht,k⟩:=h
  have hu:=hu_of hr
  refine⟨_,Z2s (ps_if (Z7h (Z6z hu (Z4l (Z2l (pv 1) (Z2l (pv 2) Z2q))) (Z2u (pv 0) rfl)))
    (Z2o (Z4u hu (Z2u (pv 0) rfl) (Z4l (Z2l (pv 1) (Z2l (pv 2) Z2q))) pe_bl rfl)
    (Z2s (Z2K (pe_bm Z1e Z1A Z1B Z4E (Z2u (pv 0) rfl) (Z2l (Z4l (Z2l (pv 1) (Z2l (pv 2) Z2q))) Z2q))))) Z2L),?_⟩
  obtain⟨kvs,hb,hv,hl⟩:=R.trn
  refine⟨_,rfl,_,rfl,(by show 2≤sizeLine;decide),fun u1 hu1=>?_⟩
  have R1:=R.new (o:=.tup [.int (x:Int),.int t]) hu1
  have f1:Frm A H (upd H u1 (.tup [.int (x:Int),.int t])):=(Frm.refl _ _).new hu1
  have hb1:upd H u1 (.tup [.int (x:Int),.int t]) A.tn=some (.dT kvs):=by rw [Z2m (Z2p hb hu1)];exact hb
  refine⟨_,rfl,A.sr,CS,A.dx,_,_,rfl,R1.obj,T.cl,T.nt,Z6T _ _,A.tn,_,rfl,DGet.t (k:=[.inl (x:Int),.inl t]) hb1 Z2n,_,rfl,ite2 (fun hc=>?_) (fun hc=>?_)⟩
  ·have hs:(valV kvs [.inl (x:Int),.inl t])=none:=by
    cases z:valV kvs [.inl (x:Int),.inl t]with
    |none=>rfl
    |some v=>rw [z]at hc;cases hc
   have hold:¬ s.tn x t:=fun z=>by have:=(hv x t).mpr z;rw [hs]at this;cases this
   refine⟨_,rfl,A.sr,CS,A.dx,_,_,rfl,R1.obj,T.cl,T.nt,Z6T _ _,_,rfl,_,rfl,(by show 2≤sizeLine;decide),fun u2 hu2=>?_⟩
   have R2:=R1.new (o:=.tup [.int (x:Int),.int t]) hu2
   have f2:=f1.new (o:=.tup [.int (x:Int),.int t]) hu2
   have hb2:upd (upd H u1 (.tup [.int (x:Int),.int t])) u2 (.tup [.int (x:Int),.int t]) A.tn=some (.dT kvs):=by rw [Z2m (Z2p hb1 hu2)];exact hb1
   have sm:=R.small
   refine⟨A.tn,_,rfl,DPut.t (k:=[.inl (x:Int),.inl t]) hb2 Z2n (by rw [sizeLine_eq];omega),?_⟩
   generalize hH2:upd (upd H u1 (.tup [.int (x:Int),.int t])) u2 (.tup [.int (x:Int),.int t])=H2 at *
   obtain⟨ts,hq,hT⟩:=R2.wat
   have nd:=R.nd
   have nqt:A.wq≠A.tn:=fun z=>by rw [z,hb2]at hq;cases hq
   have nst:A.sr≠A.tn:=ne_of R2.obj hb2 (by intro z;cases z)
   have ho3:upd H2 A.tn (.dT (putK kvs [.inl (x:Int),.inl t] (.bl true))) A.sr=some (.ins CS A.dx (A.flds c)):=by rw [Z2m nst];exact R2.obj
   have hq3:upd H2 A.tn (.dT (putK kvs [.inl (x:Int),.inl t] (.bl true))) A.wq=some (.lst (ts.map V.ref)):=by rw [Z2m nqt];exact hq
   refine⟨_,rfl,A.sr,CS,A.dx,_,_,rfl,ho3,T.cl,T.nq,Z5R _ _,.inl ⟨rfl,_,SqL.of hq3⟩,_,rfl,_,rfl,(by show 2≤sizeLine;decide),fun u3 hu3=>?_⟩
   have hq4:upd (upd H2 A.tn (.dT (putK kvs [.inl (x:Int),.inl t] (.bl true)))) u3 (.tup [.int (x:Int),.int t]) A.wq=some (.lst (ts.map V.ref)):=by rw [Z2m (Z2p hq3 hu3)];exact hq3
   have hql:=R.qle
   have htl:ts.length=q.length:=by have:=hT.1;rw [Z0b]at this;exact this
   refine⟨A.wq,_,_,rfl,rfl,hq4,(by rw [Z0b,sizeLine_eq];omega),?_⟩
   have nu:∀ {b:Addr}{o:HO},upd H2 A.tn (.dT (putK kvs [.inl (x:Int),.inl t] (.bl true))) b=some o→b≠u3:=fun e=>Z2p e hu3
   have keep:∀ {b:Addr}{o:HO},H2 b=some o→b≠A.tn→b≠A.wq→upd (upd (upd H2 A.tn (.dT (putK kvs [.inl (x:Int),.inl t] (.bl true)))) u3 (.tup [.int (x:Int),.int t])) A.wq (.lst (ts.map V.ref++[.ref u3])) b=some o:=fun{b o} e n1 n2=>by
    have e1:upd H2 A.tn (.dT (putK kvs [.inl (x:Int),.inl t] (.bl true))) b=some o:=by rw [Z2m n1];exact e
    rw [Z2m n2,Z2m (nu e1)];exact e1
   have keepT:∀ b xs,H2 b=some (.tup xs)→upd (upd (upd H2 A.tn (.dT (putK kvs [.inl (x:Int),.inl t] (.bl true)))) u3 (.tup [.int (x:Int),.int t])) A.wq (.lst (ts.map V.ref++[.ref u3])) b=some (.tup xs):=fun b xs e =>
    keep e (ne_of e hb2 (by intro z;cases z)) (ne_of e hq (by intro z;cases z))
   have tnu3:A.tn≠u3:=nu Z2n
   refine k _ (q++[(x,t)]) (N+1) ?_ ?_ (fun z=>absurd z hold) (fun _=>⟨rfl,rfl⟩) (Nat.le_succ _)
   ·exact((f2.upd (by simp)).new hu3).upd (by simp)
   ·obtain⟨k1,a1,b1,l1⟩:=R2.bas
    obtain⟨k2,a2,b2,l2⟩:=R2.cby
    obtain⟨k3,a3,b3,l3⟩:=R2.cfr
    simp only [Z0N,Z0e,Z0y,or_false,not_or]at nd
    obtain⟨⟨n1,n2,n3,n4⟩,⟨n5,n6,n7⟩,⟨n8,n9⟩,_⟩:=nd
    refine⟨keep R2.obj nst (ne_of R2.obj hq (by intro z;cases z)),⟨k1,keep a1 n3 n4,⟨b1.mid,b1.at_,b1.no⟩,l1⟩,⟨k2,keep a2 n6 n7,b2,l2⟩,⟨k3,keep a3 n8 n9,b3,l3⟩,⟨putK kvs [.inl (x:Int),.inl t] (.bl true),?_,fun z u=>?_,?_⟩,⟨ts++[u3],?_,?_⟩,?_,?_,R.mle,R.nn,R.nd⟩
    ·rw [Z2m (Ne.symm nqt),Z2m tnu3,Z2n]
    ·rw [Z2M]
     by_cases e:(([.inl (z:Int),.inl u]:List Key)=[.inl (x:Int),.inl t])
     ·rw [if_pos e]
      injection e with e1 e2
      injection e2 with e2 _
      have e1:=Sum.inl.inj e1
      have e2:=Sum.inl.inj e2
      refine⟨fun _=>.inr ⟨by omega,e2⟩,fun _=>rfl⟩
     ·rw [if_neg e,hv z u]
      refine⟨.inl,fun h=>h.elim id fun⟨h1,h2⟩=>absurd (by rw [h1,h2]) e⟩
    ·have:=Z2R kvs [.inl (x:Int),.inl t] (.bl true)
     omega
    ·rw [Z2n,Z0z];rfl
    ·rw [Z0z]
     refine Tups.snoc (hT.same keepT) ?_
     rw [Z2m (fun z=>by rw [z]at hu3;rw [hu3]at hq3;cases hq3),Z2n]
     rfl
    ·rw [Z0x];show q.length+1≤N+1;omega
    ·have:=R.bud
     have:=MX.ZaE hx ht hold
     omega
  ·have hold:s.tn x t:=by
    refine(hv x t).mp ?_
    cases z:valV kvs [.inl (x:Int),.inl t]with
    |none=>rw [z]at hc;exact absurd rfl hc
    |some v=>rfl
   refine k _ q N f1 ?_ (fun _=>rfl) (fun z=>absurd hold z) (Z0d _)
   rw [Z8j hold]
   exact R1
end
def Ext(s:MX.S)(q:List (Nat×Int))(s':MX.S)(q':List (Nat×Int)):Prop:=∃ r,q'=q++r∧(∀ x t,s'.tn x t↔s.tn x t∨(x,t)∈r)∧(∀ p∈r,¬ s.tn p.1 p.2)∧r.Nodup
theorem Ext.refl(s:MX.S)(q:List (Nat×Int)):Ext s q s q:=⟨[],by simp,fun x t=>by simp,fun p hp=>by simp at hp,Z1N⟩
theorem Ext.trans{s s1 s2:MX.S}{q q1 q2:List (Nat×Int)}(a:Ext s q s1 q1)(b:Ext s1 q1 s2 q2):Ext s q s2 q2:=by
 obtain⟨r,rfl,h,n1,d1⟩:=a
 obtain⟨r',rfl,h',n2,d2⟩:=b
 refine⟨r++r',by simp,fun x t=>?_,fun p hp=>?_,?_⟩
 ·rw [h',h,Z0m,or_assoc]
 ·rcases Z0m.mp hp with hp |hp
  ·exact n1 p hp
  ·exact fun z=>n2 p hp ((h p.1 p.2).mpr (.inl z))
 ·exact Z1p.mpr ⟨d1,d2,fun a ha b hb z=>n2 b hb ((h b.1 b.2).mpr (.inr (by rw [←z];exact ha)))⟩
theorem Ext.tn{s s1 s2:MX.S}{q q1:List (Nat×Int)}(a:Ext s q s1 q1)(h:s2.tn=s1.tn):Ext s q s2 q1:=by
 obtain⟨r,e,k,n,d⟩:=a
 exact⟨r,e,fun x t=>by rw [h];exact k x t,n,d⟩
theorem Ext.allow{s:MX.S}{q q':List (Nat×Int)}{x N N':Nat}{t:Int}(h1:s.tn x t→q'=q)(h2:¬ s.tn x t→q'=q++[(x,t)]∧N'=N+1):Ext s q (s.allow x t) q':=by
 by_cases h:s.tn x t
 ·rw [h1 h,Z8j h];exact Ext.refl _ _
 ·refine⟨[(x,t)],(h2 h).1,fun z u=>?_,fun p hp=>by rw [Z0l.mp hp];exact h,by simp⟩
  show s.tn z u∨(z=x∧u=t)↔_
  simp
theorem Rep.congr{CS n:Nat}{H:Hp}{A:SA}{c:Nat}{s s':MX.S}{q:List (Nat×Int)}{N M:Nat}(r:Rep CS n H A c s q N M)(e1:s'.re=s.re)(e2:s'.root=s.root)(e3:s'.rk=s.rk)(e4:s'.cb=s.cb)(e5:s'.cf=s.cf)(e6:s'.tn=s.tn) :
  Rep CS n H A c s' q N M:=by
 obtain⟨k1,a1,b1,l1⟩:=r.bas
 obtain⟨k2,a2,b2,l2⟩:=r.cby
 obtain⟨k3,a3,b3,l3⟩:=r.cfr
 obtain⟨k4,a4,b4,l4⟩:=r.trn
 refine⟨r.obj,⟨k1,a1,⟨b1.mid,fun x hx=>?_,fun x hx=>?_⟩,l1⟩,⟨k2,a2,fun x hx=>?_,l2⟩,⟨k3,a3,fun x hx=>?_,l3⟩,⟨k4,a4,fun x t=>?_,l4⟩,r.wat,r.qle,?_,r.mle,r.nn,r.nd⟩
 ·rw [e1]at hx ⊢;rw [e2,e3];exact b1.at_ x hx
 ·rw [e1]at hx;exact b1.no x hx
 ·rw [e1]at hx;rw [e4];exact b2 x hx
 ·rw [e1]at hx;unfold MX.cfI;rw [e5];exact b3 x hx
 ·rw [e6];exact b4 x t
 ·have:=r.bud;unfold MX.miss at this ⊢;rw [e6];exact this
section
variable{P:Program}{w:World}{K:Z0a}{mg:Str→Option Value}{base:Heap}{CS:Addr}
theorem sno{A:SA}{c:Nat}{m:Str}(h0:(m=="ways")=false:=by decide)(h1:(m=="cut")=false:=by decide)(h2:(m=="bases")=false:=by decide)(h3:(m=="came_by")=false:=by decide)(h4:(m=="came_from")=false:=by decide)
  (h5:(m=="turns")=false:=by decide)(h6:(m=="waiting")=false:=by decide):(A.flds c).lookup m=none:=sf_no A c h0 h1 h2 h3 h4 h5 h6
def Z9q(CS:Addr):Sp:=fun vs H Q _=>∃ (A:SA)(n c N M:Nat)(s:MX.S)(q:List (Nat×Int))(x:Nat),vs=[.ref A.sr,.int (x:Int)]∧Rep CS n H A c s q N M∧x<n ∧
 ∀ H' q' N',Frm A H H'→Rep CS n H' A c ((s.allow x 1).allow x (-1)) q' N' M→Ext s q ((s.allow x 1).allow x (-1)) q'→N≤N'→Q .non H'
theorem scBoth:Z2v ["self","atom"] ["self","atom"] (Z2r Z3D):=⟨rfl,rfl,rfl,by decide +kernel,rfl,by decide +kernel,by decide +kernel⟩
theorem okBoth{f fA:Addr}{fd fdA:FuncData}(F:Fun K "allow_both" "Search.allow_both" Z3D f fd)(T:TS7 K mg CS)(GA:FnOk P w K mg base CX0 1 fA fdA ["self","atom","turn"] (Z7H CS))(mA:Meth K CS "allow" fA)(bA:Binds K fdA ["self","atom","turn"] []) :
  FnOk P w K mg base CX0 2 f fd ["self","atom"] (Z9q CS):=by
 refine F.ok scBoth (fun vs H Q E h=>?_) (fun cdv A' outer s' H vs Q E hr h=>?_)
 ·obtain⟨A,n,c,N,M,s,q,x,rfl,_⟩:=h
  rfl
 ·obtain⟨A,n,c,N,M,s,q,x,rfl,R,hx,k⟩:=h
  refine⟨_,Z2o (Z2K (Z2A (pv 0) T.cl mA GA hr bA .nil pass0 (Z2l (pv 1) (Z2l (pe_gc rfl T.up) Z2q)))) (Z2s (Z2K (Z2A (pv 0) T.cl mA GA hr bA .nil pass0 (Z2l (pv 1) (Z2l (pe_gc rfl T.dn) Z2q))))),?_⟩
  refine⟨_,rfl,A.sr,A.dx,_,rfl,R.obj,sno,_,rfl,A,n,c,N,M,s,q,x,1,rfl,R,hx,.inl rfl,fun H1 q1 N1 f1 R1 a1 b1 c1=>?_⟩
  refine⟨_,rfl,A.sr,A.dx,_,rfl,R1.obj,sno,_,rfl,A,n,c,N1,M,_,q1,x,-1,rfl,R1,hx,.inr rfl,fun H2 q2 N2 f2 R2 a2 b2 c2=>?_⟩
  exact k H2 q2 N2 (f1.trans f2) R2 ((Ext.allow a1 b1).trans (Ext.allow a2 b2)) (Z0A c1 c2)
def put(s:MX.S)(y e:Nat)(cfo:Option Nat)(u:Int):MX.S where
 re:=fun z=>s.re z∨z=y
 root:=fun z=>if z=y then y else s.root z
 rk:=fun z=>if z=y then s.nx else s.rk z
 nx:=s.nx+1
 cb:=fun z=>if z=y then e else s.cb z
 cf:=fun z=>if z=y then cfo else s.cf z
 ar:=fun z=>if z=y then -u else s.ar z
 tn:=fun z v=>s.tn z v∨(z=y∧v=u)
 dn:=s.dn
def Z7W(CS:Addr):Sp:=fun vs H Q _=>∃ (A:SA)(n c N M:Nat)(s:MX.S)(q:List (Nat×Int))(y e:Nat)(b u:Int)(cfo:Option Nat),vs=[.ref A.sr,.int (y:Int),.int b,.int (e:Int),.int u]∧Rep CS n H A c s q N M∧M≤390∧y<n∧¬ s.re y ∧
 (∀ x v,s.tn x v→s.re x)∧(∀ x,s.re x→s.re (s.root x))∧(u=1∨u=-1)∧b=(match cfo with |none=>(-1:Int) |some x=>(x:Int)) ∧
 ∀ H' q' N',Frm A H H'→Rep CS n H' A c (put s y e cfo u) q' N' (M+1)→N'=N+1→Ext s q (put s y e cfo u) q'→Q .non H'
theorem scReach:Z2v ["self","atom","before","bond","turn"] ["self","atom","before","bond","turn"] (Z2r Z4p):=⟨rfl,rfl,rfl,by decide +kernel,rfl,by decide +kernel,by decide +kernel⟩
theorem okReach{f fA:Addr}{fd fdA:FuncData}(F:Fun K "reach" "Search.reach" Z4p f fd)(T:TS7 K mg CS)(GA:FnOk P w K mg base CX0 1 fA fdA ["self","atom","turn"] (Z7H CS))(mA:Meth K CS "allow" fA)(bA:Binds K fdA ["self","atom","turn"] []) :
  FnOk P w K mg base CX0 2 f fd ["self","atom","before","bond","turn"] (Z7W CS):=by
 refine F.ok scReach (fun vs H Q E h=>?_) (fun cdv A' outer s' H vs Q E hr h=>?_)
 ·obtain⟨A,n,c,N,M,s,q,y,e,b,u,cfo,rfl,_⟩:=h
  rfl
 ·obtain⟨A,n,c,N,M,s,q,y,e,b,u,cfo,rfl,R,hM,hy,hre,htn,hroot,hu1,hb,k⟩:=h
  have hu:=hu_of hr
  refine⟨_,Z2o (Z4u hu (Z2u (pv 0) rfl) (pv 1) (pv 1) rfl)
   (Z2o (Z4u hu (Z2u (pv 0) rfl) (pv 1) (pv 3) rfl)
   (Z2o (Z4u hu (Z2u (pv 0) rfl) (pv 1) (pv 2) rfl)
   (Z2s (Z2K (Z2A (pv 0) T.cl mA GA hr bA .nil pass0 (Z2l (pv 1) (Z2l (pv 4) Z2q))))))),?_⟩
  obtain⟨k1,a1,b1,l1⟩:=R.bas
  obtain⟨k2,a2,b2,l2⟩:=R.cby
  obtain⟨k3,a3,b3,l3⟩:=R.cfr
  obtain⟨k4,a4,b4,l4⟩:=R.trn
  obtain⟨ts,a5,b5⟩:=R.wat
  have nd:=R.nd
  simp only [Z0N,Z0e,Z0y,or_false,not_or]at nd
  obtain⟨⟨n1,n2,n3,n4⟩,⟨n5,n6,n7⟩,⟨n8,n9⟩,n10,_⟩:=nd
  have o1:=ne_of R.obj a1 (by intro z;cases z)
  have o2:=ne_of R.obj a2 (by intro z;cases z)
  have o3:=ne_of R.obj a3 (by intro z;cases z)
  have ney:∀ {z},s.re z→z≠y:=fun h q=>hre (q ▸ h)
  refine⟨_,rfl,_,rfl,A.sr,CS,A.dx,_,_,rfl,R.obj,T.cl,T.nb,Z3E _ _,_,rfl,A.db,_,rfl,DPut.k (k:=.inl (y:Int)) a1 (by rw [sizeLine_eq];omega),?_⟩
  have h1o:upd H A.db (.dK (putK k1 (.inl (y:Int)) (.int (y:Int)))) A.sr=some (.ins CS A.dx (A.flds c)):=by rw [Z2m o1];exact R.obj
  have h1c:upd H A.db (.dK (putK k1 (.inl (y:Int)) (.int (y:Int)))) A.cb=some (.dK k2):=by rw [Z2m (Ne.symm n1)];exact a2
  refine⟨_,rfl,_,rfl,A.sr,CS,A.dx,_,_,rfl,h1o,T.cl,T.ny,Z7G _ _,_,rfl,A.cb,_,rfl,DPut.k (k:=.inl (y:Int)) h1c (by rw [sizeLine_eq];omega),?_⟩
  have h2o:upd (upd H A.db (.dK (putK k1 (.inl (y:Int)) (.int (y:Int))))) A.cb (.dK (putK k2 (.inl (y:Int)) (.int (e:Int)))) A.sr=some (.ins CS A.dx (A.flds c)):=by rw [Z2m o2];exact h1o
  have h2c:upd (upd H A.db (.dK (putK k1 (.inl (y:Int)) (.int (y:Int))))) A.cb (.dK (putK k2 (.inl (y:Int)) (.int (e:Int)))) A.cf=some (.dK k3):=by rw [Z2m (Ne.symm n5),Z2m (Ne.symm n2)];exact a3
  refine⟨_,rfl,_,rfl,A.sr,CS,A.dx,_,_,rfl,h2o,T.cl,T.nf,Z6v _ _,_,rfl,A.cf,_,rfl,DPut.k (k:=.inl (y:Int)) h2c (by rw [sizeLine_eq];omega),?_⟩
  generalize hH3:upd (upd (upd H A.db (.dK (putK k1 (.inl (y:Int)) (.int (y:Int))))) A.cb (.dK (putK k2 (.inl (y:Int)) (.int (e:Int))))) A.cf (.dK (putK k3 (.inl (y:Int)) (.int b)))=H3
  have keep:∀ {a:Addr}{o:HO},H a=some o→a≠A.db→a≠A.cb→a≠A.cf→H3 a=some o:=fun{a o} e' m1 m2 m3=>by rw [←hH3,Z2m m3,Z2m m2,Z2m m1];exact e'
  have fr:Frm A H H3:=by rw [←hH3];exact(((Frm.refl A H).upd (by simp)).upd (by simp)).upd (by simp)
  have R3:Rep CS n H3 A c { put s y e cfo u with tn:=s.tn } q N (M+1):=by
   refine⟨keep R.obj o1 o2 o3,⟨putK k1 (.inl (y:Int)) (.int (y:Int)),?_,⟨?_,fun x hx=>?_,fun x hx=>?_⟩,?_⟩,⟨putK k2 (.inl (y:Int)) (.int (e:Int)),?_,fun x hx=>?_,?_⟩,⟨putK k3 (.inl (y:Int)) (.int b),?_,fun x hx=>?_,?_⟩,⟨k4,keep a4 (Ne.symm n3) (Ne.symm n6) (Ne.symm n8),b4,l4⟩,
    ⟨ts,keep a5 (Ne.symm n4) (Ne.symm n7) (Ne.symm n9),b5.same fun d xs z=>keep z (ne_of z a1 (by intro z;cases z)) (ne_of z a2 (by intro z;cases z)) (ne_of z a3 (by intro z;cases z))⟩,R.qle,R.bud,by omega,R.nn,R.nd⟩
   ·rw [←hH3,Z2m n2,Z2m n1,Z2n]
   ·rw [Z2M,if_neg (by rw [Z3k];omega)];exact b1.mid
   ·by_cases z:x=y
    ·subst z
     refine⟨x,by rw [Z2M,if_pos rfl],.inr rfl,rfl,⟨fun _=>if_pos rfl,fun _=>rfl⟩,fun z=>absurd rfl z⟩
    ·have rx:s.re x:=hx.elim id fun z'=>absurd z' z
     obtain⟨y1,v1,r1,e1,i1,lt1⟩:=b1.at_ x rx
     refine⟨y1,by rw [Z2M,if_neg (by rw [Z3k];omega)];exact v1,.inl r1,?_,?_,?_⟩
     ·show(if y1=y then y else s.root y1)=if x=y then y else s.root x
      rw [if_neg (ney r1),if_neg z];exact e1
     ·show y1=x↔(if x=y then y else s.root x)=x
      rw [if_neg z];exact i1
     ·intro h'
      show(if y1=y then s.nx else s.rk y1)<if x=y then s.nx else s.rk x
      rw [if_neg (ney r1),if_neg z];exact lt1 h'
   ·have nx:x≠y:=fun z=>hx (.inr z)
    rw [Z2M,if_neg (by rw [Z3k];omega)]
    exact b1.no x fun z=>hx (.inl z)
   ·have:=Z2R k1 (.inl (y:Int)) (.int (y:Int));omega
   ·rw [←hH3,Z2m n5,Z2n]
   ·show _=some (V.int ((if x=y then e else s.cb x:Nat):Int))
    by_cases z:x=y
    ·rw [if_pos z,z,Z2M,if_pos rfl]
    ·rw [if_neg z,Z2M,if_neg (by rw [Z3k];omega)]
     exact b2 x (hx.elim id fun z'=>absurd z' z)
   ·have:=Z2R k2 (.inl (y:Int)) (.int (e:Int));omega
   ·rw [←hH3,Z2n]
   ·by_cases z:x=y
    ·rw [z,Z2M,if_pos rfl]
     unfold MX.cfI
     show _=some (V.int (match (if y=y then cfo else s.cf y)with |none=>-1 |some w=>(w:Int)))
     rw [if_pos rfl,hb]
    ·rw [Z2M,if_neg (by rw [Z3k];omega)]
     have:=b3 x (hx.elim id fun z'=>absurd z' z)
     unfold MX.cfI at this ⊢
     show _=some (V.int (match (if x=y then cfo else s.cf x)with |none=>-1 |some w=>(w:Int)))
     rw [if_neg z];exact this
   ·have:=Z2R k3 (.inl (y:Int)) (.int b);omega
  have hn:¬ s.tn y u:=fun z=>hre (htn y u z)
  refine⟨_,rfl,A.sr,A.dx,_,rfl,R3.obj,sno,_,rfl,_,rfl,A,n,c,N,M+1,_,q,y,u,rfl,R3,hy,hu1,fun H4 q4 N4 f4 R4 _ hq4 _=>?_⟩
  obtain⟨hq5,hN4⟩:=hq4 hn
  refine k H4 q4 N4 (fr.trans f4) (R4.congr rfl rfl rfl rfl rfl rfl) hN4 ⟨[(y,u)],hq5,fun z v=>?_,fun p hp=>by rw [Z0l.mp hp];exact hn,by simp⟩
  show s.tn z v∨(z=y∧v=u)↔_
  simp
end
end BK
end
section
namespace MX
theorem ZaI{up:Nat→Option Nat}:∀ {C:List Nat}{b z z':Nat},Path up b C (some z)→up z=some z'→(∀ w∈C++[z],w≠z')→Path up b (C++[z]) (some z')
 |[],b,z,z',h,hu,hn=>by
  have e:b=z:=by cases h with |nil=>rfl
  subst e
  exact .step b z' [] _ hu (fun q=>hn b (by simp) (Option.some.inj q)) (.nil _)
 |y::C,b,z,z',h,hu,hn=>by
  cases h with
  |step _ x _ _ hx hne hp=>exact .step _ x _ _ hx (fun q=>hn _ (by simp) (Option.some.inj q)) (ZaI hp hu fun w hw=>hn w (by rw [List.cons_append];exact Z0g _ hw))
theorem ZaK{up:Nat→Option Nat}:∀ {C:List Nat}{b z:Nat},Path up b C (some z)→up z=none→Path up b (C++[z]) none
 |[],b,z,h,hu=>by
  have e:b=z:=by cases h with |nil=>rfl
  subst e
  exact .top b hu
 |y::C,b,z,h,hu=>by
  cases h with
  |step _ x _ _ hx hne hp=>exact .step _ x _ _ hx (fun q=>by cases q) (ZaK hp hu)
end MX
namespace BK
open PySem PySem.Spec PyProof.Rows L2 EX RD LM
def pI:Option Nat→Int
 |none=>-1
 |some z=>z
theorem ZbC{p:Option Nat}:pI p=-1↔p=none:=by
 cases p with
 |none=>exact⟨fun _=>rfl,fun _=>rfl⟩
 |some z=>refine⟨fun h=>?_,fun h=>by cases h⟩;have h:(z:Int)=-1:=h;omega
def vis(C:List Nat)(p:Option Nat):List Nat:=C++p.toList
def Meet(s:MX.S)(b o:Nat)(r:Int)(C D:List Nat):Prop:=(∀ z,z∈C→z∉D)∧((r=-1∧MX.Path s.up b C none∧MX.Path s.up o D none)∨∃ m:Nat,r=m∧MX.Path s.up b C (some m)∧MX.Path s.up o D (some m))
theorem Meet.symm{s:MX.S}{b o:Nat}{r:Int}{C D:List Nat}(h:Meet s b o r C D):Meet s o b r D C :=
 ⟨fun z a b=>h.1 z b a,h.2.elim (fun⟨a,b,c⟩=>.inl ⟨a,c,b⟩) fun⟨m,a,b,c⟩=>.inr ⟨m,a,c,b⟩⟩
section
variable{P:Program}{w:World}{K:Z0a}{mg:Str→Option Value}{base:Heap}{CS:Addr}
def spMeet(CS:Addr):Sp:=fun vs H Q _=>∃ (A:SA)(n c N M:Nat)(s:MX.S)(q:List (Nat×Int))(G:MX.Gr)(T:Int)(b o:Nat),vs=[.ref A.sr,.int (b:Int),.int (o:Int)]∧Rep CS n H A c s q N M∧s.Ok G c T∧s.nx≤400 ∧
 s.re b∧s.root b=b∧s.re o∧s.root o=o∧b≠o∧∀ H' r C D,Frm A H H'→Rep CS n H' A c s q N M→Meet s b o r C D→Q (.int r) H'
theorem scMeet:Z2v ["self","base","other","passed","before"] ["self","base","other"] (Z2r Z3G):=⟨rfl,rfl,rfl,by decide +kernel,rfl,by decide +kernel,by decide +kernel⟩
def phi(s:MX.S)(x:Int):Nat:=if x=-1 then 0 else s.rk x.toNat+1
theorem Z5P(s:MX.S)(z:Nat):phi s (pI (some z))=s.rk z+1:=by
 unfold phi
 rw [if_neg (fun h=>by have:=ZbC.mp h;cases this)]
 rfl
theorem phi_none(s:MX.S):phi s (pI none)=0:=rfl
theorem Z9t{p:Option Nat}(h:(!decide (V.int (pI p)=V.int (-1)))=true):p≠none:=fun z=>by rw [z]at h;simp [pI]at h
def mea(s:MX.S)(x y:Int):Nat:=2*(phi s x+phi s y)+if x=-1 then 1 else 0
theorem okMeet{f fB:Addr}{fd fdB:FuncData}(F:Fun K "meeting_of" "Search.meeting_of" Z3G f fd)(T:TS7 K mg CS)(GB:FnOk P w K mg base CX0 2 fB fdB ["self","base"] (spBef CS))(mB:Meth K CS "base_before" fB)(bB:Binds K fdB ["self","base"] []) :
  FnOk P w K mg base CX0 3 f fd ["self","base","other"] (spMeet CS):=by
 refine F.ok scMeet (fun vs H Q E h=>?_) (fun cdv A' outer s' H vs Q E hr h=>?_)
 ·obtain⟨A,n,c,N,M,s,q,G,T',b,o,rfl,_⟩:=h
  rfl
 ·obtain⟨A,n,c,N,M,s,q,G,T',b,o,rfl,R,ok,hnx,rb,bb,ro,oo,hbo,k⟩:=h
  have hu:=hu_of hr
  refine⟨_,Z2o (Z2w (i:=3) scMeet.nd rfl (Or.inl rfl) (Z7Y (Z5i (pv 1) pe_bl (Z5i (pv 2) pe_bl Z7R)) rfl rfl (by decide) (by decide)))
   (Z2o (Z5f PassesOwn.never (PW.pt (pw_or (Z2G op_ne (pv 1) (pe_gc rfl T.md) (Z2D _)) (Z7k (Z2G op_ne (pv 2) (pe_gc rfl T.md) (Z2D _)))))
     (Z2o (Z2w (i:=4) scMeet.nd rfl (Or.inl rfl) (Z2A (pv 0) T.cl mB GB hr bB .nil pass0 (Z2l (pv 1) Z2q)))
     (Z2o (ps_if (PW.pt (Z6w (Z2G op_ne (pv 4) (pe_gc rfl T.md) (Z2D _)) (Z6D (Z7h (pc_din hu (pv 4) (pv 3)))))) (Z2s (Z2y (pv 4))) Z2L)
     (Z2o (Z4u hu (pv 3) (pv 4) pe_bl rfl)
     (Z2o (Z2w (i:=1) scMeet.nd rfl (Or.inl rfl) (pv 2))
     (Z2s (Z2w (i:=2) scMeet.nd rfl (Or.inl rfl) (pv 4))))))))
   (Z2s (Z2y (pe_gc rfl T.md)))),?_⟩
  intro pd hpd
  refine⟨_,rfl,_,rfl,Z2n,[(.inl (b:Int),.bl true),(.inl (o:Int),.bl true)],rfl,(by show 2≤15;decide),?_⟩
  rw [Z3a]
  have hmk:Z5E [] [((.inl (b:Int):Key),V.bl true),(.inl (o:Int),.bl true)]=putK (putK [] (Sum.inl (b:Int):Key) (.bl true)) (Sum.inl (o:Int):Key) (.bl true):=rfl
  rw [hmk]
  generalize hk0:putK (putK [] (Sum.inl (b:Int):Key) (V.bl true)) (Sum.inl (o:Int):Key) (V.bl true)=kv0
  have key0:∀ z:Nat,(valV kv0 (.inl (z:Int))).isSome=true↔z∈vis [] (some b)∨z∈vis [] (some o):=fun z=>by
   rw [←hk0,Z2M,Z2M,valV_nil]
   simp only [vis,Option.toList,Z1P,Z0l,Z3k]
   by_cases z1:(z:Int)=(o:Int)
   ·rw [if_pos z1];exact⟨fun _=>.inr (by omega),fun _=>rfl⟩
   ·rw [if_neg z1]
    by_cases z2:(z:Int)=(b:Int)
    ·rw [if_pos z2];exact⟨fun _=>.inl (by omega),fun _=>rfl⟩
    ·rw [if_neg z2];exact⟨fun h=>absurd h (by simp),fun h=>by omega⟩
  have len0:kv0.length≤2:=by
   have a:=Z2R (putK ([]:List (Key×V)) (.inl (b:Int)) (.bl true)) (.inl (o:Int)) (.bl true)
   have b':=Z2R ([]:List (Key×V)) (.inl (b:Int)) (.bl true)
   simp only [Z0U]at b'
   rw [←hk0];omega
  have pdm:∀ {H':Hp}{kv:List (Key×V)},H' pd=some (.dK kv)→pd∉A.mut:=fun{H' kv} _ hm=>by
   simp only [Z0e,Z0y,or_false]at hm
   obtain⟨_,a1,_⟩:=R.bas
   obtain⟨_,a2,_⟩:=R.cby
   obtain⟨_,a3,_⟩:=R.cfr
   obtain⟨_,a4,_⟩:=R.trn
   obtain⟨_,a5,_⟩:=R.wat
   rcases hm with h |h |h |h |h<;>rw [h]at hpd
   ·rw [a1]at hpd;cases hpd
   ·rw [a2]at hpd;cases hpd
   ·rw [a3]at hpd;cases hpd
   ·rw [a4]at hpd;cases hpd
   ·rw [a5]at hpd;cases hpd
  have rkb:∀ {x:Nat},s.re x→s.rk x<400:=fun h=>Z0w (ok.rkn _ h) hnx
  refine Z6b (fun σ H'=>∃ (b0 o0:Nat)(C D:List Nat)(p p':Option Nat)(kv:List (Key×V))(v:Option V),σ=[some (.ref A.sr),some (.int (pI p)),some (.int (pI p')),some (.ref pd),v]∧((b0=b∧o0=o)∨(b0=o∧o0=b)) ∧
    Frm A H H'∧Rep CS n H' A c s q N M∧H' pd=some (.dK kv)∧(∀ z:Nat,(valV kv (.inl (z:Int))).isSome=true↔z∈vis C p∨z∈vis D p')∧MX.Path s.up b0 C p∧MX.Path s.up o0 D p'∧(∀ z,z∈vis C p→z∉vis D p') ∧
    kv.length+mea s (pI p) (pI p')≤2000)
   (fun σ _=>match σ with |[_,some (.int x),some (.int y),_,_]=>mea s x y |_=>0)
   ⟨b,o,[],[],some b,some o,kv0,none,rfl,.inl ⟨rfl,rfl⟩,(Frm.refl _ _).new hpd,R.new hpd,Z2n,key0,.nil _,.nil _,fun z h1 h2=>?_,?_⟩ ?_ ?_
  ·simp only [vis,Option.toList,Z1P,Z0l]at h1 h2
   omega
  ·have a:=rkb rb
   have b':=rkb ro
   unfold mea
   rw [Z5P,Z5P,if_neg (fun z=>by have:=ZbC.mp z;cases this)]
   omega
  ·rintro σ H1 ⟨b0,o0,C,D,p,p',kv,v,rfl,hsw,fr,R1,hk,key,pC,pD,dis,hlen⟩
   have base0:s.re b0∧s.root b0=b0∧s.re o0∧s.root o0=o0:=by
    rcases hsw with⟨rfl,rfl⟩ |⟨rfl,rfl⟩
    ·exact⟨rb,bb,ro,oo⟩
    ·exact⟨ro,oo,rb,bb⟩
   refine⟨_,rfl,rfl,_,rfl,ite2 (fun hc=>?_) (fun hc=>⟨_,rfl,rfl,_,rfl,ite2 (fun hc2=>?_) (fun hc2=>?_)⟩)⟩
   rotate_left 2
   ·
    have e1:p=none:=ZbC.mp (by simpa using hc)
    have e2:p'=none:=ZbC.mp (by simpa using hc2)
    subst e1 e2
    have hm:Meet s b0 o0 (-1) C D:=⟨fun z h1 h2=>dis z (by simpa [vis]using h1) (by simpa [vis]using h2),.inl ⟨rfl,pC,pD⟩⟩
    rcases hsw with⟨rfl,rfl⟩ |⟨rfl,rfl⟩
    ·exact k H1 (-1) C D fr R1 hm
    ·exact k H1 (-1) D C fr R1 hm.symm
   all_goals
    have hne:p≠none∨p'≠none:=by
     first
     |exact .inl (Z9t hc)
     |exact .inr (Z9t hc2)
    have hb:∃ p2:Option Nat,BefIs s (pI p) (pI p2)∧(p=none→p2=none)∧∀ z,p=some z→s.up z=p2∧s.re z∧s.root z=z:=by
     cases hp:p with
     |none=>exact⟨none,.inl ⟨rfl,rfl⟩,fun _=>rfl,fun z h=>by cases h⟩
     |some z =>
      rw [hp]at pC
      obtain⟨_,a2⟩:=MX.Z6G ok pC base0.1 base0.2.1
      obtain⟨c1,c2,_⟩:=a2 z rfl
      refine⟨s.up z,.inr ⟨z,rfl,c1,fun w hw=>(ok.tree z w c1 hw).1,?_⟩,fun h=>(by cases h),fun z' h=>by cases h;exact⟨rfl,c1,c2⟩⟩
      cases s.up z<;>rfl
    obtain⟨p2,hbef,hp2n,hp2s⟩:=hb
    refine⟨_,rfl,A.sr,A.dx,_,rfl,R1.obj,sno,_,rfl,A,n,c,N,M,s,q,pI p,pI p2,rfl,R1,hbef,fun H2 f2 R2=>?_⟩
    have hk2:H2 pd=some (.dK kv):=f2 _ _ hk (pdm hk)
    have dvis:∀ z∈vis C p,z∉vis D p':=dis
    have stepC:∀ z2,p2=some z2→z2∉vis C p∧MX.Path s.up b0 (vis C p) (some z2):=fun z2 e=>by
     cases hp:p with
     |none=>rw [hp2n hp]at e;cases e
     |some z =>
      obtain⟨e1,r1,r2⟩:=hp2s z hp
      rw [e]at e1
      obtain⟨a1,a2,a3⟩:=MX.up_lt ok r1 e1
      rw [hp]at pC
      obtain⟨q1,q2⟩:=MX.Z6G ok pC base0.1 base0.2.1
      obtain⟨_,_,_,q3⟩:=q2 z rfl
      have lt:∀ w∈C++[z],s.rk z2<s.rk w:=fun w hw=>by
       rcases Z0m.mp hw with h |h
       ·exact Z0Q a3 (q3 w h)
       ·rw [Z0l.mp h];exact a3
      exact⟨fun h=>Z0v _ (lt z2 h),MX.ZaI pC e1 fun w hw z'=>by have:=lt w hw;rw [z']at this;exact Z0v _ this⟩
    have stepN:p2=none→MX.Path s.up b0 (vis C p) none:=fun e=>by
     cases hp:p with
     |none=>rw [hp]at pC;simpa [vis]using pC
     |some z =>
      obtain⟨e1,_,_⟩:=hp2s z hp
      rw [hp]at pC
      exact MX.ZaK pC (e1.trans e)
    have goon:(∀ z2,p2=some z2→z2∉vis D p')→(∃ (b1 o1:Nat)(C1 D1:List Nat)(p1 p1':Option Nat)(kv1:List (Key×V))(v1:Option V),[some (V.ref A.sr),some (.int (pI p')),some (.int (pI p2)),some (.ref pd),some (.int (pI p2))]=[some (V.ref A.sr),some (.int (pI p1)),some (.int (pI p1')),some (.ref pd),v1]∧((b1=b∧o1=o)∨(b1=o∧o1=b)) ∧
      Frm A H (upd H2 pd (.dK (putK kv (.inl (pI p2)) (.bl true))))∧Rep CS n (upd H2 pd (.dK (putK kv (.inl (pI p2)) (.bl true)))) A c s q N M∧upd H2 pd (.dK (putK kv (.inl (pI p2)) (.bl true))) pd=some (.dK kv1)∧(∀ z:Nat,(valV kv1 (.inl (z:Int))).isSome=true↔z∈vis C1 p1∨z∈vis D1 p1')∧MX.Path s.up b1 C1 p1∧MX.Path s.up o1 D1 p1'∧(∀ z,z∈vis C1 p1→z∉vis D1 p1') ∧
      kv1.length+mea s (pI p1) (pI p1')≤2000)∧mea s (pI p') (pI p2)<mea s (pI p) (pI p'):=fun hno=>by
     have ms:mea s (pI p') (pI p2)<mea s (pI p) (pI p'):=by
      unfold mea
      have h1:phi s (pI p2)≤phi s (pI p)∧(p≠none→phi s (pI p2)<phi s (pI p)):=by
       cases hp:p with
       |none=>rw [hp2n hp];exact⟨Z0d _,fun h=>absurd rfl h⟩
       |some z =>
        obtain⟨e1,r1,_⟩:=hp2s z hp
        have hz:=Z5P s z
        have:phi s (pI p2)<phi s (pI (some z)):=by
         rw [hz]
         cases e2:p2 with
         |none=>rw [phi_none];omega
         |some z2 =>
          rw [e2]at e1
          have:=(MX.up_lt ok r1 e1).2.2
          rw [Z5P];omega
        exact⟨Z1u this,fun _=>this⟩
      by_cases hp:p=none
      ·have hp':p'≠none:=hne.elim (fun z=>absurd hp z) id
       rw [if_neg (fun z=>hp' (ZbC.mp z)),if_pos (ZbC.mpr hp)]
       omega
      ·have:=h1.2 hp
       rw [if_neg (fun z=>hp (ZbC.mp z))]
       split<;>omega
     refine⟨⟨o0,b0,D,vis C p,p',p2,putK kv (.inl (pI p2)) (.bl true),_,rfl,hsw.elim (fun⟨a,b⟩=>.inr ⟨b,a⟩) fun⟨a,b⟩=>.inl ⟨b,a⟩,fun x ob e hx=>?_,?_,Z2n,fun z=>?_,pD,?_,fun z h1 h2=>?_,?_⟩,ms⟩
     ·rw [Z2m (Z2p e hpd)];exact(fr.trans f2) x ob e hx
     ·
      obtain⟨k1,a1,b1,l1⟩:=R2.bas
      obtain⟨k2,a2,b2,l2⟩:=R2.cby
      obtain⟨k3,a3,b3,l3⟩:=R2.cfr
      obtain⟨k4,a4,b4,l4⟩:=R2.trn
      obtain⟨ts,a5,b5⟩:=R2.wat
      have np:=pdm hk
      simp only [Z0e,Z0y,or_false,not_or]at np
      obtain⟨m1,m2,m3,m4,m5⟩:=np
      have keep:∀ {a:Addr}{ob:HO},H2 a=some ob→a≠pd→upd H2 pd (.dK (putK kv (.inl (pI p2)) (.bl true))) a=some ob:=fun e h=>by rw [Z2m h];exact e
      exact⟨keep R2.obj (ne_of R2.obj hk2 (by intro z;cases z)),⟨k1,keep a1 (Ne.symm m1),b1,l1⟩,⟨k2,keep a2 (Ne.symm m2),b2,l2⟩,⟨k3,keep a3 (Ne.symm m3),b3,l3⟩,⟨k4,keep a4 (Ne.symm m4),b4,l4⟩,⟨ts,keep a5 (Ne.symm m5),b5.same fun d xs e=>keep e (ne_of e hk2 (by intro z;cases z))⟩,R2.qle,R2.bud,R2.mle,R2.nn,R2.nd⟩
     ·rw [Z2M]
      cases e2:p2 with
      |none =>
       rw [if_neg (by rw [Z3k];show ¬ (z:Int)=-1;omega),key z]
       simp only [vis,Option.toList,Z0F]
       exact or_comm
      |some z2 =>
       have em:z∈vis (vis C p) (some z2)↔z∈vis C p∨z=z2:=by
        show z∈vis C p++[z2]↔_
        rw [Z0m,Z0l]
       rw [em]
       by_cases q1:z=z2
       ·rw [if_pos (by rw [Z3k,q1];rfl)]
        exact⟨fun _=>.inr (.inr q1),fun _=>rfl⟩
       ·rw [if_neg (by rw [Z3k];show ¬ (z:Int)=(z2:Int);omega),key z]
        constructor
        ·rintro(h |h)
         ·exact .inr (.inl h)
         ·exact .inl h
        ·rintro(h |h |h)
         ·exact .inr h
         ·exact .inl h
         ·exact absurd h q1
     ·cases e2:p2 with
      |none=>exact stepN e2
      |some z2=>exact(stepC z2 e2).2
     ·cases e2:p2 with
      |none =>
       rw [e2]at h2
       have h2:z∈vis C p:=by simpa [vis]using h2
       exact dvis z h2 h1
      |some z2 =>
       rw [e2]at h2
       rcases Z0m.mp (show z∈vis C p++[z2]from h2)with h |h
       ·exact dvis z h h1
       ·rw [Z0l.mp h]at h1;exact hno z2 e2 h1
     ·have:=Z2R kv (.inl (pI p2)) (.bl true)
      omega
    have lenk:kv.length<sizeLine:=by rw [sizeLine_eq];omega
    refine⟨_,rfl,rfl,_,rfl,ite2 (fun hc3=>?_) (fun hc3=>?_)⟩
    ·
     obtain⟨z2,e2⟩:∃ z2,p2=some z2:=by
      cases e2:p2 with
      |none=>rw [e2]at hc3;simp [pI]at hc3
      |some z2=>exact⟨z2,rfl⟩
     refine⟨_,rfl,_,rfl,pd,_,rfl,DGet.k (k:=.inl (pI p2)) hk2,_,rfl,ite2 (fun hc4=>?_) (fun hc4=>?_)⟩
     ·
      rw [e2]at hc4
      have hin:=(key z2).mp hc4
      obtain⟨n1,pth⟩:=stepC z2 e2
      have hD:z2∈vis D p':=hin.elim (fun h=>absurd h n1) id
      have pother:∃ D1,MX.Path s.up o0 D1 (some z2)∧∀ x∈D1,x∈vis D p':=by
       cases hp':p' with
       |none =>
        rw [hp']at hD pD
        have hD:z2∈D:=by simpa [vis]using hD
        have sp:∀ {L:List Nat}{x:Nat},MX.Path s.up x L none→s.re x→s.root x=x→z2∈L→∃ D1,MX.Path s.up x D1 (some z2)∧∀ y∈D1,y∈L:=fun{L}=>by
         induction L with
         |nil=>intro x h _ _ hz;simp at hz
         |cons y L ih =>
          intro x h hr hx hz
          by_cases exz:x=z2
          ·subst exz;exact⟨[],.nil _,fun y hy=>by simp at hy⟩
          ·have hyx:x=y:=by cases h<;>rfl
           subst hyx
           rcases(show(L=[])∨∃ x',s.up x=some x'∧MX.Path s.up x' L none by
            cases h with
            |top _ hu=>exact .inl rfl
            |step _ x' _ _ hu _ hp=>exact .inr ⟨x',hu,hp⟩)with hL |⟨x',hu,hp⟩
           ·rw [hL]at hz;simp at hz;exact absurd hz.symm exz
           ·
            obtain⟨a1,a2,a3⟩:=MX.up_lt ok hr hu
            have hz':z2∈L:=(Z0e.mp hz).elim (fun h=>absurd h.symm exz) id
            obtain⟨D1,d1,d2⟩:=ih hp a1 a2 hz'
            exact⟨x::D1,.step _ x' _ _ hu (fun q=>exz (Option.some.inj q)) d1,fun y hy=>(Z0e.mp hy).elim (fun h=>by rw [h];exact Z0h ..) fun h=>Z0g _ (d2 y h)⟩
        obtain⟨D1,d1,d2⟩:=sp pD base0.2.2.1 base0.2.2.2 hD
        exact⟨D1,d1,fun x hx=>by simpa [vis]using d2 x hx⟩
       |some y =>
        rw [hp']at hD pD
        by_cases q1:z2=y
        ·subst q1;exact⟨D,pD,fun x hx=>Z0M _ hx⟩
        ·have hD2:z2∈D:=by
          rcases Z0m.mp (show z2∈D++[y]from hD)with h |h
          ·exact h
          ·exact absurd (Z0l.mp h) q1
         obtain⟨D1,D2,_,d1,_,d2,_⟩:=MX.Z4Q ok pD base0.2.2.1 base0.2.2.2 hD2
         exact⟨D1,d1,fun x hx=>Z0M _ (d2 x hx)⟩
      obtain⟨D1,d1,d2⟩:=pother
      have hm:Meet s b0 o0 (z2:Int) (vis C p) D1:=⟨fun z h1 h2=>dvis z h1 (d2 z h2),.inr ⟨z2,rfl,pth,d1⟩⟩
      have e3:pI p2=(z2:Int):=by rw [e2];rfl
      refine⟨_,rfl,?_⟩
      rw [e3]
      rcases hsw with⟨rfl,rfl⟩ |⟨rfl,rfl⟩
      ·exact k H2 _ _ _ (fr.trans f2) R2 hm
      ·exact k H2 _ _ _ (fr.trans f2) R2 hm.symm
     ·have hno:∀ z,p2=some z→z∉vis D p':=fun z e h=>hc4 (by rw [e];exact(key z).mpr (.inr h))
      exact⟨_,rfl,_,rfl,pd,_,rfl,DPut.k (k:=.inl (pI p2)) hk2 lenk,_,rfl,_,rfl,goon hno⟩
    ·have hno:∀ z,p2=some z→z∉vis D p':=fun z e h=>hc3 (by rw [e];simp [pI])
     exact⟨_,rfl,_,rfl,pd,_,rfl,DPut.k (k:=.inl (pI p2)) hk2 lenk,_,rfl,_,rfl,goon hno⟩
  ·rintro σ H1 Q1 Q2 hq ⟨v,e,h1,b',e2,q'⟩
   refine⟨v,e,h1,b',e2,?_⟩
   cases b' with
   |true=>exact hq _ _ q'
   |false =>
    obtain⟨v,e,h1,b',e2,q'⟩:=q'
    exact⟨v,e,h1,b',e2,hq _ _ q'⟩
end
end BK
end
section
namespace BK
open PySem PySem.Spec PyProof.Rows L2 EX RD LM
open Classical in
noncomputable def part(s:MX.S)(Z:List Nat)(m:Nat):MX.S:={ s with root:=fun v=>if s.root v∈Z then m else s.root v,tn:=fun z u=>s.tn z u∨(z∈Z∧(u=1∨u=-1)) }
theorem Z8w(s:MX.S)(m:Nat):(part s [] m).root=s.root:=by
 funext v
 unfold part
 dsimp only
 rw [if_neg Z0y]
theorem Z6P(s:MX.S)(m:Nat):(part s [] m).tn=s.tn:=by
 funext z u
 refine propext ⟨fun h=>h.elim id fun h=>by simp at h,.inl⟩
section
variable{P:Program}{w:World}{K:Z0a}{mg:Str→Option Value}{base:Heap}{CS:Addr}
def spFold(CS:Addr):Sp:=fun vs H Q _=>∃ (A:SA)(n c N M:Nat)(s:MX.S)(q:List (Nat×Int))(G:MX.Gr)(T:Int)(Z L:List Nat)(z m:Nat),vs=[.ref A.sr,.int (z:Int),.int (m:Int)]∧Rep CS n H A c (part s Z m) q N M∧s.Ok G c T∧G.n=n ∧
 MX.Path s.up z L (some m)∧s.re z∧s.root z=z∧(∀ x∈L,x∉Z)∧m∉Z∧∀ H' q' N',Frm A H H'→Rep CS n H' A c (part s (Z++L) m) q' N' M→Ext (part s Z m) q (part s (Z++L) m) q'→N≤N'→Q .non H'
theorem scFold:Z2v ["self","base","meeting","before"] ["self","base","meeting"] (Z2r Z4B):=⟨rfl,rfl,rfl,by decide +kernel,rfl,by decide +kernel,by decide +kernel⟩
theorem okFold{f fB fA:Addr}{fd fdB fdA:FuncData}(F:Fun K "fold" "Search.fold" Z4B f fd)(T:TS7 K mg CS)(GB:FnOk P w K mg base CX0 2 fB fdB ["self","base"] (spBef CS))(mB:Meth K CS "base_before" fB)(bB:Binds K fdB ["self","base"] [])
  (GA:FnOk P w K mg base CX0 2 fA fdA ["self","atom"] (Z9q CS))(mA:Meth K CS "allow_both" fA)(bA:Binds K fdA ["self","atom"] []):FnOk P w K mg base CX0 3 f fd ["self","base","meeting"] (spFold CS):=by
 refine F.ok scFold (fun vs H Q E h=>?_) (fun cdv A' outer s' H vs Q E hr h=>?_)
 ·obtain⟨A,n,c,N,M,s,q,G,T',Z,L,z,m,rfl,_⟩:=h
  rfl
 ·obtain⟨A,n,c,N,M,s,q,G,T',Z,L,z,m,rfl,R,ok,hn,pth,rz,zz,dis,mZ,k⟩:=h
  have hu:=hu_of hr
  refine⟨_,Z2s (Z5f PassesOwn.never (Z2G op_ne (pv 1) (pv 2) (Z2D _))
    (Z2o (Z2w (i:=3) scFold.nd rfl (Or.inl rfl) (Z2A (pv 0) T.cl mB GB hr bB .nil pass0 (Z2l (pv 1) Z2q)))
    (Z2o (Z4u hu (Z2u (pv 0) rfl) (pv 1) (pv 2) rfl)
    (Z2o (Z2K (Z2A (pv 0) T.cl mA GA hr bA .nil pass0 (Z2l (pv 1) Z2q)))
    (Z2s (Z2w (i:=1) scFold.nd rfl (Or.inl rfl) (pv 3))))))),?_⟩
  obtain⟨pr1,pr2⟩:=MX.Z6G ok pth rz zz
  obtain⟨rm,mm,_,mlt⟩:=pr2 m rfl
  refine Z6b (fun σ H'=>∃ (x:Nat)(L1 L2:List Nat)(q':List (Nat×Int))(N':Nat)(v:Option V),σ=[some (.ref A.sr),some (.int (x:Int)),some (.int (m:Int)),v]∧L=L1++L2∧MX.Path s.up x L2 (some m)∧s.re x∧s.root x=x∧(∀ y∈L1,y∉L2) ∧
    Frm A H H'∧Rep CS n H' A c (part s (Z++L1) m) q' N' M∧Ext (part s Z m) q (part s (Z++L1) m) q'∧N≤N')
   (fun σ _=>match σ with |[_,some (.int x),_,_]=>s.rk x.toNat |_=>0)
   ⟨z,[],L,q,N,none,rfl,rfl,pth,rz,zz,fun y hy=>by simp at hy,Frm.refl _ _,by rw [Z0F];exact R,by rw [Z0F];exact Ext.refl _ _,Z0d _⟩ ?_ ?_
  ·rintro σ H1 ⟨x,L1,L2,q1,N1,v,rfl,hL,px,rx,xx,d12,fr,R1,ex,hN⟩
   refine⟨_,rfl,_,rfl,rfl,_,rfl,ite2 (fun hc=>?_) (fun hc=>?_)⟩
   ·have hxm:x≠m:=fun e=>by simp [e]at hc
    obtain⟨x',L3,hu1,hp3,hL2⟩:∃ x' L3,s.up x=some x'∧MX.Path s.up x' L3 (some m)∧L2=x::L3:=by
     cases px with
     |nil=>exact absurd rfl hxm
     |step _ x' L3 _ hu1 _ hp=>exact⟨x',L3,hu1,hp,rfl⟩
    subst hL2
    obtain⟨rx',xx',lt'⟩:=MX.up_lt ok rx hu1
    obtain⟨nL3,_⟩:=MX.Z7I ok rx xx hu1 hp3
    have xL:x∈L:=by rw [hL];simp
    have xZ:x∉Z++L1:=fun h=>by
     rcases Z0m.mp h with h |h
     ·exact dis x xL h
     ·exact d12 x h (Z0h ..)
    have x'Z:x'∉Z++L1:=fun h=>by
     have hx':x'∈L3∨x'=m:=MX.Z3l hp3
     rcases hx' with h3 |h3
     ·rcases Z0m.mp h with h |h
      ·exact dis x' (by rw [hL];simp [h3]) h
      ·exact d12 x' h (Z0g _ h3)
     ·subst h3
      rcases Z0m.mp h with h |h
      ·exact mZ h
      ·exact Z0v _ (mlt x' (by rw [hL];exact Z0M _ h))
    have mZ1:m∉Z++L1:=fun h=>by
     rcases Z0m.mp h with h |h
     ·exact mZ h
     ·exact Z0v _ (mlt m (by rw [hL];exact Z0M _ h))
    have hup:(part s (Z++L1) m).up x=some x':=by
     unfold MX.S.up at hu1 ⊢
     cases e:s.cf x with
     |none=>rw [e]at hu1;cases hu1
     |some w' =>
      rw [e]at hu1
      have e2:s.root w'=x':=Option.some.inj hu1
      show Option.map (part s (Z++L1) m).root (s.cf x)=some x'
      rw [e]
      show some (if s.root w'∈Z++L1 then m else s.root w')=some x'
      rw [if_neg (by rw [e2];exact x'Z),e2]
    refine⟨_,rfl,A.sr,A.dx,_,rfl,R1.obj,sno,_,rfl,A,n,c,N1,M,_,q1,(x:Int),(x':Int),rfl,R1,.inr ⟨x,rfl,rx,fun w' hw=>(ok.tree x w' rx hw).1,by rw [hup]⟩,fun H2 f2 R2=>?_⟩
    obtain⟨kvs,hb,B,hl⟩:=R2.bas
    refine⟨_,rfl,_,rfl,A.sr,CS,A.dx,_,_,rfl,R2.obj,T.cl,T.nb,Z3E _ _,_,rfl,A.db,_,rfl,DPut.k (k:=.inl (x:Int)) hb (by rw [sizeLine_eq];have:=R2.mle;omega),?_⟩
    have rt1:∀ v,(part s (Z++L1++[x]) m).root v=if (part s (Z++L1) m).root v=x then m else(part s (Z++L1) m).root v:=fun v=>by
     show(if s.root v∈Z++L1++[x]then m else s.root v)=if (if s.root v∈Z++L1 then m else s.root v)=x then m else(if s.root v∈Z++L1 then m else s.root v)
     by_cases h1:s.root v∈Z++L1
     ·rw [if_pos (Z0M _ h1),if_pos h1,if_neg (fun e=>hxm e.symm)]
     ·rw [if_neg h1]
      by_cases h2:s.root v=x
      ·rw [if_pos (by rw [h2];simp),if_pos h2]
      ·rw [if_neg (fun h=>(Z0m.mp h).elim h1 fun h=>h2 (Z0l.mp h)),if_neg h2]
    have rx1:(part s (Z++L1) m).root x=x:=by
     show(if s.root x∈Z++L1 then m else s.root x)=x
     rw [xx,if_neg xZ]
    have rm1:(part s (Z++L1) m).root m=m:=by
     show(if s.root m∈Z++L1 then m else s.root m)=m
     rw [mm,if_neg mZ1]
    have lmx:s.rk m<s.rk x:=mlt x xL
    obtain⟨yx,vx,_⟩:=B.at_ x rx
    have B2:Bas { part s (Z++L1) m with root:=(part s (Z++L1++[x]) m).root } (putK kvs (.inl (x:Int)) (.int (m:Int))):=by
     refine⟨?_,fun y hy=>?_,fun y hy=>?_⟩
     ·rw [Z2M,if_neg (by rw [Z3k];omega)];exact B.mid
     ·by_cases e:y=x
      ·subst e
       refine⟨m,by rw [Z2M,if_pos rfl],rm,?_,?_,fun _=>lmx⟩
       ·show(part s (Z++L1++[y]) m).root m=(part s (Z++L1++[y]) m).root y
        rw [rt1,rt1,rm1,rx1,if_neg (fun e=>hxm e.symm),if_pos rfl]
       ·show m=y↔(part s (Z++L1++[y]) m).root y=y
        rw [rt1,rx1,if_pos rfl]
      ·obtain⟨y1,v1,r1,e1,i1,l1⟩:=B.at_ y hy
       refine⟨y1,by rw [Z2M,if_neg (by rw [Z3k];omega)];exact v1,r1,?_,?_,l1⟩
       ·show(part s (Z++L1++[x]) m).root y1=(part s (Z++L1++[x]) m).root y
        rw [rt1,rt1,e1]
       ·show y1=y↔(part s (Z++L1++[x]) m).root y=y
        rw [rt1]
        by_cases e2:(part s (Z++L1) m).root y=x
        ·rw [if_pos e2]
         refine⟨fun h=>?_,fun h=>?_⟩
         ·have:=i1.mp h
          rw [e2]at this
          exact absurd this.symm e
         ·rw [←h,rm1]at e2
          exact absurd e2.symm hxm
        ·rw [if_neg e2];exact i1
     ·rw [Z2M,if_neg (by rw [Z3k];intro h;apply hy;have:y=x:=(by omega);rw [this];exact rx)]
      exact B.no y hy
    have R3:=R2.setBas B2 (by rw [Z9a (by rw [vx];rfl)];exact hl) rfl rfl rfl rfl
    refine⟨_,rfl,A.sr,A.dx,_,rfl,R3.obj,sno,_,rfl,A,n,c,N1,M,_,q1,x,rfl,R3,by rw [←hn];exact ok.rn x rx,fun H4 q4 N4 f4 R4 e4 hN4=>?_⟩
    have etn:(part s (Z++L1++[x]) m).tn=(({ part s (Z++L1) m with root:=(part s (Z++L1++[x]) m).root }:MX.S).allow x 1 |>.allow x (-1)).tn:=by
     funext y u
     refine propext ⟨fun h=>?_,fun h=>?_⟩
     ·rcases h with h |⟨h,hu'⟩
      ·exact .inl (.inl (.inl h))
      ·rcases Z0m.mp h with h |h
       ·exact .inl (.inl (.inr ⟨h,hu'⟩))
       ·have h:=Z0l.mp h
        rcases hu' with hu' |hu'
        ·exact .inl (.inr ⟨h,hu'⟩)
        ·exact .inr ⟨h,hu'⟩
     ·rcases h with((h |⟨h,hu'⟩) |⟨h,hu'⟩) |⟨h,hu'⟩
      ·exact .inl h
      ·exact .inr ⟨Z0M _ h,hu'⟩
      ·exact .inr ⟨by rw [h];simp,.inl hu'⟩
      ·exact .inr ⟨by rw [h];simp,.inr hu'⟩
    have R5:Rep CS n H4 A c (part s (Z++L1++[x]) m) q4 N4 M:=R4.congr rfl rfl rfl rfl rfl etn
    refine⟨_,rfl,⟨x',L1++[x],L3,q4,N4,_,rfl,by rw [hL];simp,hp3,rx',xx',fun y hy h3=>?_,((fr.trans f2).upd (by simp)).trans f4,by rw [←List.append_assoc];exact R5,?_,Z0A hN hN4⟩,?_⟩
    ·rcases Z0m.mp hy with h |h
     ·exact d12 y h (Z0g _ h3)
     ·rw [Z0l.mp h]at h3;exact nL3 h3
    ·rw [←List.append_assoc]
     refine ex.trans (Ext.tn ?_ etn)
     obtain⟨r,a1,a2,a3⟩:=e4
     exact⟨r,a1,a2,a3⟩
    ·show s.rk ((x':Int)).toNat<s.rk ((x:Int)).toNat
     simpa using lt'
   ·have hxm:x=m:=by
     have:(x:Int)=(m:Int):=by simpa using hc
     omega
    subst hxm
    have hL2:L2=[]:=by
     cases px with
     |nil=>rfl
     |step _ _ _ _ _ hne _=>exact absurd rfl hne
    subst hL2
    rw [Z0F]at hL
    subst hL
    exact k H1 q1 N1 fr R1 ex hN
  ·rintro σ H1 Q1 Q2 hq ⟨v,e,v2,e2,h1,b',e3,q'⟩
   exact⟨v,e,v2,e2,h1,b',e3,hq _ _ q'⟩
end
end BK
end
section
namespace BK
open PySem PySem.Spec PyProof.Rows L2 EX RD LM
def wf(e y:Int)(d:Addr):List (Str×V):=[("bond",.int e),("other",.int y),("rooms",.ref d)]
theorem Z7M(e y:Int)(d:Addr):(wf e y d).lookup ("bond" : Str)=some (.int e):=by
 unfold wf;rw [Z0c,show(("bond" : Str)=="bond")=true by decide]
theorem Z6d(e y:Int)(d:Addr):(wf e y d).lookup ("other" : Str)=some (.int y):=by
 unfold wf;rw [Z0c,show(("other" : Str)=="bond")=false by decide,Z0c,show(("other" : Str)=="other")=true by decide]
theorem Z5L(e y:Int)(d:Addr):(wf e y d).lookup ("rooms" : Str)=some (.ref d):=by
 unfold wf;rw [Z0c,show(("rooms" : Str)=="bond")=false by decide,Z0c,show(("rooms" : Str)=="other")=false by decide,Z0c,show(("rooms" : Str)=="rooms")=true by decide]
def WayAt(CW:Addr)(H:Hp)(r:Addr)(e y:Nat)(o:Int):Prop:=∃ dx d kvs,H r=some (.ins CW dx (wf e y d))∧H d=some (.dK kvs)∧valV kvs (.inl 1)=some (.int (3-o))∧valV kvs (.inl (-1))=some (.int (o-1))
def WayOff(CW:Addr)(A:SA)(H:Hp)(r:Addr):Prop:=r∉A.mut∧∀ dx fs d,H r=some (.ins CW dx fs)→fs.lookup ("rooms" : Str)=some (.ref d)→d∉A.mut
theorem WayAt.frm{CW:Addr}{A:SA}{H H':Hp}{r:Addr}{e y:Nat}{o:Int}(h:WayAt CW H r e y o)(f:Frm A H H')(w:WayOff CW A H r):WayAt CW H' r e y o:=by
 obtain⟨dx,d,kvs,a,b,c1,c2⟩:=h
 exact⟨dx,d,kvs,f _ _ a w.1,f _ _ b (w.2 dx _ d a (Z5L _ _ _)),c1,c2⟩
theorem WayAt.room{G:MX.Gr}{kvs:List (Key×V)}{e:Nat}{t:Int}(h1:valV kvs (.inl 1)=some (.int (3-(G.bd e).o)))(h2:valV kvs (.inl (-1))=some (.int ((G.bd e).o-1)))(ht:t=1∨t=-1):valV kvs (.inl t)=some (.int (G.room t e)):=by
 unfold MX.Gr.room
 rcases ht with rfl |rfl
 ·rw [if_pos rfl];exact h1
 ·rw [if_neg (by decide)];exact h2
structure TW(K:Z0a)(CW:Addr):Prop where
 cl:Cls K CW
 nb:NoAttr K CW "bond"
 no:NoAttr K CW "other"
 nr:NoAttr K CW "rooms"
structure Stb(G:MX.Gr)(n c:Nat)(T:Int)(s:MX.S)(N M:Nat):Prop where
 ok:s.Ok G c T
 gok:G.Ok
 gn:G.n=n
 cm:c<G.m
 co:(G.bd c).o=2
 hT:T=1∨T=-1
 mn:M≤N+2
 nx:s.nx≤N
section
variable{P:Program}{w:World}{K:Z0a}{mg:Str→Option Value}{base:Heap}{CS CW:Addr}
def Zan(CS CW:Addr):Sp:=fun vs H Q _=>∃ (A:SA)(n c N M:Nat)(s:MX.S)(q:List (Nat×Int))(G:MX.Gr)(T:Int)(x y e:Nat)(t:Int)(wr:Addr),vs=[.ref A.sr,.int (x:Int),.int t,.ref wr]∧Rep CS n H A c s q N M∧Stb G n c T s N M ∧
 WayAt CW H wr e y (G.bd e).o∧WayOff CW A H wr∧s.tn x t∧e<G.m∧e≠c∧MX.Jn (G.bd e) x y∧0<G.room t e∧¬ s.dn x t e ∧
 (∀ H',Frm A H H'→(∃ δ,G.Chg δ∧δ c=T)→Q (.bl true) H') ∧
 ∀ H' s' q' N' M',Frm A H H'→Rep CS n H' A c s' q' N' M'→Stb G n c T s' N' M'→Ext s q s' q'→(∀ z u f,s'.dn z u f↔s.dn z u f∨(z=x∧u=t∧f=e))→Q (.bl false) H'
theorem scClose:Z2v ["self","atom","turn","way","base","other_base","used_up","meeting"] ["self","atom","turn","way"] (Z2r Z4b):=⟨rfl,rfl,rfl,by decide +kernel,rfl,by decide +kernel,by decide +kernel⟩
theorem okClose{f fR fB fM fF fA:Addr}{fd fdR fdB fdM fdF fdA:FuncData}(F:Fun K "closes" "Search.closes" Z4b f fd)(T:TS7 K mg CS)(W:TW K CW)
  (GR:FnOk P w K mg base CX0 2 fR fdR ["self","atom","before","bond","turn"] (Z7W CS))(mR:Meth K CS "reach" fR)(bR:Binds K fdR ["self","atom","before","bond","turn"] [])
  (GB:FnOk P w K mg base CX0 1 fB fdB ["self","atom"] (Z9f CS))(mB:Meth K CS "base_of" fB)(bB:Binds K fdB ["self","atom"] [])
  (GM:FnOk P w K mg base CX0 3 fM fdM ["self","base","other"] (spMeet CS))(mM:Meth K CS "meeting_of" fM)(bM:Binds K fdM ["self","base","other"] [])
  (GF:FnOk P w K mg base CX0 3 fF fdF ["self","base","meeting"] (spFold CS))(mF:Meth K CS "fold" fF)(bF:Binds K fdF ["self","base","meeting"] [])
  (GA:FnOk P w K mg base CX0 2 fA fdA ["self","atom"] (Z9q CS))(mA:Meth K CS "allow_both" fA)(bA:Binds K fdA ["self","atom"] []) :
  FnOk P w K mg base CX0 4 f fd ["self","atom","turn","way"] (Zan CS CW):=by
 refine F.ok scClose (fun vs H Q E h=>?_) (fun cdv A' outer s' H vs Q E hr h=>?_)
 ·obtain⟨A,n,c,N,M,s,q,G,T',x,y,e,t,wr,rfl,_⟩:=h
  rfl
 ·obtain⟨A,n,c,N,M,s,q,G,T',x,y,e,t,wr,rfl,R,S,hW,hO,tx,he,hec,hj,hro,hnd,k1,k2⟩:=h
  have hu:=hu_of hr
  have hr2:Room 2 _:=hr.mono (by decide)
  have hr1:Room 1 _:=hr.mono (by decide)
  refine⟨_,Z2o (ps_if (Z7h (Z6z hu (Z2u (pv 3) rfl) (Z2u (pv 0) rfl)))
    (Z2o (Z2K (Z2A (pv 0) T.cl mR GR hr2 bR .nil pass0 (Z2l (Z2u (pv 3) rfl) (Z2l (pv 1) (Z2l (Z2u (pv 3) rfl) (Z2l (pe_un Z9d (pv 2)) Z2q)))))) (Z2s (Z2y pe_bl))) Z2L)
   (Z2o (Z2w (i:=4) scClose.nd rfl (Or.inl rfl) (Z2A (pv 0) T.cl mB GB hr1 bB .nil pass0 (Z2l (pv 1) Z2q)))
   (Z2o (Z2w (i:=5) scClose.nd rfl (Or.inl rfl) (Z2A (pv 0) T.cl mB GB hr1 bB .nil pass0 (Z2l (Z2u (pv 3) rfl) Z2q)))
   (Z2o (Z2w (i:=6) scClose.nd rfl (Or.inl rfl) (Z6y (Z4e op_eq (Z4h hu (Z2u (pv 0) rfl) (pv 4) (fun _ _=>rfl)) (Z2u (pv 3) rfl) (Z2D _)) (Z7D (Z4e op_eq (Z4h hu (Z2u (pv 3) rfl) (pv 2) (fun _ _=>rfl)) Z2t (Z2D _)))))
   (Z2o (ps_if (PW.pt (pw_or (Z2G op_eq (pv 4) (pv 5) (Z2D _)) (pw_or (Z4Y (pv 6)) (Z7k (Z7h (Z6z hu (Z4l (Z2l (Z2u (pv 3) rfl) (Z2l (pv 2) Z2q))) (Z2u (pv 0) rfl))))))) (Z2s (Z2y pe_bl)) Z2L)
   (Z2o (Z2w (i:=7) scClose.nd rfl (Or.inl rfl) (Z2A (pv 0) T.cl mM GM hr bM .nil pass0 (Z2l (pv 4) (Z2l (pv 5) Z2q))))
   (Z2o (ps_if (Z2G op_eq (pv 7) (pe_gc rfl T.md) (Z2D _)) (Z2s (Z2y pe_bl)) Z2L)
   (Z2o (Z2K (Z2A (pv 0) T.cl mF GF hr bF .nil pass0 (Z2l (pv 4) (Z2l (pv 7) Z2q))))
   (Z2o (Z2K (Z2A (pv 0) T.cl mF GF hr bF .nil pass0 (Z2l (pv 5) (Z2l (pv 7) Z2q))))
   (Z2o (Z2K (Z2A (pv 0) T.cl mA GA hr2 bA .nil pass0 (Z2l (pv 7) Z2q)))
   (Z2s (Z2y pe_bl))))))))))),?_⟩
  have rx:=(S.ok.tnr x t tx).1
  have ht:=(S.ok.tnr x t tx).2
  have small:=R.small
  obtain⟨dw,dd,kw,hw1,hw2,hw3,hw4⟩:=id hW
  obtain⟨kvs,hb,B,hl⟩:=R.bas
  have yn:y<n:=by
   rw [←S.gn]
   rcases hj with⟨_,z⟩ |⟨_,z⟩
   ·rw [←z];exact S.gok.bn e he
   ·rw [←z];exact S.gok.an e he
  refine⟨_,rfl,wr,CW,dw,_,_,rfl,hw1,W.cl,W.no,Z6d _ _ _,_,rfl,A.sr,CS,A.dx,_,_,rfl,R.obj,T.cl,T.nb,Z3E _ _,A.db,_,rfl,DGet.k (k:=.inl (y:Int)) hb,_,rfl,ite2 (fun hc=>?_) (fun hc=>?_)⟩
  ·
   have hre:¬ s.re y:=fun z=>by
    obtain⟨y1,v1,_⟩:=B.at_ y z
    rw [v1]at hc;cases hc
   refine⟨_,rfl,A.sr,A.dx,_,rfl,R.obj,sno,_,rfl,wr,CW,dw,_,_,rfl,hw1,W.cl,W.no,Z6d _ _ _,_,rfl,_,rfl,wr,CW,dw,_,_,rfl,hw1,W.cl,W.nb,Z7M _ _ _,_,rfl,_,rfl,
    A,n,c,N,M,s,q,y,e,(x:Int),-t,some x,rfl,R,by have:=S.mn;omega,yn,hre,fun z v h=>(S.ok.tnr z v h).1,fun z h=>(S.ok.root z h).1,by omega,rfl,fun H1 q1 N1 f1 R1 hN1 e1=>?_⟩
   have okr:=MX.reach_ok S.ok S.gok tx he hec hj hro hre
   have R2:Rep CS n H1 A c (s.reach x y e t) q1 N1 (M+1):=R1.congr rfl rfl rfl rfl rfl rfl
   exact k2 H1 (s.reach x y e t) q1 N1 (M+1) f1 R2 ⟨okr,S.gok,S.gn,S.cm,S.co,S.hT,by have:=S.mn;omega,by show s.nx+1≤N1;have:=S.nx;omega⟩ (Ext.tn e1 rfl) fun z u f=>Iff.rfl
  ·have ry:s.re y:=by
    by_cases z:s.re y
    ·exact z
    ·rw [B.no y z]at hc;exact absurd rfl hc
   refine⟨_,rfl,A.sr,A.dx,_,rfl,R.obj,sno,_,rfl,A,n,c,N,M,s,q,(x:Int),(s.root x:Int),rfl,R,.inr ⟨x,rfl,rx,rfl⟩,fun H1 f1 R1=>?_⟩
   have hW1:=hW.frm f1 hO
   obtain⟨dw1,dd1,kw1,hw11,hw12,hw13,hw14⟩:=id hW1
   have hO1:WayOff CW A H1 wr:=⟨hO.1,fun dx fs d h1 h2=>hO.2 dx fs d (by
    have:=f1 _ _ hw1 hO.1
    rw [this]at h1
    cases h1
    exact hw1) h2⟩
   refine⟨_,rfl,A.sr,A.dx,_,rfl,R1.obj,sno,_,rfl,wr,CW,dw1,_,_,rfl,hw11,W.cl,W.no,Z6d _ _ _,A,n,c,N,M,s,q,(y:Int),(s.root y:Int),rfl,R1,.inr ⟨y,rfl,ry,rfl⟩,fun H2 f2 R2=>?_⟩
   have hW2:=hW1.frm f2 hO1
   obtain⟨dw2,dd2,kw2,hw21,hw22,hw23,hw24⟩:=id hW2
   obtain⟨k2c,c1,c2,c3⟩:=R2.cby
   have rrx:=(S.ok.root x rx).1
   have gcb:DGet H2 A.cb (.int (s.root x:Int)) (some (.int (s.cb (s.root x):Int))):=by rw [←c2 _ rrx];exact DGet.k (k:=.inl (s.root x:Int)) c1
   have grm:DGet H2 dd2 (.int t) (some (.int (G.room t e))):=by rw [←WayAt.room hw23 hw24 ht];exact DGet.k (k:=.inl t) hw22
   have f12:=f1.trans f2
   have stay:(s.root x=s.root y∨(s.cb (s.root x)=e∧G.room t e=1)∨¬ s.tn y t)→∀ H3,Frm A H2 H3→Rep CS n H3 A c s q N M→Q (.bl false) H3:=fun hh H3 f3 R3=>by
    have okm:=MX.mark_ok S.ok S.gok tx he hec hj hro ry hh
    have R4:Rep CS n H3 A c (s.mark x e t) q N M:=R3.congr rfl rfl rfl rfl rfl rfl
    exact k2 H3 (s.mark x e t) q N M (f12.trans f3) R4 ⟨okm,S.gok,S.gn,S.cm,S.co,S.hT,S.mn,S.nx⟩ (Ext.tn (Ext.refl _ _) rfl) fun z u f=>Iff.rfl
   have hus1:decide (V.int (s.cb (s.root x):Int)=V.int (e:Int))=true→(decide (V.int (G.room t e)=V.int 1)=true↔(s.cb (s.root x)=e∧G.room t e=1)):=fun h=>by
    have h1:s.cb (s.root x)=e:=by have:=V.int.inj (of_decide_eq_true h);omega
    rw [decide_eq_true_iff]
    exact⟨fun h=>⟨h1,V.int.inj h⟩,fun h=>by rw [h.2]⟩
   have hus2:¬ decide (V.int (s.cb (s.root x):Int)=V.int (e:Int))=true→(false=true↔(s.cb (s.root x)=e∧G.room t e=1)):=fun h =>
    ⟨fun z=>absurd z (by decide),fun z=>absurd (decide_eq_true (by rw [z.1])) h⟩
   refine⟨_,rfl,A.sr,CS,A.dx,_,_,rfl,R2.obj,T.cl,T.ny,Z7G _ _,_,rfl,A.cb,_,rfl,gcb,_,rfl,wr,CW,dw2,_,_,rfl,hw21,W.cl,W.nb,Z7M _ _ _,rfl,_,rfl,
    ite2 (fun hc1=>⟨_,rfl,wr,CW,dw2,_,_,rfl,hw21,W.cl,W.nr,Z5L _ _ _,_,rfl,dd2,_,rfl,grm,rfl,?_⟩) (fun hc1=>?_)⟩
   all_goals
    first
    |have hus:=hus1 hc1
    |have hus:=hus2 hc1
    refine⟨_,rfl,_,rfl,rfl,_,rfl,ite2 (fun ha=>?_) (fun ha=>⟨_,rfl,_,rfl,ite2 (fun hb2=>?_) (fun hb2=>?_)⟩)⟩
    ·exact stay (.inl (by have:=V.int.inj (of_decide_eq_true ha);omega)) H2 (Frm.refl _ _) R2
    ·exact stay (.inr (.inl (hus.mp hb2))) H2 (Frm.refl _ _) R2
    have hxy:s.root x≠s.root y:=fun z=>ha (decide_eq_true (by rw [z]))
    have hnu:¬ (s.cb (s.root x)=e∧G.room t e=1):=fun z=>hb2 (hus.mpr z)
    obtain⟨k4,d1,d2,d3⟩:=R2.trn
    refine⟨_,rfl,wr,CW,dw2,_,_,rfl,hw21,W.cl,W.no,Z6d _ _ _,_,rfl,(by show 2≤sizeLine;decide),fun u3 hu3=>?_⟩
    have R3:=R2.new (o:=.tup [.int (y:Int),.int t]) hu3
    have f3:Frm A H2 (upd H2 u3 (.tup [.int (y:Int),.int t])):=(Frm.refl _ _).new hu3
    have hd3:upd H2 u3 (.tup [.int (y:Int),.int t]) A.tn=some (.dT k4):=by rw [Z2m (Z2p d1 hu3)];exact d1
    refine⟨_,rfl,A.sr,CS,A.dx,_,_,rfl,R3.obj,T.cl,T.nt,Z6T _ _,A.tn,_,rfl,DGet.t (k:=[.inl (y:Int),.inl t]) hd3 Z2n,_,rfl,ite2 (fun hc4=>?_) (fun hc4=>?_)⟩
    ·refine stay (.inr (.inr fun z=>?_)) _ f3 R3
     have:=(d2 y t).mpr z
     rw [this]at hc4
     cases hc4
    have ty:s.tn y t:=by
     refine(d2 y t).mp ?_
     cases z:valV k4 [.inl (y:Int),.inl t]with
     |none=>rw [z]at hc4;exact absurd rfl hc4
     |some v=>rfl
    generalize upd H2 u3 (.tup [.int (y:Int),.int t])=H3 at R3 f3
    have f123:=f12.trans f3
    have rxx:=S.ok.root x rx
    have ryy:=S.ok.root y ry
    refine⟨_,rfl,A.sr,A.dx,_,rfl,R3.obj,sno,_,rfl,_,rfl,A,n,c,N,M,s,q,G,T',s.root x,s.root y,rfl,R3,S.ok,by have:=S.nx;omega,rxx.1,rxx.2.1,ryy.1,ryy.2.1,hxy,fun H4 r C D f4 R4 hm=>?_⟩
    have f4':=f123.trans f4
    refine⟨_,rfl,rfl,_,rfl,ite2 (fun hc5=>?_) (fun hc5=>?_)⟩
    ·
     have er:r=-1:=V.int.inj (of_decide_eq_true hc5)
     obtain⟨dis,hm⟩:=hm
     rcases hm with⟨_,p1,p2⟩ |⟨m,z,_⟩
     ·exact k1 H4 f4' (MX.found S.ok S.gok S.cm S.co S.hT he hec hj hro tx ty p1 p2 dis)
     ·omega
    ·obtain⟨dis,hm⟩:=hm
     rcases hm with⟨z,_⟩ |⟨m,rfl,p1,p2⟩
     ·exact absurd (decide_eq_true (by rw [z])) hc5
     ·have Rg:MX.Ring s G c x y e t C D m:=⟨tx,ty,he,hec,hj,hro,p1,p2,dis⟩
      obtain⟨m1,m2,m3,m4,m5,m6⟩:=MX.Z7s S.ok Rg
      have R5:Rep CS n H4 A c (part s [] m) q N M:=R4.congr rfl (Z8w s m) rfl rfl rfl (Z6P s m)
      refine⟨_,rfl,A.sr,A.dx,_,rfl,R4.obj,sno,_,rfl,_,rfl,A,n,c,N,M,s,q,G,T',[],C,s.root x,m,rfl,R5,S.ok,S.gn,p1,rxx.1,rxx.2.1,fun z _ h=>by simp at h,by simp,fun H6 q6 N6 f6 R6 e6 hN6=>?_⟩
      rw [Z1P]at R6 e6
      refine⟨_,rfl,A.sr,A.dx,_,rfl,R6.obj,sno,_,rfl,_,rfl,A,n,c,N6,M,s,q6,G,T',C,D,s.root y,m,rfl,R6,S.ok,S.gn,p2,ryy.1,ryy.2.1,fun z h1 h2=>dis z h2 h1,m3,fun H7 q7 N7 f7 R7 e7 hN7=>?_⟩
      refine⟨_,rfl,A.sr,A.dx,_,rfl,R7.obj,sno,_,rfl,A,n,c,N7,M,_,q7,m,rfl,R7,by rw [←S.gn];exact S.ok.rn m m1,fun H8 q8 N8 f8 R8 e8 hN8=>?_⟩
      have okf:=MX.fold_ok S.ok S.gok Rg hxy hnu hnd
      have er:(s.fold C D m x e t).root=(((part s (C++D) m).allow m 1).allow m (-1)).root:=by
       funext v
       show(if s.root v∈C∨s.root v∈D then m else s.root v)=if s.root v∈C++D then m else s.root v
       by_cases z:s.root v∈C∨s.root v∈D
       ·rw [if_pos z,if_pos (Z0m.mpr z)]
       ·rw [if_neg z,if_neg fun h=>z (Z0m.mp h)]
      have et:(s.fold C D m x e t).tn=(((part s (C++D) m).allow m 1).allow m (-1)).tn:=by
       funext z u
       refine propext ⟨fun h=>?_,fun h=>?_⟩
       ·rcases h with h |⟨h |h |h,hu'⟩
        ·exact .inl (.inl (.inl h))
        ·exact .inl (.inl (.inr ⟨Z0M _ h,hu'⟩))
        ·exact .inl (.inl (.inr ⟨Z0L _ h,hu'⟩))
        ·rcases hu' with hu' |hu'
         ·exact .inl (.inr ⟨h,hu'⟩)
         ·exact .inr ⟨h,hu'⟩
       ·rcases h with((h |⟨h,hu'⟩) |⟨h,hu'⟩) |⟨h,hu'⟩
        ·exact .inl h
        ·exact .inr ⟨(Z0m.mp h).imp_right .inl,hu'⟩
        ·exact .inr ⟨.inr (.inr h),.inl hu'⟩
        ·exact .inr ⟨.inr (.inr h),.inr hu'⟩
      have R9:Rep CS n H8 A c (s.fold C D m x e t) q8 N8 M:=R8.congr rfl er rfl rfl rfl et
      have ex:Ext s q (s.fold C D m x e t) q8:=by
       have a:Ext s q (part s C m) q6:=by
        obtain⟨r,a1,a2,a3,a4⟩:=e6
        rw [Z6P]at a2 a3
        exact⟨r,a1,a2,a3,a4⟩
       exact((a.trans e7).trans e8).tn et
      exact k2 H8 (s.fold C D m x e t) q8 N8 M (((f4'.trans f6).trans f7).trans f8) R9 ⟨okf,S.gok,S.gn,S.cm,S.co,S.hT,by have:=S.mn;omega,by show s.nx≤N8;have:=S.nx;omega⟩ ex fun z u f=>Iff.rfl
end
end BK
end
section
namespace MX
theorem Zbr{n:Nat}:∀ {r:List (Nat×Int)}{s s':S},(∀ x t,s'.tn x t↔s.tn x t∨(x,t)∈r)→(∀ p∈r,¬ s.tn p.1 p.2)→r.Nodup→(∀ p∈r,p.1<n∧(p.2=1∨p.2=-1))→miss s n=miss s' n+r.length
 |[],s,s',h,_,_,_=>by
  unfold miss
  rw [Z4G (p:=fun x=>¬ s.tn x 1) (q:=fun x=>¬ s'.tn x 1) fun x _=>by rw [h];simp,Z4G (p:=fun x=>¬ s.tn x (-1)) (q:=fun x=>¬ s'.tn x (-1)) fun x _=>by rw [h];simp]
  rfl
 |(x,t)::r,s,s',h,hn,hd,hv=>by
  have hx:=hv (x,t) (Z0h ..)
  rw [ZaE hx.1 hx.2 (hn (x,t) (Z0h ..))]
  have:=Zbr (n:=n) (r:=r) (s:=s.allow x t) (s':=s') (fun z u=>?_) (fun p hp z=>?_) (Z0N.mp hd).2 (fun p hp=>hv p (Z0g _ hp))
  ·rw [this,Z0q];omega
  ·rw [h]
   show _↔(s.tn z u∨(z=x∧u=t))∨_
   rw [Z0e,Prod.mk.injEq,or_assoc]
  ·rcases z with z |⟨z1,z2⟩
   ·exact hn p (Z0g _ hp) z
   ·have:p=(x,t):=by rw [←z1,←z2]
    rw [this]at hp
    exact(Z0N.mp hd).1 hp
end MX
namespace L2
theorem while_m{c:TT}{tb:TS}{D:Ends}{σ:St}{H:Hp}(Pv:Nat→St→Hp→Prop)(m0:Nat)(h0:Pv m0 σ H)
  (hs:∀ m σ H,Pv m σ H→c σ H fun b H1=>if b=true then tb { D with nx:=fun σ' H'=>∃ m',m' < m∧Pv m' σ' H',ct:=fun σ' H'=>∃ m',m' < m∧Pv m' σ' H',bk:=D.nx } σ H1 else D.nx σ H1)
  (mono:∀ σ H Q Q',(∀ b H1,Q b H1→Q' b H1)→c σ H Q→c σ H Q'):Z9x c tb D σ H:=by
 refine⟨Pv,⟨m0,h0⟩,fun m σ H p=>?_⟩
 refine mono σ H _ _ (fun b H1 q=>?_) (hs m σ H p)
 cases b with
 |true=>exact⟨_,fun σ' H' z=>z,q⟩
 |false=>exact q
end L2
namespace BK
open PySem PySem.Spec PyProof.Rows L2 EX RD LM
structure Wys(CW:Addr)(A:SA)(G:MX.Gr)(H:Hp)(ls:List Addr)(ws:Nat→List Addr)(E:Nat→List (Nat×Nat)):Prop where
 top:H A.wl=some (.lst (ls.map V.ref))
 tof:A.wl∉A.mut
 len:ls.length=G.n
 row:∀ x l,ls[x]?=some l→H l=some (.lst ((ws x).map V.ref))∧l∉A.mut
 wln:∀ x,x<G.n→(ws x).length=(E x).length
 way:∀ (x j:Nat) r p,x<G.n→(ws x)[j]?=some r→(E x)[j]?=some p→WayAt CW H r p.1 p.2 (G.bd p.1).o∧WayOff CW A H r
 cov:∀ x e y,x<G.n→((e,y)∈E x↔e<G.m∧MX.Jn (G.bd e) x y)
 unq:∀ x,x<G.n→((E x).map (·.1)).Nodup
theorem WayOff.frm{CW:Addr}{A:SA}{H H':Hp}{r:Addr}{e y:Nat}{o:Int}(h:WayAt CW H r e y o)(f:Frm A H H')(w:WayOff CW A H r):WayOff CW A H' r:=by
 obtain⟨dx,d,kvs,a,b,_⟩:=h
 refine⟨w.1,fun dx' fs' d' h1 h2=>?_⟩
 rw [f _ _ a w.1]at h1
 cases h1
 exact w.2 dx _ d' a h2
theorem Wys.frm{CW:Addr}{A:SA}{G:MX.Gr}{H H':Hp}{ls:List Addr}{ws:Nat→List Addr}{E:Nat→List (Nat×Nat)}(h:Wys CW A G H ls ws E)(f:Frm A H H'):Wys CW A G H' ls ws E :=
 ⟨f _ _ h.top h.tof,h.tof,h.len,fun x l e=>⟨f _ _ (h.row x l e).1 (h.row x l e).2,(h.row x l e).2⟩,h.wln,fun x j r p hx e1 e2=>let z:=h.way x j r p hx e1 e2;⟨z.1.frm f z.2,z.2.frm z.1 f⟩,h.cov,h.unq⟩
section
variable{P:Program}{w:World}{K:Z0a}{mg:Str→Option Value}{base:Heap}{CS CW:Addr}
def spGoes(CS CW:Addr):Sp:=fun vs H Q _=>∃ (A:SA)(n c N M:Nat)(s:MX.S)(q:List (Nat×Int))(G:MX.Gr)(T:Int)(ls:List Addr)(ws:Nat→List Addr)(E:Nat→List (Nat×Nat))(x:Nat)(t:Int),vs=[.ref A.sr,.int (x:Int),.int t]∧Rep CS n H A c s q N M∧Stb G n c T s N M ∧
 Wys CW A G H ls ws E∧s.tn x t∧(∀ e,¬ s.dn x t e) ∧
 (∀ H',Frm A H H'→(∃ δ,G.Chg δ∧δ c=T)→Q (.bl true) H') ∧
 ∀ H' s' q' N' M',Frm A H H'→Rep CS n H' A c s' q' N' M'→Stb G n c T s' N' M'→Ext s q s' q'→(∀ z u f,s'.dn z u f↔s.dn z u f∨(z=x∧u=t∧f≠c∧0<G.room t f∧f<G.m∧∃ y,MX.Jn (G.bd f) x y))→Q (.bl false) H'
theorem scGoes:Z2v ["self","atom","turn","way"] ["self","atom","turn"] (Z2r Z3R):=⟨rfl,rfl,rfl,by decide +kernel,rfl,by decide +kernel,by decide +kernel⟩
theorem okGoes{f fC:Addr}{fd fdC:FuncData}(F:Fun K "goes_on" "Search.goes_on" Z3R f fd)(T:TS7 K mg CS)(W:TW K CW)
  (GC:FnOk P w K mg base CX0 4 fC fdC ["self","atom","turn","way"] (Zan CS CW))(mC:Meth K CS "closes" fC)(bC:Binds K fdC ["self","atom","turn","way"] []):FnOk P w K mg base CX0 5 f fd ["self","atom","turn"] (spGoes CS CW):=by
 refine F.ok scGoes (fun vs H Q E h=>?_) (fun cdv A' outer s' H vs Q E' hr h=>?_)
 ·obtain⟨A,n,c,N,M,s,q,G,T',ls,ws,E,x,t,rfl,_⟩:=h
  rfl
 ·obtain⟨A,n,c,N,M,s,q,G,T',ls,ws,E,x,t,rfl,R,S,Y,tx,hnd,k1,k2⟩:=h
  have hu:=hu_of hr
  refine⟨_,Z2o (Z3A PassesOwn.never rfl (Z4W (pe_ix Z2Z (Z2u (pv 0) rfl) (pv 1) (fun _ _=>rfl))) (Z2H (i:=3) scGoes.nd rfl (Or.inl rfl))
    (Z2s (ps_if (PW.pt (Z6w (Z2G op_ne (Z2u (pv 3) rfl) (Z2u (pv 0) rfl) (Z2D _)) (Z6w (Z2G op_gt (Z4h hu (Z2u (pv 3) rfl) (pv 2) (fun _ _=>rfl)) Z2t (Z2D _)) (Z6D (Z4Y (Z2A (pv 0) T.cl mC GC hr bC .nil pass0 (Z2l (pv 1) (Z2l (pv 2) (Z2l (pv 3) Z2q)))))))))
      (Z2s (Z2y pe_bl)) Z2L)))
   (Z2s (Z2y pe_bl)),?_⟩
  have rx:=(S.ok.tnr x t tx).1
  have ht:=(S.ok.tnr x t tx).2
  have xn:=S.ok.rn x rx
  have lx:x<ls.length:=by rw [Y.len];exact xn
  obtain⟨r1,r2⟩:=Y.row x ls[x] (Z0j lx)
  have wl:=Y.wln x xn
  refine⟨_,rfl,A.sr,CS,A.dx,_,_,rfl,R.obj,T.cl,T.nw,sf_ways _ _,_,rfl,A.wl,_,_,.ref ls[x],rfl,rfl,SqL.of Y.top,Z3b (by rw [Z0k,Z0j lx];rfl),ls[x],rfl,⟨_,SqL.of r1⟩,
   Z5Q (K:=K) (a:=ls[x]) (xs:=(ws x).map V.ref) (fun i σ H'=>∃ (v:Option V)(s1:MX.S)(q1:List (Nat×Int))(N1 M1:Nat),σ=[some (.ref A.sr),some (.int (x:Int)),some (.int t),v]∧Frm A H H'∧Rep CS n H' A c s1 q1 N1 M1∧Stb G n c T' s1 N1 M1∧Ext s q s1 q1 ∧
    ∀ z u f,s1.dn z u f↔s.dn z u f∨(z=x∧u=t∧f≠c∧0<G.room t f∧∃ y,(f,y)∈(E x).take i))
   ⟨none,s,q,N,M,rfl,Frm.refl _ _,R,S,Ext.refl _ _,fun z u f=>by simp⟩ (fun i σ H' _ h=>?_) ?_ ?_⟩
  ·obtain⟨v,s1,q1,N1,M1,_,fr,_⟩:=h
   exact SqL.of (fr _ _ r1 r2)
  ·rintro i y σ H1 hi ⟨v,s1,q1,N1,M1,rfl,fr,R1,S1,ex,hd⟩
   obtain⟨wr,hwr,rfl⟩:∃ wr,(ws x)[i]?=some wr∧y=V.ref wr:=by
    rw [Z0k]at hi
    cases e:(ws x)[i]? with
    |none=>rw [e]at hi;cases hi
    |some wr=>rw [e]at hi;exact⟨wr,rfl,(Option.some.inj hi).symm⟩
   have li:i<(E x).length:=by rw [←wl];exact(Z0r.mp hwr).1
   have hEi:(E x)[i]?=some (E x)[i]:=Z0j li
   generalize (E x)[i]=p at hEi
   obtain⟨e,y⟩:=p
   obtain⟨hW0,hO0⟩:=Y.way x i wr (e,y) xn hwr hEi
   have hW1:=hW0.frm fr hO0
   have hO1:=hO0.frm hW0 fr
   obtain⟨dw,dd,kw,hw1,hw2,hw3,hw4⟩:=id hW1
   have cov:=(Y.cov x e y xn).mp (Z0u hEi)
   have grm:DGet H1 dd (.int t) (some (.int (G.room t e))):=by rw [←WayAt.room hw3 hw4 ht];exact DGet.k (k:=.inl t) hw2
   have hnot:∀ y',(e,y')∉(E x).take i:=fun y' hm=>by
    have nd:=Y.unq x xn
    obtain⟨j,hj⟩:=List.getElem?_of_mem hm
    have hj1:=(Z0r.mp hj).1
    rw [Z1k]at hj1
    rw [List.getElem?_take_of_lt (by omega)]at hj
    have a1:((E x).map (·.1))[j]?=some e:=by rw [Z0k,hj];rfl
    have a2:((E x).map (·.1))[i]?=some e:=by rw [Z0k,hEi];rfl
    have:=(List.getElem?_inj (i:=j) (j:=i) (by rw [Z0b];omega) nd).mp (a1.trans a2.symm)
    omega
   have hnd1:¬ s1.dn x t e:=fun z=>by
    rcases(hd x t e).mp z with z |⟨_,_,_,_,y',hy'⟩
    ·exact hnd e z
    ·exact hnot y' hy'
   have tk:∀ (pp:Nat×Nat),pp∈(E x).take (i+1)↔pp∈(E x).take i∨pp=(e,y):=fun pp=>by
    rw [Z1z,hEi,Z0m];simp
   have skip:(e=c∨¬ 0<G.room t e)→∃ (v:Option V)(s2:MX.S)(q2:List (Nat×Int))(N2 M2:Nat),[some (V.ref A.sr),some (.int (x:Int)),some (.int t),some (.ref wr)]=[some (V.ref A.sr),some (.int (x:Int)),some (.int t),v]∧Frm A H H1∧Rep CS n H1 A c s2 q2 N2 M2∧Stb G n c T' s2 N2 M2∧Ext s q s2 q2 ∧
     ∀ z u f,s2.dn z u f↔s.dn z u f∨(z=x∧u=t∧f≠c∧0<G.room t f∧∃ y,(f,y)∈(E x).take (i+1)):=fun hh=>by
    refine⟨_,s1,q1,N1,M1,rfl,fr,R1,S1,ex,fun z u f=>?_⟩
    rw [hd]
    refine⟨fun h=>h.imp_right fun⟨a,b,c1,d,y',h⟩=>⟨a,b,c1,d,y',(tk _).mpr (.inl h)⟩,fun h=>h.imp_right fun⟨a,b,c1,d,y',h⟩=>⟨a,b,c1,d,y',?_⟩⟩
    rcases(tk _).mp h with h |h
    ·exact h
    ·injection h with h1 h2
     rw [h1]at c1 d
     rcases hh with hh |hh
     ·exact absurd hh c1
     ·exact absurd d hh
   refine⟨_,rfl,wr,CW,dw,_,_,rfl,hw1,W.cl,W.nb,Z7M _ _ _,_,rfl,A.sr,CS,A.dx,_,_,rfl,R1.obj,T.cl,T.nc,sf_cut _ _,rfl,_,rfl,ite2 (fun hc1=>?_) (fun hc1=>?_)⟩
   ·have hec:e≠c:=fun z=>by rw [z]at hc1;simp at hc1
    refine⟨_,rfl,wr,CW,dw,_,_,rfl,hw1,W.cl,W.nr,Z5L _ _ _,_,rfl,dd,_,rfl,grm,_,_,rfl,rfl,_,rfl,ite2 (fun hc2=>?_) (fun hc2=>?_)⟩
    ·have hro:0<G.room t e:=of_decide_eq_true hc2
     have tx1:s1.tn x t:=by obtain⟨r,_,h,_⟩:=ex;exact(h x t).mpr (.inl tx)
     refine⟨_,rfl,A.sr,A.dx,_,rfl,R1.obj,sno,_,rfl,_,rfl,_,rfl,A,n,c,N1,M1,s1,q1,G,T',x,y,e,t,wr,rfl,R1,S1,hW1,hO1,tx1,cov.1,hec,cov.2,hro,hnd1,fun H2 f2 hδ=>?_,fun H2 s2 q2 N2 M2 f2 R2 S2 e2 d2=>?_⟩
     ·exact⟨_,rfl,k1 H2 (fr.trans f2) hδ⟩
     ·refine⟨_,rfl,_,s2,q2,N2,M2,rfl,fr.trans f2,R2,S2,ex.trans e2,fun z u f=>?_⟩
      rw [d2,hd]
      constructor
      ·rintro((h |⟨a,b,c1,d,y',h⟩) |⟨rfl,rfl,rfl⟩)
       ·exact .inl h
       ·exact .inr ⟨a,b,c1,d,y',(tk _).mpr (.inl h)⟩
       ·exact .inr ⟨rfl,rfl,hec,hro,y,(tk _).mpr (.inr rfl)⟩
      ·rintro(h |⟨a,b,c1,d,y',h⟩)
       ·exact .inl (.inl h)
       ·rcases(tk _).mp h with h |h
        ·exact .inl (.inr ⟨a,b,c1,d,y',h⟩)
        ·injection h with h1 h2
         exact .inr ⟨a,b,h1⟩
    ·exact skip (.inr fun z=>hc2 (decide_eq_true z))
   ·exact skip (.inl (by
     by_cases z:e=c
     ·exact z
     ·exact absurd (show _=true by simp;omega) hc1))
  ·rintro σ H1 ⟨v,s1,q1,N1,M1,rfl,fr,R1,S1,ex,hd⟩
   refine k2 H1 s1 q1 N1 M1 fr R1 S1 ex fun z u f=>?_
   rw [hd,Z0b,wl,Z1T]
   refine or_congr Iff.rfl ⟨fun⟨a,b,c1,d,y,h⟩=>?_,fun⟨a,b,c1,d,e1,y,h⟩=>⟨a,b,c1,d,y,(Y.cov x f y xn).mpr ⟨e1,h⟩⟩⟩
   have:=(Y.cov x f y xn).mp h
   exact⟨a,b,c1,d,this.1,y,this.2⟩
end
section
variable{P:Program}{w:World}{K:Z0a}{mg:Str→Option Value}{base:Heap}{CS CW:Addr}
structure Wt(G:MX.Gr)(c:Nat)(s:MX.S)(q:List (Nat×Int)):Prop where
 nd:q.Nodup
 un:∀ p∈q,s.tn p.1 p.2∧∀ e,¬ s.dn p.1 p.2 e
 dn:∀ x t,s.tn x t→(x,t)∈q∨∀ e y,e<G.m→e≠c→MX.Jn (G.bd e) x y→0<G.room t e→s.dn x t e
def spBack(CS CW:Addr):Sp:=fun vs H Q _=>∃ (A:SA)(n c N M:Nat)(s:MX.S)(q:List (Nat×Int))(G:MX.Gr)(T:Int)(ls:List Addr)(ws:Nat→List Addr)(E:Nat→List (Nat×Nat)),vs=[.ref A.sr]∧Rep CS n H A c s q N M∧Stb G n c T s N M ∧
 Wys CW A G H ls ws E∧Wt G c s q∧∀ (b:Bool) H',Frm A H H'→(b=true↔∃ δ,G.Chg δ∧δ c=T)→Q (.bl b) H'
theorem scBack:Z2v ["self","state"] ["self"] (Z2r Z3F):=⟨rfl,rfl,rfl,by decide +kernel,rfl,by decide +kernel,by decide +kernel⟩
theorem okBack{f fG:Addr}{fd fdG:FuncData}(F:Fun K "comes_back" "Search.comes_back" Z3F f fd)(T:TS7 K mg CS)
  (GG:FnOk P w K mg base CX0 5 fG fdG ["self","atom","turn"] (spGoes CS CW))(mG:Meth K CS "goes_on" fG)(bG:Binds K fdG ["self","atom","turn"] []):FnOk P w K mg base CX0 6 f fd ["self"] (spBack CS CW):=by
 refine F.ok scBack (fun vs H Q E h=>?_) (fun cdv A' outer s' H vs Q E' hr h=>?_)
 ·obtain⟨A,n,c,N,M,s,q,G,T',ls,ws,E,rfl,_⟩:=h
  rfl
 ·obtain⟨A,n,c,N,M,s,q,G,T',ls,ws,E,rfl,R,S,Y,Wt0,k⟩:=h
  refine⟨_,Z2o (Z5f PassesOwn.never (pt_truth (Z2u (pv 0) rfl) (fun _=>rfl))
    (Z2o (Z2w (i:=1) scBack.nd rfl (Or.inl rfl) (pe_bm0 Z1e PySem.F.slot_list_pop PySem.F.type_list_pop mt_pop (Z2u (pv 0) rfl)))
    (Z2s (ps_if (Z4Y (Z2A (pv 0) T.cl mG GG hr bG .nil pass0 (Z2l (pe_ix Z2W (pv 1) Z2t (fun _ _=>rfl)) (Z2l (pe_ix Z2W (pv 1) Z2t (fun _ _=>rfl)) Z2q)))) (Z2s (Z2y pe_bl)) Z2L))))
   (Z2s (Z2y pe_bl)),?_⟩
  refine while_m (fun m σ H'=>∃ (v:Option V)(s1:MX.S)(q1:List (Nat×Int))(N1 M1:Nat),σ=[some (.ref A.sr),v]∧m=2*MX.miss s1 n+q1.length∧Frm A H H'∧Rep CS n H' A c s1 q1 N1 M1∧Stb G n c T' s1 N1 M1∧Wt G c s1 q1) _ ⟨none,s,q,N,M,rfl,rfl,Frm.refl _ _,R,S,Wt0⟩ ?_ ?_
  ·rintro m σ H1 ⟨v,s1,q1,N1,M1,rfl,rfl,fr,R1,S1,W1⟩
   obtain⟨ts,hq,hT⟩:=R1.wat
   have htl:ts.length=q1.length:=by have:=hT.1;rw [Z0b]at this;exact this
   refine⟨_,rfl,A.sr,CS,A.dx,_,_,rfl,R1.obj,T.cl,T.nq,Z5R _ _,_,.inl ⟨_,SqL.of hq,rfl⟩,?_⟩
   rcases List.eq_nil_or_concat q1 with hq1 |⟨q0,p,hq1⟩
   ·
    subst hq1
    have:ts=[]:=Z1Q htl
    subst this
    show Q (.bl false) H1
    refine k false H1 fr ⟨fun z=>(by cases z),fun⟨δ,hδ,e⟩=>?_⟩
    refine absurd e (MX.ended S1.ok S1.gok S1.cm S1.hT (fun x y t e' htn he hec hj hro=>?_) hδ)
    rcases W1.dn x t htn with h |h
    ·simp at h
    ·exact h e' y he hec hj hro
   ·rw [List.concat_eq_append]at hq1
    subst hq1
    obtain⟨x,t⟩:=p
    have hlen:ts.length=q0.length+1:=by rw [htl];simp
    obtain⟨ts0,tl,hts⟩:∃ ts0 tl,ts=ts0++[tl]:=by
     rcases List.eq_nil_or_concat ts with h |⟨a,b,h⟩
     ·rw [h]at hlen;simp at hlen
     ·exact⟨a,b,by rw [h,List.concat_eq_append]⟩
    subst hts
    have l0:ts0.length=q0.length:=by simp at hlen;exact hlen
    have htl1:H1 tl=some (.tup (([(x:Int),t]:List Int).map V.int)):=by
     refine hT.2 ts0.length tl _ (by simp) ?_
     rw [l0]
     simp
    have un:=W1.un (x,t) (by simp)
    have hne:(!((ts0++[tl]).map V.ref).isEmpty)=true:=by simp
    rw [hne]
    refine⟨_,rfl,A.sr,CS,A.dx,_,_,rfl,R1.obj,T.cl,T.nq,Z5R _ _,.inl ⟨rfl,_,SqL.of hq⟩,A.wq,_,.ref tl,rfl,rfl,hq,by simp,?_⟩
    have hdl:((ts0++[tl]).map V.ref).dropLast=ts0.map V.ref:=by rw [Z0z];simp
    rw [hdl]
    obtain⟨k1,a1,b1,l1⟩:=R1.bas
    obtain⟨k2,a2,b2,l2⟩:=R1.cby
    obtain⟨k3,a3,b3,l3⟩:=R1.cfr
    obtain⟨k4,a4,b4,l4⟩:=R1.trn
    have nd:=R1.nd
    simp only [Z0N,Z0e,Z0y,or_false,not_or]at nd
    obtain⟨⟨n1,n2,n3,n4⟩,⟨n5,n6,n7⟩,⟨n8,n9⟩,n10,_⟩:=nd
    have keep:∀ {a:Addr}{o:HO},H1 a=some o→a≠A.wq→upd H1 A.wq (.lst (ts0.map V.ref)) a=some o:=fun e h=>by rw [Z2m h];exact e
    have R2:Rep CS n (upd H1 A.wq (.lst (ts0.map V.ref))) A c s1 q0 N1 M1:=by
     refine⟨keep R1.obj (ne_of R1.obj hq (by intro z;cases z)),⟨k1,keep a1 n4,b1,l1⟩,⟨k2,keep a2 n7,b2,l2⟩,⟨k3,keep a3 n9,b3,l3⟩,⟨k4,keep a4 n10,b4,l4⟩,⟨ts0,Z2n,by rw [Z0b];exact l0,fun j t' m' e1 e2=>?_⟩,?_,R1.bud,R1.mle,R1.nn,R1.nd⟩
     ·have lj:=(Z0r.mp e1).1
      have lj2:j<q0.length:=by omega
      have z:=hT.2 j t' m' (by rw [Z0S lj];exact e1) (by rw [Z0z,Z0S (by rw [Z0b];exact lj2)];exact e2)
      exact keep z (ne_of z hq (by intro y;cases y))
     ·have:=R1.qle;simp at this;omega
    have fr2:=fr.upd (b:=A.wq) (o:=.lst (ts0.map V.ref)) (by simp)
    have Y2:=Y.frm fr2
    have htl2:upd H1 A.wq (.lst (ts0.map V.ref)) tl=some (.tup (([(x:Int),t]:List Int).map V.int)):=keep htl1 (ne_of htl1 hq (by intro z;cases z))
    refine⟨_,rfl,A.sr,A.dx,_,rfl,R2.obj,sno,_,rfl,tl,_,_,_,rfl,rfl,SqT.of htl2,rfl,_,rfl,tl,_,_,_,rfl,rfl,SqT.of htl2,rfl,A,n,c,N1,M1,s1,q0,G,T',ls,ws,E,x,t,rfl,R2,S1,Y2,un.1,un.2,fun H3 f3 hδ=>?_,fun H3 s3 q3 N3 M3 f3 R3 S3 e3 d3=>?_⟩
    ·exact⟨_,rfl,k true H3 (fr2.trans f3) ⟨fun _=>hδ,fun _=>rfl⟩⟩
    ·obtain⟨r,hr3,ht3,hn3,hnd3⟩:=e3
     subst hr3
     have valid:∀ p∈r,p.1<n∧(p.2=1∨p.2=-1):=fun p hp=>by
      have:=S3.ok.tnr p.1 p.2 ((ht3 p.1 p.2).mpr (.inr hp))
      exact⟨by rw [←S3.gn];exact S3.ok.rn _ this.1,this.2⟩
     have hm:=MX.Zbr (n:=n) ht3 hn3 hnd3 valid
     have hxq:(x,t)∉q0:=fun h=>by
      have:=W1.nd
      rw [Z1p]at this
      exact this.2.2 (x,t) h (x,t) (by simp) rfl
     refine⟨_,rfl,2*MX.miss s3 n+(q0++r).length,?_,_,s3,q0++r,N3,M3,rfl,rfl,fr2.trans f3,R3,S3,⟨?_,fun p hp=>?_,fun z u hz=>?_⟩⟩
     ·simp only [Z0x,Z0q,Z0U]
      omega
     ·have nd0:q0.Nodup:=(Z1p.mp W1.nd).1
      exact Z1p.mpr ⟨nd0,hnd3,fun a ha b hb z=>hn3 b hb (by rw [←z];exact(W1.un a (by simp [ha])).1)⟩
     ·rcases Z0m.mp hp with hp |hp
      ·obtain⟨u1,u2⟩:=W1.un p (by simp [hp])
       refine⟨(ht3 _ _).mpr (.inl u1),fun e h=>?_⟩
       rcases(d3 _ _ _).mp h with h |⟨h1,h2,_⟩
       ·exact u2 e h
       ·have:p=(x,t):=by rw [←h1,←h2]
        rw [this]at hp
        exact hxq hp
      ·refine⟨(ht3 _ _).mpr (.inr hp),fun e h=>?_⟩
       rcases(d3 _ _ _).mp h with h |⟨h1,h2,_⟩
       ·exact hn3 p hp (S1.ok.d1 _ _ _ h).1
       ·have:p=(x,t):=by rw [←h1,←h2]
        exact hn3 p hp (by rw [this];exact un.1)
     ·rcases(ht3 z u).mp hz with h |h
      ·rcases W1.dn z u h with h2 |h2
       ·rcases Z0m.mp h2 with h2 |h2
        ·exact .inl (Z0M _ h2)
        ·right
         intro e y he hec hj hro
         have h2:=Z0l.mp h2
         injection h2 with h3 h4
         subst h3 h4
         exact(d3 _ _ _).mpr (.inr ⟨rfl,rfl,hec,hro,he,y,hj⟩)
       ·exact .inr fun e y he hec hj hro=>(d3 _ _ _).mpr (.inl (h2 e y he hec hj hro))
      ·exact .inl (Z0L _ h)
  ·rintro σ H1 Q1 Q2 hq ⟨v,e,a,C,dx,fs,v',h1,h2,h3,h4,h5,k',h6,q'⟩
   exact⟨v,e,a,C,dx,fs,v',h1,h2,h3,h4,h5,k',h6,hq _ _ q'⟩
end
def bf(a b o sd:Int):List (Str×V):=[("a",.int a),("b",.int b),("order",.int o),("side",.int sd)]
theorem bf_a(a b o sd:Int):(bf a b o sd).lookup ("a" : Str)=some (.int a):=by
 unfold bf;rw [Z0c,show(("a" : Str)=="a")=true by decide]
theorem bf_b(a b o sd:Int):(bf a b o sd).lookup ("b" : Str)=some (.int b):=by
 unfold bf;rw [Z0c,show(("b" : Str)=="a")=false by decide,Z0c,show(("b" : Str)=="b")=true by decide]
theorem Z6V(a b o sd:Int):(bf a b o sd).lookup ("order" : Str)=some (.int o):=by
 unfold bf;rw [Z0c,show(("order" : Str)=="a")=false by decide,Z0c,show(("order" : Str)=="b")=false by decide,Z0c,show(("order" : Str)=="order")=true by decide]
theorem bf_side(a b o sd:Int):(bf a b o sd).lookup ("side" : Str)=some (.int sd):=by
 unfold bf;rw [Z0c,show(("side" : Str)=="a")=false by decide,Z0c,show(("side" : Str)=="b")=false by decide,Z0c,show(("side" : Str)=="order")=false by decide,Z0c,show(("side" : Str)=="side")=true by decide]
def BondAt(CB:Addr)(H:Hp)(r:Addr)(a b:Nat)(o sd:Int):Prop:=∃ dx,H r=some (.ins CB dx (bf a b o sd))
structure TBd(K:Z0a)(CB:Addr):Prop where
 cl:Cls K CB
 na:NoAttr K CB "a"
 nb:NoAttr K CB "b"
 no:NoAttr K CB "order"
 ns:NoAttr K CB "side"
structure Bds(CB:Addr)(G:MX.Gr)(H:Hp)(bl:Addr)(bs:List Addr)(sd:Nat→Int):Prop where
 top:H bl=some (.lst (bs.map V.ref))
 len:bs.length=G.m
 bond:∀ e r,bs[e]?=some r→BondAt CB H r (G.bd e).a (G.bd e).b (G.bd e).o (sd e)
theorem Bds.same{CB:Addr}{G:MX.Gr}{H H':Hp}{bl:Addr}{bs:List Addr}{sd:Nat→Int}(h:Bds CB G H bl bs sd)(s:L2.Same H H'):Bds CB G H' bl bs sd :=
 ⟨s _ _ h.top,h.len,fun e r z=>let ⟨dx,q⟩:=h.bond e r z;⟨dx,s _ _ q⟩⟩
structure Wys0(CW:Addr)(G:MX.Gr)(H:Hp)(wl:Addr)(ls:List Addr)(ws:Nat→List Addr)(E:Nat→List (Nat×Nat)):Prop where
 top:H wl=some (.lst (ls.map V.ref))
 len:ls.length=G.n
 row:∀ (x:Nat) l,ls[x]?=some l→H l=some (.lst ((ws x).map V.ref))
 wln:∀ x,x<G.n→(ws x).length=(E x).length
 way:∀ (x j:Nat) r p,x<G.n→(ws x)[j]?=some r→(E x)[j]?=some p→WayAt CW H r p.1 p.2 (G.bd p.1).o
 cov:∀ x e y,x<G.n→((e,y)∈E x↔e<G.m∧MX.Jn (G.bd e) x y)
 unq:∀ x,x<G.n→((E x).map (·.1)).Nodup
theorem Wys0.same{CW:Addr}{G:MX.Gr}{H H':Hp}{wl:Addr}{ls:List Addr}{ws:Nat→List Addr}{E:Nat→List (Nat×Nat)}(h:Wys0 CW G H wl ls ws E)(s:L2.Same H H'):Wys0 CW G H' wl ls ws E :=
 ⟨s _ _ h.top,h.len,fun x l e=>s _ _ (h.row x l e),h.wln,fun x j r p hx e1 e2=>let ⟨dx,d,kvs,a,b,c⟩:=h.way x j r p hx e1 e2;⟨dx,d,kvs,s _ _ a,s _ _ b,c⟩,h.cov,h.unq⟩
theorem Wys0.wys{CW:Addr}{A:SA}{G:MX.Gr}{H H':Hp}{ls:List Addr}{ws:Nat→List Addr}{E:Nat→List (Nat×Nat)}(h:Wys0 CW G H A.wl ls ws E)(new:∀ b∈A.mut,H b=none)(s:L2.Same H H'):Wys CW A G H' ls ws E:=by
 have off:∀ {b:Addr}{o:HO},H b=some o→b∉A.mut:=fun e hb=>by rw [new _ hb]at e;cases e
 refine⟨s _ _ h.top,off h.top,h.len,fun x l e=>⟨s _ _ (h.row x l e),off (h.row x l e)⟩,h.wln,fun x j r p hx e1 e2=>?_,h.cov,h.unq⟩
 obtain⟨dx,d,kvs,a,b,c⟩:=h.way x j r p hx e1 e2
 refine⟨⟨dx,d,kvs,s _ _ a,s _ _ b,c⟩,off a,fun dx' fs' d' h1 h2=>?_⟩
 rw [s _ _ a]at h1
 cases h1
 rw [Z5L]at h2
 cases h2
 exact off b
section
variable{P:Program}{w:World}{K:Z0a}{mg:Str→Option Value}{base:Heap}{CS CW CB:Addr}
def spSI(CS:Addr):Sp:=fun vs H Q _=>∃ (sr dx wl:Addr)(c:Nat),vs=[.ref sr,.ref wl,.int (c:Int)]∧H sr=some (.ins CS dx []) ∧
 ∀ (H':Hp)(A:SA),A.sr=sr→A.dx=dx→A.wl=wl→H' sr=some (.ins CS dx (A.flds c))→H' A.db=some (.dK [(.inl (-1),.int (-1))])→H' A.cb=some (.dK [])→H' A.cf=some (.dK [])→H' A.tn=some (.dT [])→H' A.wq=some (.lst []) →
  A.mut.Nodup→(∀ b∈A.mut,H b=none)→Only sr H H'→Q .non H'
theorem scSI:Z2v ["self","ways","cut"] ["self","ways","cut"] (Z2r Z4w):=⟨rfl,rfl,rfl,by decide +kernel,rfl,by decide +kernel,by decide +kernel⟩
theorem okSI{f:Addr}{fd:FuncData}(F:Fun K "__init__" "Search.__init__" Z4w f fd)(T:TS7 K mg CS):FnOk P w K mg base CX0 1 f fd ["self","ways","cut"] (spSI CS):=by
 refine F.ok scSI (fun vs H Q E h=>?_) (fun cdv A' outer s' H vs Q E hr h=>?_)
 ·obtain⟨sr,dx,wl,c,rfl,_⟩:=h
  rfl
 ·obtain⟨sr,dx,wl,c,rfl,ho,k⟩:=h
  refine⟨_,Z2o (Z2N (pv 0) (pv 1) rfl) (Z2o (Z2N (pv 0) (pv 2) rfl)
   (Z2o (Z2N (pv 0) (Z7Y (Z5i (pe_gc rfl T.md) (pe_gc rfl T.md) Z7R) rfl rfl (by decide) (by decide)) rfl)
   (Z2o (Z2N (pv 0) Z8J rfl) (Z2o (Z2N (pv 0) Z8J rfl) (Z2o (Z2N (pv 0) pe_dnewT rfl) (Z2s (Z2N (pv 0) (Z3B Z2q) rfl))))))),?_⟩
  refine⟨_,rfl,_,rfl,sr,CS,dx,[],rfl,ho,T.cl,T.nw,(by show 0<1000;decide),?_⟩
  refine⟨_,rfl,_,rfl,sr,CS,dx,_,rfl,Z2n,T.cl,T.nc,(by show 1<1000;decide),?_⟩
  rw [Z3a]
  intro db hdb
  refine⟨Z2n,[(.inl (-1),.int (-1))],rfl,(by show 1≤15;decide),?_⟩
  rw [Z3a]
  have n1:sr≠db:=Z2p Z2n hdb
  refine⟨_,rfl,sr,CS,dx,_,rfl,by rw [Z2m n1,Z2n],T.cl,T.nb,(by show 2<1000;decide),?_⟩
  intro cb hcb
  have n2:sr≠cb:=Z2p Z2n hcb
  have n2':db≠cb:=fun z=>by rw [←z,Z2m (Ne.symm n1),Z2n]at hcb;cases hcb
  refine⟨_,rfl,sr,CS,dx,_,rfl,by rw [Z2m n2,Z2n],T.cl,T.ny,(by show 3<1000;decide),?_⟩
  intro cf hcf
  have n3:sr≠cf:=Z2p Z2n hcf
  have n3':cb≠cf:=fun z=>by rw [←z,Z2m (Ne.symm n2),Z2n]at hcf;cases hcf
  have n3'':db≠cf:=fun z=>by rw [←z,Z2m (Ne.symm n1),Z2m n2',Z2m (Ne.symm n1),Z2n]at hcf;cases hcf
  refine⟨_,rfl,sr,CS,dx,_,rfl,by rw [Z2m n3,Z2n],T.cl,T.nf,(by show 4<1000;decide),?_⟩
  intro tn htn
  have n4:sr≠tn:=Z2p Z2n htn
  have n4a:cf≠tn:=fun z=>by rw [←z,Z2m (Ne.symm n3),Z2n]at htn;cases htn
  have n4b:cb≠tn:=fun z=>by rw [←z,Z2m (Ne.symm n2),Z2m n3',Z2m (Ne.symm n2),Z2n]at htn;cases htn
  have n4c:db≠tn:=fun z=>by rw [←z,Z2m (Ne.symm n1),Z2m n3'',Z2m (Ne.symm n1),Z2m n2',Z2m (Ne.symm n1),Z2n]at htn;cases htn
  refine⟨_,rfl,sr,CS,dx,_,rfl,by rw [Z2m n4,Z2n],T.cl,T.nt,(by show 5<1000;decide),?_⟩
  refine⟨Z0p _,fun wq hwq=>?_⟩
  have n5:sr≠wq:=Z2p Z2n hwq
  have n5a:tn≠wq:=fun z=>by rw [←z,Z2m (Ne.symm n4),Z2n]at hwq;cases hwq
  have n5b:cf≠wq:=fun z=>by rw [←z,Z2m (Ne.symm n3),Z2m n4a,Z2m (Ne.symm n3),Z2n]at hwq;cases hwq
  have n5c:cb≠wq:=fun z=>by rw [←z,Z2m (Ne.symm n2),Z2m n4b,Z2m (Ne.symm n2),Z2m n3',Z2m (Ne.symm n2),Z2n]at hwq;cases hwq
  have n5d:db≠wq:=fun z=>by rw [←z,Z2m (Ne.symm n1),Z2m n4c,Z2m (Ne.symm n1),Z2m n3'',Z2m (Ne.symm n1),Z2m n2',Z2m (Ne.symm n1),Z2n]at hwq;cases hwq
  refine⟨_,rfl,sr,CS,dx,_,rfl,by rw [Z2m n5,Z2n],T.cl,T.nq,(by show 6<1000;decide),?_⟩
  have free:∀ {b:Addr}{o:HO}{H1:Hp},(L2.upd H1 sr o) b=none→b≠sr∧H1 b=none:=fun{b o H1} h=>by
   have e:b≠sr:=fun z=>by rw [z,Z2n]at h;cases h
   exact⟨e,by rw [Z2m e]at h;exact h⟩
  refine k _ ⟨sr,dx,wl,db,cb,cf,tn,wq⟩ rfl rfl rfl ?_ ?_ ?_ ?_ ?_ ?_ ?_ ?_ ?_
  ·rw [Z2n];rfl
  ·rw [Z2m (Ne.symm n1),Z2m n5d,Z2m (Ne.symm n1),Z2m n4c,Z2m (Ne.symm n1),Z2m n3'',Z2m (Ne.symm n1),Z2m n2',Z2m (Ne.symm n1),Z2n];rfl
  ·rw [Z2m (Ne.symm n2),Z2m n5c,Z2m (Ne.symm n2),Z2m n4b,Z2m (Ne.symm n2),Z2m n3',Z2m (Ne.symm n2),Z2n]
  ·rw [Z2m (Ne.symm n3),Z2m n5b,Z2m (Ne.symm n3),Z2m n4a,Z2m (Ne.symm n3),Z2n]
  ·rw [Z2m (Ne.symm n4),Z2m n5a,Z2m (Ne.symm n4),Z2n]
  ·rw [Z2m (Ne.symm n5),Z2n]
  ·simp only [Z0N,Z0e,Z0y,or_false,not_or]
   exact⟨⟨n2',n3'',n4c,n5d⟩,⟨n3',n4b,n5c⟩,⟨n4a,n5b⟩,n5a,not_false,Z1N⟩
  ·intro b hb
   simp only [Z0e,Z0y,or_false]at hb
   rcases hb with rfl |rfl |rfl |rfl |rfl
   ·exact(free hdb).2
   ·have:=(free hcb).2;rw [Z2m (Ne.symm n2')]at this;exact(free this).2
   ·have:=(free hcf).2;rw [Z2m (Ne.symm n3')]at this;have:=(free this).2;rw [Z2m (Ne.symm n3'')]at this;exact(free this).2
   ·have:=(free htn).2;rw [Z2m (Ne.symm n4a)]at this;have:=(free this).2;rw [Z2m (Ne.symm n4b)]at this;have:=(free this).2;rw [Z2m (Ne.symm n4c)]at this;exact(free this).2
   ·have:=(free hwq).2;rw [Z2m (Ne.symm n5a)]at this;have:=(free this).2;rw [Z2m (Ne.symm n5b)]at this;have:=(free this).2;rw [Z2m (Ne.symm n5c)]at this;have:=(free this).2;rw [Z2m (Ne.symm n5d)]at this;exact(free this).2
  ·exact(((((((((((Only.refl sr H).trans (Only.upd _)).new hdb).trans (Only.upd _)).new hcb).trans (Only.upd _)).new hcf).trans (Only.upd _)).new htn).trans (Only.upd _)).new hwq).trans (Only.upd _)
end
def s00(c:Nat)(T:Int):MX.S where
 re:=fun _=>False
 root:=fun x=>x
 rk:=fun _=>1
 nx:=0
 cb:=fun _=>c
 cf:=fun _=>none
 ar:=fun _=>T
 tn:=fun _ _=>False
 dn:=fun _ _ _=>False
section
variable{P:Program}{w:World}{K:Z0a}{mg:Str→Option Value}{base:Heap}{CS CW CB:Addr}
def spGo(CW CB:Addr):Sp:=fun vs H Q _=>∃ (wl bl:Addr)(c:Nat)(T:Int)(G:MX.Gr)(ls:List Addr)(ws:Nat→List Addr)(E:Nat→List (Nat×Nat))(bs:List Addr)(sd:Nat→Int),vs=[.ref wl,.ref bl,.int (c:Int),.int T]∧Wys0 CW G H wl ls ws E∧Bds CB G H bl bs sd ∧
 G.Ok∧G.n≤128∧c<G.m∧(G.bd c).o=2∧(T=1∨T=-1)∧∀ (b:Bool) H',L2.Same H H'→(b=true↔∃ δ,G.Chg δ∧δ c=T)→Q (.bl b) H'
theorem scGo:Z2v ["ways","bonds","number","turn","search"] ["ways","bonds","number","turn"] (Z2r Z6l):=⟨rfl,rfl,rfl,by decide +kernel,rfl,by decide +kernel,by decide +kernel⟩
theorem okGo{f fI fR fB:Addr}{fd fdI fdR fdB:FuncData}(F:Fun K "can_go" "can_go" Z6l f fd)(T:TS7 K mg CS)(B:TBd K CB)(M:Mk K CS fI)(hC:mg "Search" = some (.ref CS))
  (GI:FnOk P w K mg base CX0 1 fI fdI ["self","ways","cut"] (spSI CS))(bI:Binds K fdI ["self","ways","cut"] [])
  (GR:FnOk P w K mg base CX0 2 fR fdR ["self","atom","before","bond","turn"] (Z7W CS))(mR:Meth K CS "reach" fR)(bR:Binds K fdR ["self","atom","before","bond","turn"] [])
  (GB:FnOk P w K mg base CX0 6 fB fdB ["self"] (spBack CS CW))(mB:Meth K CS "comes_back" fB)(bB:Binds K fdB ["self"] []) :
  FnOk P w K mg base CX0 7 f fd ["ways","bonds","number","turn"] (spGo CW CB):=by
 refine F.ok scGo (fun vs H Q E h=>?_) (fun cdv A' outer s' H vs Q E' hr h=>?_)
 ·obtain⟨wl,bl,c,T',G,ls,ws,E,bs,sd,rfl,_⟩:=h
  rfl
 ·obtain⟨wl,bl,c,T',G,ls,ws,E,bs,sd,rfl,Y,D,hG,hn,hc,ho,hT,k⟩:=h
  have hr2:Room 2 _:=hr.mono (by decide)
  refine⟨_,Z2o (Z2w (i:=4) scGo.nd rfl (Or.inl rfl) (Z3M M GI hr2 rfl hC bI .nil pass0 (Z2l (pv 0) (Z2l (pv 2) Z2q))))
   (Z2o (Z2K (Z2A (pv 4) T.cl mR GR hr2 bR .nil pass0 (Z2l (Z2u (pe_ix Z2Z (pv 1) (pv 2) (fun _ _=>rfl)) rfl) (Z2l (pe_gc rfl T.md) (Z2l (pv 2) (Z2l (pe_un Z9d (pv 3)) Z2q))))))
   (Z2o (Z2K (Z2A (pv 4) T.cl mR GR hr2 bR .nil pass0 (Z2l (Z2u (pe_ix Z2Z (pv 1) (pv 2) (fun _ _=>rfl)) rfl) (Z2l (pe_gc rfl T.md) (Z2l (pv 2) (Z2l (pe_un Z9d (pv 3)) Z2q))))))
   (Z2s (Z2y (Z7f (pv 4) T.cl mB GB hr bB .nil pass0))))),?_⟩
  refine⟨_,rfl,_,rfl,fun x dx nx nd ndx=>⟨x,dx,wl,c,rfl,Z2n,fun H1 A e1 e2 e3 g1 g2 g3 g4 g5 g6 nod new o1=>⟨rfl,?_⟩⟩⟩
  subst e1 e2 e3
  have new0:∀ b∈A.mut,H b=none:=fun b hb=>by
   have:=new b hb
   cases q:H b with
   |none=>rfl
   |some o =>
    rw [Z2m (Z2p q nx),Z2m (Z2p q nd),q]at this;cases this
  have s1:L2.Same H H1:=fun b o e=>o1 b o (by rw [Z2m (Z2p e nx),Z2m (Z2p e nd)];exact e) (Z2p e nx)
  have R1:Rep CS G.n H1 A c (s00 c T') [] 0 1:=by
   refine⟨g1,⟨_,g2,⟨rfl,fun x h=>h.elim,fun x _=>?_⟩,Z0d _⟩,⟨_,g3,fun x h=>h.elim,Z0p _⟩,⟨_,g4,fun x h=>h.elim,Z0p _⟩,⟨_,g5,fun x t=>⟨fun z=>?_,fun z=>z.elim⟩,Z0d _⟩,⟨[],g6,rfl,fun j t m a b=>?_⟩,Z0d _,?_,by decide,hn,nod⟩
   ·unfold valV;rw [List.find?_cons_of_neg (by simp only [decide_eq_true_eq];rw [Z3k];omega)];rfl
   ·cases z
   ·cases a
   ·unfold MX.miss
    have a1:=MX.cnt_le G.n (fun x=>¬ (s00 c T').tn x 1)
    have a2:=MX.cnt_le G.n (fun x=>¬ (s00 c T').tn x (-1))
    omega
  have sF:∀ {H'},Frm A H1 H'→L2.Same H H':=fun fr b o e=>fr b o (s1 b o e) fun hb=>by rw [new0 b hb]at e;cases e
  have lc:c<bs.length:=by rw [D.len];exact hc
  have bc:bs[c]?=some bs[c]:=Z0j lc
  have bc':(bs.map V.ref)[c]?=some (.ref bs[c]):=by rw [Z0k,bc];rfl
  have D1:=D.same s1
  obtain⟨db1,hb1⟩:=D1.bond c _ bc
  refine⟨_,rfl,A.sr,A.dx,_,rfl,R1.obj,sno,_,rfl,_,rfl,bl,_,_,_,rfl,rfl,SqL.of D1.top,Z3b bc',bs[c],CB,db1,_,_,rfl,hb1,B.cl,B.na,bf_a _ _ _ _,_,rfl,_,rfl,_,rfl,
   A,G.n,c,0,1,s00 c T',[],(G.bd c).a,c,-1,-T',none,rfl,R1,by decide,hG.an c hc,id,fun x v h=>h.elim,fun x h=>h.elim,by omega,rfl,fun H2 q2 N2 f2 R2 hN2 e2=>?_⟩
  subst hN2
  have D2:=D.same (sF f2)
  obtain⟨db2,hb2⟩:=D2.bond c _ bc
  refine⟨_,rfl,A.sr,A.dx,_,rfl,R2.obj,sno,_,rfl,_,rfl,bl,_,_,_,rfl,rfl,SqL.of D2.top,Z3b bc',bs[c],CB,db2,_,_,rfl,hb2,B.cl,B.nb,bf_b _ _ _ _,_,rfl,_,rfl,_,rfl,
   A,G.n,c,_,_,_,q2,(G.bd c).b,c,-1,-T',none,rfl,R2,by decide,hG.bn c hc,?n1,?n2,?n3,by omega,rfl,fun H3 q3 N3 f3 R3 hN3 e3=>?_⟩
  case n1=>exact fun h=>Or.elim h id fun z=>hG.ne c hc z.symm
  case n2=>exact fun x v h=>.inr (Or.elim h False.elim fun z=>z.1)
  case n3 =>
   intro x h
   right
   show(if x=(G.bd c).a then(G.bd c).a else x)=(G.bd c).a
   rcases h with h |h
   ·exact h.elim
   ·rw [if_pos h]
  subst hN3
  have fr3:=f2.trans f3
  have hab:=hG.ne c hc
  have R4:Rep CS G.n H3 A c (MX.S.start G c T') q3 2 3:=by
   refine R3.congr ?_ ?_ ?_ ?_ ?_ ?_
   ·funext z
    exact propext ⟨fun h=>h.elim (fun h=>.inl (.inr h)) .inr,fun h=>h.elim (fun h=>h.elim False.elim .inl) .inr⟩
   ·funext z
    show z=if z=(G.bd c).b then(G.bd c).b else if z=(G.bd c).a then(G.bd c).a else z
    split
    ·assumption
    ·split
     ·assumption
     ·rfl
   ·funext z
    show(if z=(G.bd c).a then 0 else 1)=if z=(G.bd c).b then 1 else if z=(G.bd c).a then 0 else 1
    by_cases h:z=(G.bd c).b
    ·rw [if_pos h,if_neg (by rw [h];exact Ne.symm hab)]
    ·rw [if_neg h]
   ·funext z
    show c=if z=(G.bd c).b then c else if z=(G.bd c).a then c else c
    simp
   ·funext z
    show none=if z=(G.bd c).b then none else if z=(G.bd c).a then none else none
    simp
   ·funext z u
    show((z=(G.bd c).a∨z=(G.bd c).b)∧u=-T')=((False∨(z=(G.bd c).a∧u=-T'))∨(z=(G.bd c).b∧u=-T'))
    refine propext ⟨fun⟨h1,h2⟩=>h1.elim (fun h=>.inl (.inr ⟨h,h2⟩)) fun h=>.inr ⟨h,h2⟩,fun h=>?_⟩
    rcases h with(h |⟨h1,h2⟩) |⟨h1,h2⟩
    ·exact h.elim
    ·exact⟨.inl h1,h2⟩
    ·exact⟨.inr h1,h2⟩
  have ex:Ext (s00 c T') [] (MX.S.start G c T') q3:=(e2.trans e3).tn (by
    funext z u
    show((z=(G.bd c).a∨z=(G.bd c).b)∧u=-T')=((False∨(z=(G.bd c).a∧u=-T'))∨(z=(G.bd c).b∧u=-T'))
    refine propext ⟨fun⟨h1,h2⟩=>h1.elim (fun h=>.inl (.inr ⟨h,h2⟩)) fun h=>.inr ⟨h,h2⟩,fun h=>?_⟩
    rcases h with(h |⟨h1,h2⟩) |⟨h1,h2⟩
    ·exact h.elim
    ·exact⟨.inl h1,h2⟩
    ·exact⟨.inr h1,h2⟩)
  obtain⟨r,hr',ht',hn',hd'⟩:=ex
  have hr'':q3=r:=by rw [hr'];rfl
  subst hr''
  have Wt0:Wt G c (MX.S.start G c T') q3:=⟨hd',fun p hp=>⟨(ht' _ _).mpr (.inr hp),fun e h=>h.elim⟩,fun x t h=>.inl ((ht' x t).mp h |>.elim False.elim id)⟩
  have S4:Stb G G.n c T' (MX.S.start G c T') 2 3:=⟨MX.start_ok hG hc hT,hG,rfl,hc,ho,hT,by decide,by show 2≤2;decide⟩
  refine⟨_,rfl,A.sr,A.dx,_,rfl,R4.obj,sno,A,G.n,c,2,3,_,q3,G,T',ls,ws,E,rfl,R4,S4,Y.wys new0 (sF fr3),Wt0,fun b H4 f4 hb=>?_⟩
  exact k b H4 (sF (fr3.trans f4)) hb
def spFix(CW CB:Addr):Sp:=fun vs H Q _=>∃ (wl bl:Addr)(c:Nat)(G:MX.Gr)(ls:List Addr)(ws:Nat→List Addr)(E:Nat→List (Nat×Nat))(bs:List Addr)(sd:Nat→Int),vs=[.ref wl,.ref bl,.int (c:Int)]∧Wys0 CW G H wl ls ws E∧Bds CB G H bl bs sd ∧
 G.Ok∧G.n≤128∧c<G.m∧(G.bd c).o=2∧∀ (b:Bool) H',L2.Same H H'→(b=true↔∀ δ,G.Chg δ→δ c=0)→Q (.bl b) H'
theorem scFix:Z2v ["ways","bonds","number"] ["ways","bonds","number"] (Z2r Z3J):=⟨rfl,rfl,rfl,by decide +kernel,rfl,by decide +kernel,by decide +kernel⟩
theorem okFix{f fG:Addr}{fd fdG:FuncData}(F:Fun K "is_fixed_double" "is_fixed_double" Z3J f fd)(T:TS7 K mg CS)
  (GG:FnOk P w K mg base CX0 7 fG fdG ["ways","bonds","number","turn"] (spGo CW CB))(mG:mg "can_go" = some (.ref fG))(kG:PySem.W.keepIn K (.ref fG)=true)(bG:Binds K fdG ["ways","bonds","number","turn"] []) :
  FnOk P w K mg base CX0 8 f fd ["ways","bonds","number"] (spFix CW CB):=by
 refine F.ok scFix (fun vs H Q E h=>?_) (fun cdv A' outer s' H vs Q E' hr h=>?_)
 ·obtain⟨wl,bl,c,G,ls,ws,E,bs,sd,rfl,_⟩:=h
  rfl
 ·obtain⟨wl,bl,c,G,ls,ws,E,bs,sd,rfl,Y,D,hG,hn,hc,ho,k⟩:=h
  refine⟨_,Z2s (Z2y (Z6y (pe_not (Z2B GG hr rfl mG kG bG .nil pass0 (Z2l (pv 0) (Z2l (pv 1) (Z2l (pv 2) (Z2l (pe_gc rfl T.up) Z2q)))))) (Z7D (pe_not (Z2B GG hr rfl mG kG bG .nil pass0 (Z2l (pv 0) (Z2l (pv 1) (Z2l (pv 2) (Z2l (pe_gc rfl T.dn) Z2q))))))))),?_⟩
  have key:(∀ δ,G.Chg δ→δ c=0)↔¬ (∃ δ,G.Chg δ∧δ c=1)∧¬ (∃ δ,G.Chg δ∧δ c=-1):=by
   refine⟨fun h=>⟨fun⟨δ,a,b⟩=>?_,fun⟨δ,a,b⟩=>?_⟩,fun⟨h1,h2⟩ δ hδ=>?_⟩
   ·rw [h δ a]at b;cases b
   ·rw [h δ a]at b;cases b
   ·have u:=hδ.up c hc
    have d:=hδ.dn c hc
    have n1:δ c≠1:=fun z=>h1 ⟨δ,hδ,z⟩
    have n2:δ c≠-1:=fun z=>h2 ⟨δ,hδ,z⟩
    omega
  refine⟨_,rfl,_,rfl,_,rfl,wl,bl,c,1,G,ls,ws,E,bs,sd,rfl,Y,D,hG,hn,hc,ho,.inl rfl,fun b H1 s1 hb=>⟨_,rfl,_,rfl,ite2 (fun h=>?_) (fun h=>?_)⟩⟩
  ·refine⟨_,rfl,_,rfl,_,rfl,wl,bl,c,-1,G,ls,ws,E,bs,sd,rfl,Y.same s1,D.same s1,hG,hn,hc,ho,.inr rfl,fun b2 H2 s2 hb2=>⟨_,rfl,k _ H2 (fun a o e=>s2 a o (s1 a o e)) ?_⟩⟩
   rw [key,←hb,←hb2]
   cases b with
   |true=>cases h
   |false=>cases b2<;>simp
  ·refine k false H1 s1 ?_
   rw [key,←hb]
   cases b with
   |true=>simp
   |false=>exact absurd rfl h
end
end BK
end
section
namespace MX
def Gr.at_(G:Gr):Nat→Nat→List (Nat×Nat)
 |0,_=>[]
 |i+1,x=>(G.at_ i x++if x=(G.bd i).a then[(i,(G.bd i).b)]else[])++if x=(G.bd i).b then[(i,(G.bd i).a)]else[]
theorem Gr.mem_at(G:Gr)(x e y:Nat):∀ i,(e,y)∈G.at_ i x↔e<i∧Jn (G.bd e) x y
 |0=>by unfold Gr.at_;simp
 |i+1=>by
  unfold Gr.at_ Jn
  rw [Z0m,Z0m,G.mem_at x e y i]
  have h1:(e,y)∈(if x=(G.bd i).a then[(i,(G.bd i).b)]else[])↔x=(G.bd i).a∧e=i∧y=(G.bd i).b:=by
   split<;>simp_all
  have h2:(e,y)∈(if x=(G.bd i).b then[(i,(G.bd i).a)]else[])↔x=(G.bd i).b∧e=i∧y=(G.bd i).a:=by
   split<;>simp_all
  rw [h1,h2]
  unfold Jn
  constructor
  ·rintro((⟨h,k⟩ |⟨a,rfl,c⟩) |⟨a,rfl,c⟩)
   ·exact⟨by omega,k⟩
   ·exact⟨by omega,.inl ⟨a.symm,c.symm⟩⟩
   ·exact⟨by omega,.inr ⟨a.symm,c.symm⟩⟩
  ·rintro⟨h,k⟩
   by_cases z:e<i
   ·exact .inl (.inl ⟨z,k⟩)
   ·have:e=i:=by omega
    subst this
    rcases k with⟨a,c⟩ |⟨a,c⟩
    ·exact .inl (.inr ⟨a.symm,rfl,c.symm⟩)
    ·exact .inr ⟨a.symm,rfl,c.symm⟩
theorem Gr.at_nd(G:Gr)(x:Nat):∀ i,(∀ e,e<i→(G.bd e).a≠(G.bd e).b)→((G.at_ i x).map (·.1)).Nodup
 |0,_=>by unfold Gr.at_;simp
 |i+1,h=>by
  have ih:=G.at_nd x i fun e he=>h e (by omega)
  have hi:=h i (by omega)
  have lt:∀ e∈(G.at_ i x).map (·.1),e<i:=fun e he=>by
   obtain⟨⟨e',y'⟩,hp,rfl⟩:=Z0H.mp he
   exact((G.mem_at x e' y' i).mp hp).1
  unfold Gr.at_
  have fin:∀ y:Nat,((G.at_ i x++[(i,y)]).map (·.1)).Nodup:=fun y=>by
   rw [Z0z]
   refine Z1p.mpr ⟨ih,by simp,fun a ha b hb z=>?_⟩
   have:=lt a ha
   simp at hb
   omega
  by_cases q1:x=(G.bd i).a
  ·have q2:x≠(G.bd i).b:=fun z=>hi (by rw [←q1,←z])
   rw [if_pos q1,if_neg q2,Z0F];exact fin _
  ·rw [if_neg q1,Z0F]
   by_cases q2:x=(G.bd i).b
   ·rw [if_pos q2];exact fin _
   ·rw [if_neg q2,Z0F];exact ih
theorem Gr.at_len(G:Gr)(x:Nat):∀ i,(G.at_ i x).length≤2*i
 |0=>by unfold Gr.at_;simp
 |i+1=>by
  have:=G.at_len x i
  unfold Gr.at_
  rw [Z0x,Z0x]
  split<;>split<;>simp<;>omega
end MX
namespace BK
open PySem PySem.Spec PyProof.Rows L2 EX RD LM
structure Rws(CW:Addr)(G:MX.Gr)(H:Hp)(wl:Addr)(ls:List Addr)(ws:Nat→List Addr)(E:Nat→List (Nat×Nat)):Prop where
 top:H wl=some (.lst (ls.map V.ref))
 nd:ls.Nodup
 tn:wl∉ls
 row:∀ (x:Nat) l,ls[x]?=some l→H l=some (.lst ((ws x).map V.ref))
 wln:∀ x,(ws x).length=(E x).length
 way:∀ (x j:Nat) r p,(ws x)[j]?=some r→(E x)[j]?=some p→WayAt CW H r p.1 p.2 (G.bd p.1).o
theorem WayAt.same{CW:Addr}{H H':Hp}{r:Addr}{e y:Nat}{o:Int}(h:WayAt CW H r e y o)(s:L2.Same H H'):WayAt CW H' r e y o :=
 let ⟨dx,d,kvs,a,b,c⟩:=h;⟨dx,d,kvs,s _ _ a,s _ _ b,c⟩
theorem WayAt.upd{CW:Addr}{H:Hp}{r l:Addr}{e y:Nat}{o:Int}{xs ys:List V}(h:WayAt CW H r e y o)(hl:H l=some (.lst xs)):WayAt CW (L2.upd H l (.lst ys)) r e y o :=
 let ⟨dx,d,kvs,a,b,c⟩:=h;⟨dx,d,kvs,by rw [Z2m (ne_of a hl (by intro z;cases z))];exact a,by rw [Z2m (ne_of b hl (by intro z;cases z))];exact b,c⟩
theorem Rws.same{CW:Addr}{G:MX.Gr}{H H':Hp}{wl:Addr}{ls:List Addr}{ws:Nat→List Addr}{E:Nat→List (Nat×Nat)}(h:Rws CW G H wl ls ws E)(s:L2.Same H H'):Rws CW G H' wl ls ws E :=
 ⟨s _ _ h.top,h.nd,h.tn,fun x l e=>s _ _ (h.row x l e),h.wln,fun x j r p e1 e2=>(h.way x j r p e1 e2).same s⟩
theorem Rws.app{CW:Addr}{G:MX.Gr}{H:Hp}{wl l r:Addr}{ls:List Addr}{ws:Nat→List Addr}{E:Nat→List (Nat×Nat)}{x e y:Nat}(h:Rws CW G H wl ls ws E)(hl:ls[x]?=some l)(hw:WayAt CW H r e y (G.bd e).o) :
  Rws CW G (upd H l (.lst ((ws x).map V.ref++[.ref r]))) wl ls (fun z=>if z=x then ws x++[r]else ws z) (fun z=>if z=x then E x++[(e,y)]else E z):=by
 have hlH:=h.row x l hl
 refine⟨?_,h.nd,h.tn,fun z l' e'=>?_,fun z=>?_,fun z j r' p e1 e2=>?_⟩
 ·rw [Z2m (fun z=>h.tn (by rw [z];exact Z0u hl))];exact h.top
 ·by_cases q:z=x
  ·subst q
   rw [hl]at e'
   cases e'
   rw [Z2n,if_pos rfl,Z0z];rfl
  ·rw [if_neg q,Z2m]
   ·exact h.row z l' e'
   ·rintro rfl
    exact q ((List.getElem?_inj (Z0r.mp e').1 h.nd).mp (e'.trans hl.symm))
 ·split
  ·rw [Z0x,Z0x,h.wln x];rfl
  ·exact h.wln z
 ·by_cases q:z=x
  ·subst q
   rw [if_pos rfl]at e1 e2
   have ll:=h.wln z
   by_cases lt:j<(ws z).length
   ·rw [Z0S lt]at e1
    rw [Z0S (by omega)]at e2
    exact(h.way z j r' p e1 e2).upd hlH
   ·have l1:=(Z0r.mp e1).1
    rw [Z0x,Z2f]at l1
    have:j=(ws z).length:=by omega
    subst this
    rw [Z1l (Z0d _),Z0W]at e1
    rw [ll,Z1l (Z0d _),Z0W]at e2
    cases e1
    cases e2
    exact hw.upd hlH
  ·rw [if_neg q]at e1 e2
   exact(h.way z j r' p e1 e2).upd hlH
def Z7X(b:List Stmt):Scope:=match b.findSome? (fun x=>match x with |.Assign _ (.ListComp _ _ sc _) _=>some sc |_=>none)with
 |some sc=>sc
 |none=>{ kind:=.function,names:=[],isGenerator:=false,isCoroutine:=false }
section
variable{P:Program}{w:World}{K:Z0a}{mg:Str→Option Value}{base:Heap}{CS CW CB:Addr}
def spWI(CW:Addr):Sp:=fun vs H Q _=>∃ (r dx:Addr)(e y o:Int),vs=[.ref r,.int e,.int y,.int o]∧H r=some (.ins CW dx []) ∧
 ∀ (H':Hp)(d:Addr)(kvs:List (Key×V)),H' r=some (.ins CW dx (wf e y d))→H' d=some (.dK kvs)→valV kvs (.inl 1)=some (.int (3-o))→valV kvs (.inl (-1))=some (.int (o-1))→Only r H H'→Q .non H'
theorem scWI:Z2v ["self","bond","other","order"] ["self","bond","other","order"] (Z2r Z5w):=⟨rfl,rfl,rfl,by decide +kernel,rfl,by decide +kernel,by decide +kernel⟩
theorem okWI{f:Addr}{fd:FuncData}(F:Fun K "__init__" "Way.__init__" Z5w f fd)(T:TS7 K mg CS)(W:TW K CW):FnOk P w K mg base CX0 1 f fd ["self","bond","other","order"] (spWI CW):=by
 refine F.ok scWI (fun vs H Q E h=>?_) (fun cdv A' outer s' H vs Q E hr h=>?_)
 ·obtain⟨r,dx,e,y,o,rfl,_⟩:=h
  rfl
 ·obtain⟨r,dx,e,y,o,rfl,ho,k⟩:=h
  refine⟨_,Z2o (Z2N (pv 0) (pv 1) rfl) (Z2o (Z2N (pv 0) (pv 2) rfl)
   (Z2s (Z2N (pv 0) (Z7Y (Z5i (pe_gc rfl T.up) (pe_op Z4j Z2t (pv 3)) (Z5i (pe_gc rfl T.dn) (pe_op Z4j (pv 3) Z2t) Z7R)) rfl rfl (by decide) (by decide)) rfl))),?_⟩
  refine⟨_,rfl,_,rfl,r,CW,dx,[],rfl,ho,W.cl,W.nb,(by show 0<1000;decide),?_⟩
  refine⟨_,rfl,_,rfl,r,CW,dx,_,rfl,Z2n,W.cl,W.no,(by show 1<1000;decide),?_⟩
  rw [Z3a]
  intro d hd
  refine⟨_,rfl,_,_,rfl,rfl,_,rfl,_,_,rfl,rfl,Z2n,[(.inl 1,.int (3-o)),(.inl (-1),.int (o-1))],rfl,(by show 2≤15;decide),?_⟩
  rw [Z3a]
  have n1:r≠d:=Z2p Z2n hd
  refine⟨_,rfl,r,CW,dx,_,rfl,by rw [Z2m n1,Z2n],W.cl,W.nr,(by show 2<1000;decide),?_⟩
  refine k _ d [(.inl 1,.int (3-o)),(.inl (-1),.int (o-1))] (by rw [Z2n];rfl) (by rw [Z2m (Ne.symm n1),Z2n];rfl) rfl rfl ?_
  exact(((Only.refl r H).trans (Only.upd _)).new hd).trans (Only.upd _)
def spWays(CW CB:Addr):Sp:=fun vs H Q _=>∃ (bl:Addr)(G:MX.Gr)(bs:List Addr)(sd:Nat→Int),vs=[.int (G.n:Int),.ref bl]∧Bds CB G H bl bs sd∧G.Ok∧G.n≤128∧G.m≤192 ∧
 ∀ H' wl ls ws E,L2.Same H H'→Wys0 CW G H' wl ls ws E→Q (.ref wl) H'
theorem scWays:Z2v ["count","bonds","ways","number","bond","atom"] ["count","bonds"] (Z2r Z4r):=⟨rfl,rfl,rfl,by decide +kernel,rfl,by decide +kernel,by decide +kernel⟩
theorem blkWays:BlkOk ["count","bonds","ways","number","bond","atom"] (Z2r Z4r) (Z7X (Z2F Z4r)) [("atom",5)]:=⟨rfl,by decide +kernel,by decide +kernel,by decide +kernel,by decide +kernel⟩
theorem okWays{f fI:Addr}{fd fdI:FuncData}(F:Fun K "ways_at" "ways_at" Z4r f fd)(B:TBd K CB)(M:Mk K CW fI)(hC:mg "Way" = some (.ref CW))(mr:mg "range" = none)(me:mg "enumerate" = none)
  (GI:FnOk P w K mg base CX0 1 fI fdI ["self","bond","other","order"] (spWI CW))(bI:Binds K fdI ["self","bond","other","order"] []):FnOk P w K mg base CX0 3 f fd ["count","bonds"] (spWays CW CB):=by
 refine F.ok scWays (fun vs H Q E h=>?_) (fun cdv A' outer s' H vs Q E' hr h=>?_)
 ·obtain⟨bl,G,bs,sd,rfl,_⟩:=h
  rfl
 ·obtain⟨bl,G,bs,sd,rfl,D,hG,hn,hm,k⟩:=h
  refine⟨_,Z2o (Z5o (i:=2) rfl scWays.nd rfl rfl (Z4g rfl rfl rfl rfl) (Z4J rfl mr (Z2l (pv 0) Z2q)) blkWays (fun s H C cl fp=>Z2H (i:=5) scWays.nd rfl (Or.inl rfl)) (fun s H C cl fp=>Z4f) (fun s H C cl fp=>Z3B Z2q))
   (Z2o (Z3A PassesOwn.never rfl (Z6M rfl me (Z2l (pv 1) Z2q)) (Z6C rfl (Z3i (Z2H (i:=3) scWays.nd rfl (Or.inl rfl)) (Z3i (Z2H (i:=4) scWays.nd rfl (Or.inl rfl)) Z4V)))
     (Z2o (Z2K (pe_bm Z1e Z1A Z1B Z4E (pe_ix Z2Z (pv 2) (Z2u (pv 4) rfl) (fun _ _=>rfl)) (Z2l (Z3M M GI hr rfl hC bI .nil pass0 (Z2l (pv 3) (Z2l (Z2u (pv 4) rfl) (Z2l (Z2u (pv 4) rfl) Z2q)))) Z2q)))
     (Z2s (Z2K (pe_bm Z1e Z1A Z1B Z4E (pe_ix Z2Z (pv 2) (Z2u (pv 4) rfl) (fun _ _=>rfl)) (Z2l (Z3M M GI hr rfl hC bI .nil pass0 (Z2l (pv 3) (Z2l (Z2u (pv 4) rfl) (Z2l (Z2u (pv 4) rfl) Z2q)))) Z2q))))))
   (Z2s (Z2y (pv 2)))),?_⟩
  refine⟨_,rfl,(G.n:Int),rfl,by omega,by omega,fun wl hwl=>Z6c (lo:=0) (n:=(G.n:Int).toNat) (fun i H2=>∃ ls:List Addr,ls.length=i∧ls.Nodup∧wl∉ls∧(∀ l∈ls,H l=none)∧L2.Same H H2∧H2 wl=some (.lst (ls.map V.ref))∧∀ x l,ls[x]?=some l→H2 l=some (.lst []))
   ⟨[],rfl,Z1N,by simp,fun l hl=>absurd hl (by simp),RD.Same.new hwl,Z2n,fun x l (e:([]:List Addr)[x]?=some l)=>absurd e (by rw [List.getElem?_nil];intro z;cases z)⟩ ?_ ?_⟩
  ·rintro i H2 hi ⟨ls,e1,nd,nw,nh,s2,h2,hr2⟩
   refine⟨rfl,Z0p _,fun l hl=>?_⟩
   have nl:∀ {b:Addr}{o:HO},H2 b=some o→b≠l:=fun e=>Z2p e hl
   refine⟨_,by rw [Z2m (nl h2)];exact h2,by rw [Z0b,sizeLine_eq];omega,ls++[l],by simp [e1],?_,?_,?_,?_,?_,?_⟩
   ·refine Z1p.mpr ⟨nd,by simp,fun a ha b hb z=>?_⟩
    obtain⟨x,hx⟩:=List.getElem?_of_mem ha
    have:=nl (hr2 x a hx)
    simp at hb
    exact this (z.trans hb)
   ·rw [Z0m,not_or]
    exact⟨nw,by simpa using nl h2⟩
   ·intro b hb
    rcases Z0m.mp hb with hb |hb
    ·exact nh b hb
    ·rw [Z0l.mp hb];exact s2.free hl
   ·intro b o e
    rw [Z2m (fun z=>by rw [z,hwl]at e;cases e),Z2m (nl (s2 _ _ e))]
    exact s2 _ _ e
   ·rw [Z2n,Z0z];rfl
   ·intro x l' e
    have hlw:l'≠wl:=by
     rintro rfl
     have:=Z0u e
     rw [Z0m]at this
     rcases this with h |h
     ·exact nw h
     ·exact nl h2 (Z0l.mp h)
    rw [Z2m hlw]
    by_cases lt:x<ls.length
    ·rw [Z0S lt]at e
     rw [Z2m (nl (hr2 x l' e))]
     exact hr2 x l' e
    ·have l1:=(Z0r.mp e).1
     rw [Z0x,Z2f]at l1
     have:x=ls.length:=by omega
     subst this
     rw [Z1l (Z0d _),Z0W]at e
     cases e
     exact Z2n
  ·rintro H2 ⟨ls,e1,nd,nw,nh,s2,h2,hr2⟩
   have R0:Rws CW G H2 wl ls (fun _=>[]) (G.at_ 0):=⟨h2,nd,nw,fun x l e=>hr2 x l e,fun x=>rfl,fun x j r p e _=>by simp at e⟩
   have e1:ls.length=G.n:=by omega
   refine⟨_,rfl,bl,_,rfl,SqL.of (s2 _ _ D.top),Z5T (K:=K) (a:=bl) (xs:=bs.map V.ref) (fun i σ H'=>∃ (v3 v4 v5:Option V)(ws:Nat→List Addr),σ=[some (.int (G.n:Int)),some (.ref bl),some (.ref wl),v3,v4,v5]∧L2.Same H H'∧Rws CW G H' wl ls ws (G.at_ i))
    ⟨none,none,none,_,rfl,s2,R0⟩ (fun i σ H' _ ⟨_,_,_,_,_,s',_⟩=>SqL.of (s' _ _ D.top)) ?_ ?_⟩
   ·rintro i y σ H3 T hi ⟨v3,v4,v5,ws,rfl,s3,R3⟩ hT
    obtain⟨r,hr0,rfl⟩:∃ r,bs[i]?=some r∧y=V.ref r:=by
     rw [Z0k]at hi
     cases e:bs[i]? with
     |none=>rw [e]at hi;cases hi
     |some r=>rw [e]at hi;exact⟨r,rfl,(Option.some.inj hi).symm⟩
    have im:i<G.m:=by rw [←D.len];exact(Z0r.mp hr0).1
    have an:=hG.an i im
    have bn:=hG.bn i im
    have hab:=hG.ne i im
    have s4:L2.Same H (upd H3 T (.tup [.int (i:Int),.ref r])):=s3.trans (RD.Same.new hT)
    have R4:=R3.same (RD.Same.new (o:=.tup [.int (i:Int),.ref r]) hT)
    obtain⟨dx,hb4⟩:=(D.same s4).bond i r hr0
    have la:ls[(G.bd i).a]?=some ls[(G.bd i).a]:=Z0j (by omega)
    have lb:ls[(G.bd i).b]?=some ls[(G.bd i).b]:=Z0j (by omega)
    have rowa:=R4.row _ _ la
    refine⟨T,_,rfl,SqT.of Z2n,rfl,_,_,rfl,_,_,rfl,rfl,?_⟩
    refine⟨_,rfl,_,rfl,r,CB,dx,_,_,rfl,hb4,B.cl,B.na,bf_a _ _ _ _,wl,_,_,.ref ls[(G.bd i).a],rfl,rfl,SqL.of R4.top,Z3b (by rw [Z0k,la];rfl),.inl ⟨rfl,_,SqL.of rowa⟩,
     _,rfl,_,rfl,r,CB,dx,_,_,rfl,hb4,B.cl,B.nb,bf_b _ _ _ _,_,rfl,r,CB,dx,_,_,rfl,hb4,B.cl,B.no,Z6V _ _ _ _,fun x xd nx nd' ndx=>⟨x,xd,_,_,_,rfl,Z2n,fun H5 d kvs g1 g2 g3 g4 o5=>⟨rfl,?_⟩⟩⟩
    have ss5:L2.Same (upd H3 T (.tup [.int (i:Int),.ref r])) H5:=fun b o e=>o5 b o (by rw [Z2m (Z2p e nx),Z2m (Z2p e nd')];exact e) (Z2p e nx)
    have R5:=R4.same ss5
    have s5:=s4.trans ss5
    have rowa5:=R5.row _ _ la
    have len5:=R5.wln (G.bd i).a
    have al:=G.at_len (G.bd i).a i
    refine⟨_,_,_,rfl,rfl,rowa5,by rw [Z0b,sizeLine_eq];omega,?_⟩
    have R6:=R5.app (x:=(G.bd i).a) (e:=i) (y:=(G.bd i).b) la ⟨xd,d,kvs,g1,g2,g3,g4⟩
    have nla:∀ {x:Nat},(h:x<ls.length)→H ls[x]=none:=fun h=>nh _ (Z0X h)
    have s6:L2.Same H (upd H5 ls[(G.bd i).a] (.lst ((ws (G.bd i).a).map V.ref++[.ref x]))):=fun b o e=>by
     rw [Z2m (fun z=>by rw [z,nla (by omega)]at e;cases e)];exact s5 _ _ e
    obtain⟨dx6,hb6⟩:=(D.same s6).bond i r hr0
    have rowb:=R6.row _ _ lb
    refine⟨_,rfl,_,rfl,r,CB,dx6,_,_,rfl,hb6,B.cl,B.nb,bf_b _ _ _ _,wl,_,_,.ref ls[(G.bd i).b],rfl,rfl,SqL.of R6.top,Z3b (by rw [Z0k,lb];rfl),.inl ⟨rfl,_,SqL.of rowb⟩,
     _,rfl,_,rfl,r,CB,dx6,_,_,rfl,hb6,B.cl,B.na,bf_a _ _ _ _,_,rfl,r,CB,dx6,_,_,rfl,hb6,B.cl,B.no,Z6V _ _ _ _,fun x2 xd2 nx2 nd2 ndx2=>⟨x2,xd2,_,_,_,rfl,Z2n,fun H7 d2 kvs2 g1' g2' g3' g4' o7=>⟨rfl,?_⟩⟩⟩
    have ss7:L2.Same (upd H5 ls[(G.bd i).a] (.lst ((ws (G.bd i).a).map V.ref++[.ref x]))) H7:=fun b o e=>o7 b o (by rw [Z2m (Z2p e nx2),Z2m (Z2p e nd2)];exact e) (Z2p e nx2)
    have R7:=R6.same ss7
    have s7:=s6.trans ss7
    have rowb7:=R7.row _ _ lb
    have len7:=R5.wln (G.bd i).b
    have bl':=G.at_len (G.bd i).b i
    refine⟨_,_,_,rfl,rfl,rowb7,by rw [Z0b,sizeLine_eq,if_neg (Ne.symm hab)];omega,?_⟩
    have R8:=R7.app (x:=(G.bd i).b) (e:=i) (y:=(G.bd i).a) lb ⟨xd2,d2,kvs2,g1',g2',g3',g4'⟩
    refine⟨_,_,_,_,rfl,fun b o e=>?_,R8.top,R8.nd,R8.tn,R8.row,fun z=>?_,fun z j r' p h1 h2=>?_⟩
    ·rw [Z2m (fun z=>by rw [z,nla (by omega)]at e;cases e)];exact s7 _ _ e
    all_goals
     have key:∀ z,G.at_ (i+1) z=(fun z=>if z=(G.bd i).b then(fun z=>if z=(G.bd i).a then G.at_ i (G.bd i).a++[(i,(G.bd i).b)]else G.at_ i z) (G.bd i).b++[(i,(G.bd i).a)]else(fun z=>if z=(G.bd i).a then G.at_ i (G.bd i).a++[(i,(G.bd i).b)]else G.at_ i z) z) z:=fun z=>by
      show(G.at_ i z++if z=(G.bd i).a then[(i,(G.bd i).b)]else[])++(if z=(G.bd i).b then[(i,(G.bd i).a)]else[])=_
      by_cases q2:z=(G.bd i).b
      ·subst q2
       rw [if_neg (Ne.symm hab)]
       simp [Ne.symm hab]
      ·by_cases q1:z=(G.bd i).a
       ·subst q1
        simp [hab]
       ·simp [q1,q2]
    ·rw [key z];exact R8.wln z
    ·rw [key z]at h2;exact R8.way z j r' p h1 h2
   ·rintro σ H3 ⟨v3,v4,v5,ws,rfl,s3,R3⟩
    have lm:(bs.map V.ref).length=G.m:=by rw [Z0b,D.len]
    rw [lm]at R3
    refine⟨_,rfl,k H3 wl ls ws (G.at_ G.m) s3 ⟨R3.top,e1,R3.row,fun x _=>R3.wln x,fun x j r p _=>R3.way x j r p,fun x e y _=>G.mem_at x e y G.m,fun x _=>G.at_nd x G.m hG.ne⟩⟩
end
end BK
end
section
namespace BK
open PySem PySem.Spec PyProof.Rows L2 EX RD
theorem Z5n{bs:List Int}:∀ {ms:List Int}{p q:Nat},p≤bs.length→markM bs p ms=.ok q→q≤bs.length
 |[],p,q,h,e=>by
  unfold markM at e
  cases e
  exact h
 |m::ms,p,q,h,e=>by
  unfold markM at e
  split at e
  ·cases e
  ·split at e
   ·cases e
   ·exact Z5n (by omega) e
theorem Z2x{bs:List Int}{p n:Nat}{lo hi v:Int}(e:numM bs p n lo hi=.ok v):p+n≤bs.length∧lo≤v∧v≤hi∧v=numL ((bs.drop p).take n):=by
 unfold numM at e
 split at e
 ·cases e
 ·split at e
  ·cases e
  ·rename_i h1 h2
   cases e
   refine⟨by omega,?_,?_,rfl⟩<;>omega
def atomM(bs:List Int)(p:Nat):Except (Int×Int) Fk.Atom :=
 match numM bs p 1 1 118 with
 |.error e=>.error e
 |.ok x=>match numM bs (p+1) 2 0 500 with
  |.error e=>.error e
  |.ok y=>match numM bs (p+3) 1 0 8 with
   |.error e=>.error e
   |.ok c=>match numM bs (p+4) 1 0 7 with
    |.error e=>.error e
    |.ok h=>match numM bs (p+5) 1 0 2 with
     |.error e=>.error e
     |.ok s=>.ok ⟨x.toNat,y.toNat,c-4,h.toNat,s.toNat⟩
def Z3f(bs:List Int):Nat→Nat→Except (Int×Int) (List Fk.Atom)
 |0,_=>.ok []
 |k+1,p=>match atomM bs p with
  |.error e=>.error e
  |.ok x=>match Z3f bs k (p+6)with
   |.error e=>.error e
   |.ok y=>.ok (x::y)
def bondM(bs:List Int)(n:Int)(p:Nat)(b:Int×Int):Except (Int×Int) Fk.Bond :=
 match numM bs p 1 0 (n-1)with
 |.error e=>.error e
 |.ok x=>match numM bs (p+1) 1 (x+1) (n-1)with
  |.error e=>.error e
  |.ok y=>if lexLe [x,y] [b.1,b.2]=true then .error (3,p)else match numM bs (p+2) 1 1 3 with
   |.error e=>.error e
   |.ok o=>match numM bs (p+3) 1 0 2 with
    |.error e=>.error e
    |.ok s=>.ok ⟨x.toNat,y.toNat,o.toNat,s.toNat⟩
def Z3e(bs:List Int)(n:Int):Nat→Nat→Int×Int→Except (Int×Int) (List Fk.Bond)
 |0,_,_=>.ok []
 |k+1,p,b=>match bondM bs n p b with
  |.error e=>.error e
  |.ok x=>match Z3e bs n k (p+4) (x.a,x.b)with
   |.error e=>.error e
   |.ok y=>.ok (x::y)
def Z4o(bs:List Int):Except (Int×Int) Fk.Mol :=
 match markM bs 0 [70,75,77,49]with
 |.error e=>.error e
 |.ok p=>match numM bs p 1 0 128 with
  |.error e=>.error e
  |.ok n=>match numM bs (p+1) 1 0 192 with
   |.error e=>.error e
   |.ok m=>match Z3f bs n.toNat (p+2)with
    |.error e=>.error e
    |.ok as=>match Z3e bs n m.toNat (p+2+6*n.toNat) (0,0)with
     |.error e=>.error e
     |.ok ds=>if p+2+6*n.toNat+4*m.toNat<bs.length then .error (7,(p+2+6*n.toNat+4*m.toNat:Nat))else .ok ⟨as,ds⟩
def molM(bs:List Int):Except (Int×Int) Fk.Mol :=
 match Z4o bs with
 |.error e=>.error e
 |.ok M=>match (List.range M.n).find? fun v=>(M.atom v).hand != 0&&!M.handed v with
  |some v=>.error (4,((6+6*v+5:Nat):Int))
  |none=>match (List.range M.bonds.length).find? fun j=>(M.bonds[j]?.map Fk.Bond.side).getD 0 != 0&&!M.sided j with
   |some j=>.error (6,((6+6*M.n+4*j+3:Nat):Int))
   |none=>.ok M
structure WfA(x:Fk.Atom):Prop where
 el:1≤x.element∧x.element≤118
 iso:x.isotope≤500
 ch:-4≤x.charge∧x.charge≤4
 hy:x.hydrogens≤7
 hd:x.hand≤2
structure WfB(n:Nat)(x:Fk.Bond):Prop where
 ab:x.a<x.b
 bn:x.b<n
 od:1≤x.order∧x.order≤3
 sd:x.side≤2
def Bel(x y:Fk.Bond):Prop:=x.a<y.a∨(x.a=y.a∧x.b<y.b)
structure Wf(M:Fk.Mol):Prop where
 n:M.atoms.length≤128
 m:M.bonds.length≤192
 at_:∀ x∈M.atoms,WfA x
 bd:∀ x∈M.bonds,WfB M.atoms.length x
 rs:M.bonds.Pairwise Bel
theorem Z9u{bs:List Int}{p:Nat}{x:Fk.Atom}(e:atomM bs p=.ok x):p+6≤bs.length∧WfA x:=by
 unfold atomM at e
 split at e
 ·cases e
 ·rename_i h1;split at e
  ·cases e
  ·rename_i h2;split at e
   ·cases e
   ·rename_i h3;split at e
    ·cases e
    ·rename_i h4;split at e
     ·cases e
     ·rename_i h5
      cases e
      have a1:=Z2x h1
      have a2:=Z2x h2
      have a3:=Z2x h3
      have a4:=Z2x h4
      have a5:=Z2x h5
      refine⟨by omega,⟨?_,?_,?_,?_,?_⟩⟩<;>dsimp only<;>omega
theorem Z6n{bs:List Int}:∀ {k p:Nat}{l:List Fk.Atom},Z3f bs k p=.ok l→p≤bs.length→l.length=k∧p+6*k≤bs.length∧∀ x∈l,WfA x
 |0,p,l,e,hp=>by unfold Z3f at e;cases e;exact⟨rfl,by omega,fun x hx=>by simp at hx⟩
 |k+1,p,l,e,hp=>by
  unfold Z3f at e
  split at e
  ·cases e
  ·rename_i h1;split at e
   ·cases e
   ·rename_i h2
    cases e
    have a1:=Z9u h1
    have a2:=Z6n h2 (by omega)
    refine⟨by rw [Z0q,a2.1],by omega,fun x hx=>?_⟩
    rcases Z0e.mp hx with rfl |hx
    ·exact a1.2
    ·exact a2.2.2 x hx
theorem Zbu(x y a b:Int):lexLe [x,y] [a,b]=true↔x<a∨(x=a∧y≤b):=by
 rw [Z5W]
 split
 ·rename_i h
  rw [Z5W]
  split
  ·rename_i h2
   exact⟨fun _=>.inr ⟨h,by omega⟩,fun _=>rfl⟩
  ·rename_i h2
   rw [decide_eq_true_iff];omega
 ·rename_i h
  rw [decide_eq_true_iff];omega
theorem Z8W{bs:List Int}{n:Int}{p:Nat}{b:Int×Int}{x:Fk.Bond}(e:bondM bs n p b=.ok x):p+4≤bs.length∧WfB n.toNat x∧(b.1<x.a∨(b.1=x.a∧b.2<x.b)):=by
 unfold bondM at e
 split at e
 ·cases e
 ·rename_i h1;split at e
  ·cases e
  ·rename_i h2;split at e
   ·cases e
   ·rename_i h3;split at e
    ·cases e
    ·rename_i h4;split at e
     ·cases e
     ·rename_i h5
      cases e
      rw [Zbu]at h3
      have a1:=Z2x h1
      have a2:=Z2x h2
      have a4:=Z2x h4
      have a5:=Z2x h5
      refine⟨by omega,⟨?_,?_,?_,?_⟩,?_⟩<;>dsimp only<;>omega
theorem Z8s{bs:List Int}{n:Int}:∀ {k p:Nat}{b:Int×Int}{l:List Fk.Bond},Z3e bs n k p b=.ok l→p≤bs.length→l.length=k∧p+4*k≤bs.length∧(∀ x∈l,WfB n.toNat x)∧(∀ x∈l,b.1<x.a∨(b.1=x.a∧b.2<x.b))∧l.Pairwise Bel
 |0,p,b,l,e,hp=>by unfold Z3e at e;cases e;exact⟨rfl,by omega,fun x hx=>by simp at hx,fun x hx=>by simp at hx,List.Pairwise.nil⟩
 |k+1,p,b,l,e,hp=>by
  unfold Z3e at e
  split at e
  ·cases e
  ·rename_i h1;split at e
   ·cases e
   ·rename_i h2
    cases e
    obtain⟨a1,a2,a3⟩:=Z8W h1
    obtain⟨c1,c2,c3,c4,c5⟩:=Z8s h2 (by omega)
    refine⟨by rw [Z0q,c1],by omega,fun x hx=>?_,fun x hx=>?_,List.Pairwise.cons (fun y hy=>?_) c5⟩
    ·rcases Z0e.mp hx with rfl |hx
     ·exact a2
     ·exact c3 x hx
    ·rcases Z0e.mp hx with rfl |hx
     ·exact a3
     ·have:=c4 x hx
      dsimp only at this
      omega
    ·have:=c4 y hy
     dsimp only at this
     unfold Bel
     omega
theorem ZaX{bs:List Int}{M:Fk.Mol}(e:Z4o bs=.ok M):Wf M:=by
 unfold Z4o at e
 split at e
 ·cases e
 ·rename_i h1;split at e
  ·cases e
  ·rename_i h2;split at e
   ·cases e
   ·rename_i h3;split at e
    ·cases e
    ·rename_i h4;split at e
     ·cases e
     ·rename_i h5;split at e
      ·cases e
      ·cases e
       have a1:=Z2x h2
       have a2:=Z2x h3
       have a3:=Z6n h4 (by omega)
       have a4:=Z8s h5 (by omega)
       refine⟨by dsimp only;omega,by dsimp only;omega,a3.2.2,?_,a4.2.2.2.2⟩
       dsimp only
       rw [a3.1]
       exact a4.2.2.1
structure TR(K:Z0a)(mg:Str→Option Value)(CF CR fF:Addr):Prop where
 xi:XInit K CF fF "rule" "place" "which" 0
 cl:Cls K CR
 nf:NoAttr K CR "form"
 np:NoAttr K CR "place"
 mgF:mg "Fault" = some (.ref CF)
 mgR:mg "Reader" = some (.ref CR)
 len:mg "len" = none
 rev:mg "reversed" = none
 c1:∃ u,mg "WRONG_MARK" = some u∧RelV (.int 1) u
 c2:∃ u,mg "OUT_OF_BOUNDS" = some u∧RelV (.int 2) u
 c5:∃ u,mg "ENDS_EARLY" = some u∧RelV (.int 5) u
 c7:∃ u,mg "LEFT_OVER" = some u∧RelV (.int 7) u
section
variable{P:Program}{w:World}{K:Z0a}{mg:Str→Option Value}{base:Heap}{CF CR fF:Addr}
def spRI(CR:Addr):Sp:=fun vs H Q _=>∃ (r dx a:Addr),vs=[.ref r,.ref a]∧H r=some (.ins CR dx [])∧∀ H':Hp,RdAt CR H' r a 0→Only r H H'→Q .non H'
theorem scRI:Z2v ["self","form"] ["self","form"] (Z2r Z4A):=⟨rfl,rfl,rfl,by decide +kernel,rfl,by decide +kernel,by decide +kernel⟩
theorem okRI{f:Addr}{fd:FuncData}(F:Fun K "__init__" "Reader.__init__" Z4A f fd)(T:TR K mg CF CR fF):FnOk P w K mg base CX0 1 f fd ["self","form"] (spRI CR):=by
 refine F.ok scRI (fun vs H Q E h=>?_) (fun cdv A outer s H vs Q E hr h=>?_)
 ·obtain⟨r,dx,a,rfl,_⟩:=h
  rfl
 ·obtain⟨r,dx,a,rfl,hp,k⟩:=h
  refine⟨_,Z2o (Z2N (pv 0) (pv 1) rfl) (Z2s (Z2N (pv 0) Z2t rfl)),?_⟩
  refine⟨_,rfl,_,rfl,r,CR,dx,[],rfl,hp,T.cl,T.nf,(by show 0<1000;decide),?_⟩
  refine⟨_,rfl,r,CR,dx,_,rfl,Z2n,T.cl,T.np,(by show 1<1000;decide),?_⟩
  refine k _ ⟨dx,?_⟩ ?_
  ·rw [Z2n,rf_mk];rfl
  ·exact(Only.upd _).trans (Only.upd _)
def Z9l(K:Z0a)(CF CR:Addr):Sp:=fun vs H Q E=>∃ (r a m:Addr)(p:Nat)(bs ms:List Int),vs=[.ref r,.ref m]∧RdAt CR H r a p∧SqL K H a (bs.map V.int)∧SqT K H m (ms.map V.int)∧p≤bs.length ∧
 match markM bs p ms with
 |.ok q=>∀ H':Hp,RdAt CR H' r a q→Only r H H'→Q .non H'
 |.error e=>Flt CF E H r e.1 e.2
theorem scMark:Z2v ["self","mark","byte"] ["self","mark"] (Z2r Z3z):=⟨rfl,rfl,rfl,by decide +kernel,rfl,by decide +kernel,by decide +kernel⟩
theorem okMark{f:Addr}{fd:FuncData}(F:Fun K "expect_mark" "Reader.expect_mark" Z3z f fd)(T:TR K mg CF CR fF):FnOk P w K mg base (CXF P w) 2 f fd ["self","mark"] (Z9l K CF CR):=by
 refine okX F scMark (fun vs H Q E h=>?_) (fun cdv A outer s H vs Q E hr h=>?_)
 ·obtain⟨r,a,m,p,bs,ms,rfl,_⟩:=h
  rfl
 ·obtain⟨r,a,m,p,bs,ms,rfl,hR,hS,hM,hp,k⟩:=h
  have hdp:=(show A.depth+1+1<recursionLimit from by have:=hr.dp;simp only [Around.deeper]at this;omega)
  refine⟨_,Z2s (Z3A Z4N rfl (pi_tup (pv 1)) (Z2H (i:=2) scMark.nd rfl (Or.inl rfl))
   (Z2o (ps_if (Z2G op_eq (Z2u (pv 0) rfl) (Z2U Z2J (by rfl) T.len PySem.boot_len (Z2l (Z2u (pv 0) rfl) Z2q)) (Z2D _))
     (Z2s (Z3K T.xi rfl rfl hdp rfl T.mgF Z2Q (Z2l (pe_gc rfl T.c5) (Z2l (Z2u (pv 0) rfl) Z2q)))) Z2L)
   (Z2o (ps_if (Z2G op_ne (pe_ix Z2Z (Z2u (pv 0) rfl) (Z2u (pv 0) rfl) (fun _ _=>rfl)) (pv 2) (Z2D _))
     (Z2s (Z3K T.xi rfl rfl hdp rfl T.mgF Z2Q (Z2l (pe_gc rfl T.c1) (Z2l (Z2u (pv 0) rfl) Z2q)))) Z2L)
   (Z2s (Zbl (pv 0) Z2t in_add))))),?_⟩
  have hx:∀ {i:Nat}{y:V},(ms.map V.int)[i]?=some y→∃ z,ms[i]?=some z∧y=V.int z:=fun{i y} hi=>by
   rw [Z0k]at hi
   cases e:ms[i]? with
   |none=>rw [e]at hi;cases hi
   |some z=>rw [e]at hi;exact⟨z,rfl,(Option.some.inj hi).symm⟩
  refine⟨_,rfl,m,rfl,⟨_,hM⟩,Z9N (K:=K) (a:=m) (xs:=ms.map V.int) (fun i σ H'=>∃ v:Option V,σ=[some (.ref r),some (.ref m),v]∧Only r H H'∧RdAt CR H' r a (p+i)∧p+i≤bs.length∧markM bs p ms=markM bs (p+i) (ms.drop i))
   ⟨none,rfl,Only.refl _ _,hR,hp,rfl⟩ (fun i σ H' _ ⟨_,_,o,_,_⟩=>let ⟨_,hr0⟩:=hR;o.sqT hr0 hM) ?_ ?_⟩
  ·rintro i y σ H' hi ⟨v,rfl,o,⟨dx,h1⟩,hle,hmk⟩
   obtain⟨z,hz,rfl⟩:=hx hi
   obtain⟨_,hr0⟩:=id hR
   have hS':=o.sq hr0 hS
   have hdr:ms.drop i=z::ms.drop (i+1):=by
    have hlt:=(Z0r.mp hz).1
    rw [Z1y hlt,(Z0r.mp hz).2]
   rw [hdr]at hmk
   refine⟨_,rfl,r,CR,dx,_,_,rfl,h1,T.cl,T.np,Z3j _ _,_,rfl,r,CR,dx,_,_,rfl,h1,T.cl,T.nf,Z4R _ _,a,_,rfl,.inl hS',rfl,_,rfl,ite2 (fun hc=>?_) (fun hc=>?_)⟩
   ·have hc1:p+i=bs.length:=by
     have:=of_decide_eq_true hc
     simp only [V.int.injEq,Z0b]at this
     omega
    rw [hmk]at k
    unfold markM at k
    rw [if_pos hc1]at k
    refine⟨_,rfl,r,CR,dx,_,_,rfl,h1,T.cl,T.np,Z3j _ _,_,_,_,.inr ⟨rfl,rfl⟩,fun dx' hn=>?_⟩
    exact k _ dx' (o.new hn) Z2n
   ·have hc1:p+i≠bs.length:=fun e=>hc (decide_eq_true (by simp only [Z0b];rw [e]))
    have hlt:p+i<bs.length:=by omega
    refine⟨_,rfl,r,CR,dx,_,_,rfl,h1,T.cl,T.nf,Z4R _ _,_,rfl,r,CR,dx,_,_,rfl,h1,T.cl,T.np,Z3j _ _,a,_,_,_,rfl,rfl,hS',Z3b (by rw [Z0k,Z0j hlt];rfl),_,rfl,rfl,_,rfl,ite2 (fun hc2=>?_) (fun hc2=>?_)⟩
    ·have hne:bs[p+i]?≠some z:=fun e=>by
      rw [Z0j hlt]at e
      rw [Option.some.inj e]at hc2
      simp at hc2
     rw [hmk]at k
     unfold markM at k
     rw [if_neg hc1,if_pos hne]at k
     refine⟨_,rfl,r,CR,dx,_,_,rfl,h1,T.cl,T.np,Z3j _ _,_,_,_,.inr ⟨rfl,rfl⟩,fun dx' hn=>?_⟩
     exact k _ dx' (o.new hn) Z2n
    ·have heq:bs[p+i]?=some z:=by
      rw [Z0j hlt]
      simp at hc2
      rw [hc2]
     refine⟨_,rfl,r,CR,dx,_,_,rfl,h1,T.cl,T.np,Z3j _ _,_,_,rfl,rfl,dx,_,h1,(by show 2<1000;decide),?_⟩
     refine⟨_,rfl,o.trans (Only.upd _),⟨dx,?_⟩,by omega,?_⟩
     ·rw [Z2n,rf_put];rfl
     ·rw [hmk]
      conv=>lhs;unfold markM
      rw [if_neg hc1,if_neg (by simpa using heq)]
      rfl
  ·rintro σ H' ⟨v,rfl,o,hR',hle,hmk⟩
   rw [Z0b]at hR' hmk hle
   rw [List.drop_length]at hmk
   rw [hmk]at k
   exact k H' hR' o
end
section
variable{P:Program}{w:World}{K:Z0a}{mg:Str→Option Value}{base:Heap}{CF CR fF:Addr}
def spNum(K:Z0a)(CF CR:Addr):Sp:=fun vs H Q E=>∃ (r a:Addr)(p size:Nat)(bs:List Int)(lo hi:Int),vs=[.ref r,.int size,.int lo,.int hi]∧RdAt CR H r a p∧SqL K H a (bs.map V.int)∧p≤bs.length∧(∀ x∈bs,0≤x∧x≤255) ∧
 match numM bs p size lo hi with
 |.ok v=>∀ H':Hp,RdAt CR H' r a (p+size)→Only r H H'→Q (.int v) H'
 |.error e=>Flt CF E H r e.1 e.2
def Z9e(K:Z0a)(CF CR:Addr):Sp:=fun vs H Q E=>∃ (r a:Addr)(p size:Nat)(bs:List Int),vs=[.ref r,.int size]∧RdAt CR H r a p∧SqL K H a (bs.map V.int)∧p≤bs.length ∧
 (p+size≤bs.length→∀ (H':Hp)(l:Addr),RdAt CR H' r a (p+size)→Only r H H'→H l=none→H' l=some (.lst (((bs.drop p).take size).map V.int))→Q (.ref l) H')∧(bs.length<p+size→Flt CF E H r 5 bs.length)
theorem scTake:Z2v ["self","size","end","taken"] ["self","size"] (Z2r Z4z):=⟨rfl,rfl,rfl,by decide +kernel,rfl,by decide +kernel,by decide +kernel⟩
theorem okTake{f:Addr}{fd:FuncData}(F:Fun K "take" "Reader.take" Z4z f fd)(T:TR K mg CF CR fF):FnOk P w K mg base (CXF P w) 2 f fd ["self","size"] (Z9e K CF CR):=by
 refine okX F scTake (fun vs H Q E h=>?_) (fun cdv A outer s H vs Q E hr h=>?_)
 ·obtain⟨r,a,p,size,bs,rfl,_⟩:=h
  rfl
 ·obtain⟨r,a,p,size,bs,rfl,hR,hS,hp,k1,k2⟩:=h
  have hdp:=(show A.depth+1+1<recursionLimit from by have:=hr.dp;simp only [Around.deeper]at this;omega)
  refine⟨_,Z2o (Z2w (i:=2) scTake.nd rfl (Or.inl rfl) (pe_op Z3p (Z2u (pv 0) rfl) (pv 1)))
   (Z2o (ps_if (Z2G op_gt (pv 2) (Z2U Z2J (by rfl) T.len PySem.boot_len (Z2l (Z2u (pv 0) rfl) Z2q)) (Z2D _))
     (Z2s (Z3K T.xi rfl rfl hdp rfl T.mgF Z2Q (Z2l (pe_gc rfl T.c5) (Z2l (Z2U Z2J (by rfl) T.len PySem.boot_len (Z2l (Z2u (pv 0) rfl) Z2q)) Z2q)))) Z2L)
   (Z2o (Z2w (i:=3) scTake.nd rfl (Or.inl rfl) (Z9h Zaj (Z2u (pv 0) rfl) (Z7J (Z2u (pv 0) rfl)) (Z7J (pv 2))))
   (Z2o (Z2N (pv 0) (pv 2) rfl)
   (Z2s (Z2y (pv 3)))))),?_⟩
  obtain⟨dx,h1⟩:=hR
  refine⟨_,rfl,r,CR,dx,_,_,rfl,h1,T.cl,T.np,Z3j _ _,_,rfl,_,_,rfl,rfl,?_⟩
  refine⟨_,rfl,_,rfl,r,CR,dx,_,_,rfl,h1,T.cl,T.nf,Z4R _ _,a,_,rfl,.inl hS,_,_,rfl,rfl,_,rfl,ite2 (fun hc=>?_) (fun hc=>?_)⟩
  ·have hc1:bs.length<p+size:=by
    have:=of_decide_eq_true hc
    simp only [Z0b]at this
    omega
   refine⟨_,rfl,r,CR,dx,_,_,rfl,h1,T.cl,T.nf,Z4R _ _,a,_,rfl,.inl hS,_,_,_,.inr ⟨rfl,rfl⟩,fun dx' hn=>?_⟩
   refine k2 hc1 _ dx' ((Only.refl _ _).new hn) ?_
   rw [Z2n,Z0b];rfl
  ·have hc1:¬ bs.length<p+size:=fun e=>hc (decide_eq_true (by simp only [Z0b];omega))
   have hle:p+size≤bs.length:=by omega
   refine⟨_,rfl,r,CR,dx,_,_,rfl,h1,T.cl,T.nf,Z4R _ _,_,rfl,r,CR,dx,_,_,rfl,h1,T.cl,T.np,Z3j _ _,_,rfl,_,rfl,_,rfl,a,_,rfl,hS,fun l hl=>?_⟩
   have hcut:cutV (bs.map V.int) (some (p:Int)) (some ((p:Int)+(size:Int)))=((bs.drop p).take size).map V.int:=by
    have e:=cut_nat (bs.map V.int) p (p+size) (by rw [Z0b];exact hle) (Z1m _ _)
    rw [Nat.add_sub_cancel_left,←List.map_drop,←List.map_take]at e
    exact e
   rw [hcut]
   have h2:upd H l (.lst (((bs.drop p).take size).map V.int)) r=some (.ins CR dx (rf a p)):=by rw [Z2m (Z2p h1 hl)];exact h1
   refine⟨_,rfl,_,rfl,r,CR,dx,_,rfl,h2,T.cl,T.np,(by show 2<1000;decide),_,rfl,?_⟩
   refine k1 hle _ l ⟨dx,?_⟩ (((Only.refl _ _).new hl).trans (Only.upd _)) hl ?_
   ·rw [Z2n,rf_put];rfl
   ·rw [Z2m (Z2p h1 hl).symm,Z2n]
theorem scNum:Z2v ["self","size","least","most","start","value","byte"] ["self","size","least","most"] (Z2r Z4a):=⟨rfl,rfl,rfl,by decide +kernel,rfl,by decide +kernel,by decide +kernel⟩
theorem okNum{f fT:Addr}{fd fdT:FuncData}(F:Fun K "number" "Reader.number" Z4a f fd)(T:TR K mg CF CR fF)(GT:FnOk P w K mg base (CXF P w) 2 fT fdT ["self","size"] (Z9e K CF CR))(mT:Meth K CR "take" fT)(bT:Binds K fdT ["self","size"] []) :
  FnOk P w K mg base (CXF P w) 3 f fd ["self","size","least","most"] (spNum K CF CR):=by
 refine okX F scNum (fun vs H Q E h=>?_) (fun cdv A outer s H vs Q E hr h=>?_)
 ·obtain⟨r,a,p,size,bs,lo,hi,rfl,_⟩:=h
  rfl
 ·obtain⟨r,a,p,size,bs,lo,hi,rfl,hR,hS,hp,hb,k⟩:=h
  have hdp:=(show A.depth+1+1<recursionLimit from by have:=hr.dp;simp only [Around.deeper]at this;omega)
  refine⟨_,Z2o (Z2w (i:=4) scNum.nd rfl (Or.inl rfl) (Z2u (pv 0) rfl))
   (Z2o (Z2w (i:=5) scNum.nd rfl (Or.inl rfl) Z2t)
   (Z2o (Z3A Z4N rfl (Z9G rfl T.rev (Z2l (Z2A (pv 0) T.cl mT GT hr bT .nil Z2z (Z2l (pv 1) Z2q)) Z2q)) (Z2H (i:=6) scNum.nd rfl (Or.inl rfl))
     (Z2s (Z2w (i:=5) scNum.nd rfl (Or.inl rfl) (pe_op Z3p (pe_op Z3I (pv 5) Z2t) (pv 6)))))
   (Z2o (ps_if (PW.pt (pw_or (Z2G op_lt (pv 5) (pv 2) (Z2D _)) (Z7k (Z2G op_gt (pv 5) (pv 3) (Z2D _)))))
     (Z2s (Z3K T.xi rfl rfl hdp rfl T.mgF Z2Q (Z2l (pe_gc rfl T.c2) (Z2l (pv 4) Z2q)))) Z2L)
   (Z2s (Z2y (pv 5)))))),?_⟩
  obtain⟨dx,h1⟩:=id hR
  refine⟨_,rfl,r,CR,dx,_,_,rfl,h1,T.cl,T.np,Z3j _ _,?_⟩
  refine⟨_,rfl,r,dx,_,rfl,h1,rf_no _ _ (by decide) (by decide),_,rfl,r,a,p,size,bs,rfl,hR,hS,hp,fun hle H1 l hR1 o1 nl hl=>?_,fun hlt=>?_⟩
  ·unfold numM at k
   rw [if_neg (by omega)]at k
   have hlen:((bs.drop p).take size).length=size:=by rw [Z1k,Z0T];omega
   generalize hbl:(bs.drop p).take size=bl at *
   refine⟨l,bl.map V.int,rfl,SqL.of hl,for_rev (K:=K) (a:=l) (xs:=bl.map V.int)
    (fun i σ H'=>∃ v:Option V,σ=[some (.ref r),some (.int size),some (.int lo),some (.int hi),some (.int p),some (.int (numL (bl.drop (bl.length-i)))),v]∧H'=H1)
    ⟨none,?_,rfl⟩ (fun i σ H' _ ⟨_,_,e⟩=>by rw [e];exact SqL.of hl) ?_ ?_⟩
   ·rw [Z1q,List.drop_length];rfl
   ·rintro i x σ H' hi hx ⟨v,rfl,rfl⟩
    rw [Z0b]at hi hx
    obtain⟨z,hz,rfl⟩:∃ z,bl[bl.length-1-i]?=some z∧x=V.int z:=by
     rw [Z0k]at hx
     cases e:bl[bl.length-1-i]? with
     |none=>rw [e]at hx;cases hx
     |some z=>rw [e]at hx;exact⟨z,rfl,(Option.some.inj hx).symm⟩
    refine⟨_,rfl,_,_,rfl,rfl,.inr ⟨by decide,by decide⟩,_,rfl,_,_,rfl,rfl,?_⟩
    refine⟨some (.int z),?_,rfl⟩
    rw [ZaP hi hz];rfl
   ·rintro σ H' ⟨v,rfl,rfl⟩
    rw [Z0b,Z0W,List.drop_zero]
    refine⟨_,rfl,_,rfl,_,_,rfl,rfl,_,rfl,?_⟩
    refine ite2 (fun hc2=>?_) (fun hc2=>?_)
    ·rw [if_pos (.inl (of_decide_eq_true hc2))]at k
     refine⟨_,rfl,_,_,_,.inr ⟨rfl,rfl⟩,fun dx' hn=>?_⟩
     exact k _ dx' (o1.new hn) Z2n
    ·refine⟨_,rfl,_,rfl,_,_,rfl,rfl,_,rfl,ite2 (fun hc3=>?_) (fun hc3=>?_)⟩
     ·rw [if_pos (.inr (of_decide_eq_true hc3))]at k
      refine⟨_,rfl,_,_,_,.inr ⟨rfl,rfl⟩,fun dx' hn=>?_⟩
      exact k _ dx' (o1.new hn) Z2n
     ·rw [if_neg (by rintro(z |z);exact hc2 (decide_eq_true z);exact hc3 (decide_eq_true z))]at k
      exact⟨_,rfl,k H' hR1 o1⟩
  ·unfold numM at k
   rw [if_pos hlt]at k
   exact k
def spFin(K:Z0a)(CF CR:Addr):Sp:=fun vs H Q E=>∃ (r a:Addr)(p:Nat)(bs:List Int),vs=[.ref r]∧RdAt CR H r a p∧SqL K H a (bs.map V.int)∧p≤bs.length ∧
 (p=bs.length→∀ H':Hp,Same H H'→Q .non H')∧(p<bs.length→Flt CF E H r 7 p)
theorem scFin:Z2v ["self"] ["self"] (Z2r Z4c):=⟨rfl,rfl,rfl,by decide +kernel,rfl,by decide +kernel,by decide +kernel⟩
theorem okFin{f:Addr}{fd:FuncData}(F:Fun K "finish" "Reader.finish" Z4c f fd)(T:TR K mg CF CR fF):FnOk P w K mg base (CXF P w) 2 f fd ["self"] (spFin K CF CR):=by
 refine okX F scFin (fun vs H Q E h=>?_) (fun cdv A outer s H vs Q E hr h=>?_)
 ·obtain⟨r,a,p,bs,rfl,_⟩:=h
  rfl
 ·obtain⟨r,a,p,bs,rfl,hR,hS,hp,k1,k2⟩:=h
  have hdp:=(show A.depth+1+1<recursionLimit from by have:=hr.dp;simp only [Around.deeper]at this;omega)
  refine⟨_,Z2s (ps_if (Z2G op_lt (Z2u (pv 0) rfl) (Z2U Z2J (by rfl) T.len PySem.boot_len (Z2l (Z2u (pv 0) rfl) Z2q)) (Z2D _))
    (Z2s (Z3K T.xi rfl rfl hdp rfl T.mgF Z2Q (Z2l (pe_gc rfl T.c7) (Z2l (Z2u (pv 0) rfl) Z2q)))) Z2L),?_⟩
  obtain⟨dx,h1⟩:=hR
  refine⟨_,rfl,r,CR,dx,_,_,rfl,h1,T.cl,T.np,Z3j _ _,_,rfl,r,CR,dx,_,_,rfl,h1,T.cl,T.nf,Z4R _ _,a,_,rfl,.inl hS,_,_,rfl,rfl,_,rfl,ite2 (fun hc=>?_) (fun hc=>?_)⟩
  ·have hc1:=of_decide_eq_true hc
   simp only [Z0b]at hc1
   refine⟨_,rfl,r,CR,dx,_,_,rfl,h1,T.cl,T.np,Z3j _ _,_,_,_,.inr ⟨rfl,rfl⟩,fun dx' hn=>?_⟩
   exact k2 (by omega) _ dx' ((Only.refl _ _).new hn) Z2n
  ·refine k1 ?_ H (Same.refl H)
   have:¬ (p:Int)<(bs.length:Int):=fun e=>hc (decide_eq_true (by simp only [Z0b];exact e))
   omega
end
end BK
end
section
namespace BK
open PySem PySem.Spec PyProof.Rows L2 EX RD LM
def atf(x:Fk.Atom):List (Str×V):=[("element",.int (x.element:Int)),("isotope",.int (x.isotope:Int)),("charge",.int x.charge),("hydrogens",.int (x.hydrogens:Int)),("hand",.int (x.hand:Int))]
def mof(a b:Addr):List (Str×V):=[("atoms",.ref a),("bonds",.ref b)]
theorem Z4O(x:Fk.Atom):(atf x).lookup ("hydrogens" : Str)=some (.int (x.hydrogens:Int)):=by
 unfold atf;rw [Z0c,show(("hydrogens" : Str)=="element")=false by decide,Z0c,show(("hydrogens" : Str)=="isotope")=false by decide,Z0c,show(("hydrogens" : Str)=="charge")=false by decide,Z0c,show(("hydrogens" : Str)=="hydrogens")=true by decide]
theorem atf_hand(x:Fk.Atom):(atf x).lookup ("hand" : Str)=some (.int (x.hand:Int)):=by
 unfold atf;rw [Z0c,show(("hand" : Str)=="element")=false by decide,Z0c,show(("hand" : Str)=="isotope")=false by decide,Z0c,show(("hand" : Str)=="charge")=false by decide,Z0c,show(("hand" : Str)=="hydrogens")=false by decide,Z0c,show(("hand" : Str)=="hand")=true by decide]
theorem Z4H(a b:Addr):(mof a b).lookup ("atoms" : Str)=some (.ref a):=by
 unfold mof;rw [Z0c,show(("atoms" : Str)=="atoms")=true by decide]
theorem Z4F(a b:Addr):(mof a b).lookup ("bonds" : Str)=some (.ref b):=by
 unfold mof;rw [Z0c,show(("bonds" : Str)=="atoms")=false by decide,Z0c,show(("bonds" : Str)=="bonds")=true by decide]
def AtomAt(CA:Addr)(H:Hp)(r:Addr)(x:Fk.Atom):Prop:=∃ dx,H r=some (.ins CA dx (atf x))
def BndAt(CB:Addr)(H:Hp)(r:Addr)(x:Fk.Bond):Prop:=BondAt CB H r x.a x.b (x.order:Int) (x.side:Int)
structure TA_(K:Z0a)(CA:Addr):Prop where
 cl:Cls K CA
 ne:NoAttr K CA "element"
 ni:NoAttr K CA "isotope"
 nc:NoAttr K CA "charge"
 nh:NoAttr K CA "hydrogens"
 nd:NoAttr K CA "hand"
structure TMo(K:Z0a)(CM:Addr):Prop where
 cl:Cls K CM
 na:NoAttr K CM "atoms"
 nb:NoAttr K CM "bonds"
structure TM(K:Z0a)(mg:Str→Option Value):Prop where
 range:mg "range" = none
 enum:mg "enumerate" = none
 mark:∃ a,mg "MARK_molecules" = some (.ref a)∧∀ H,SqT K H a (([70,75,77,49]:List Int).map V.int)
 before:∃ a,mg "BEFORE_ALL" = some (.ref a)∧∀ H,SqT K H a (([0,0]:List Int).map V.int)
 cE:∃ u,mg "MOST_ELEMENT" = some u∧RelV (.int 118) u
 cI:∃ u,mg "MOST_ISOTOPE" = some u∧RelV (.int 500) u
 cA:∃ u,mg "MOST_ATOMS" = some u∧RelV (.int 128) u
 cB:∃ u,mg "MOST_BONDS" = some u∧RelV (.int 192) u
 cC:∃ u,mg "MOST_CHARGE" = some u∧RelV (.int 4) u
 cH:∃ u,mg "MOST_HYDROGENS" = some u∧RelV (.int 7) u
 cD:∃ u,mg "MOST_HAND" = some u∧RelV (.int 2) u
 cO:∃ u,mg "MOST_ORDER" = some u∧RelV (.int 3) u
 cS:∃ u,mg "MOST_SIDE" = some u∧RelV (.int 2) u
 c3:∃ u,mg "NOT_BEHIND" = some u∧RelV (.int 3) u
 c4:∃ u,mg "WRONG_HAND" = some u∧RelV (.int 4) u
 c6:∃ u,mg "WRONG_SIDE" = some u∧RelV (.int 6) u
 z1:∃ u,mg "HEAD_SIZE" = some u∧RelV (.int 6) u
 z2:∃ u,mg "ATOM_SIZE" = some u∧RelV (.int 6) u
 z3:∃ u,mg "BOND_SIZE" = some u∧RelV (.int 4) u
section
variable{P:Program}{w:World}{K:Z0a}{mg:Str→Option Value}{base:Heap}{CF CR fF CA CB CM:Addr}
def spAI(CA:Addr):Sp:=fun vs H Q _=>∃ (r dx:Addr)(x:Fk.Atom),vs=[.ref r,.int (x.element:Int),.int (x.isotope:Int),.int x.charge,.int (x.hydrogens:Int),.int (x.hand:Int)]∧H r=some (.ins CA dx [])∧∀ H':Hp,AtomAt CA H' r x→Only r H H'→Q .non H'
theorem scAI:Z2v ["self","element","isotope","charge","hydrogens","hand"] ["self","element","isotope","charge","hydrogens","hand"] (Z2r Z5m):=⟨rfl,rfl,rfl,by decide +kernel,rfl,by decide +kernel,by decide +kernel⟩
theorem okAI{f:Addr}{fd:FuncData}(F:Fun K "__init__" "Atom.__init__" Z5m f fd)(T:TA_ K CA):FnOk P w K mg base CX0 1 f fd ["self","element","isotope","charge","hydrogens","hand"] (spAI CA):=by
 refine F.ok scAI (fun vs H Q E h=>?_) (fun cdv A outer s H vs Q E hr h=>?_)
 ·obtain⟨r,dx,x,rfl,_⟩:=h
  rfl
 ·obtain⟨r,dx,x,rfl,hp,k⟩:=h
  refine⟨_,Z2o (Z2N (pv 0) (pv 1) rfl) (Z2o (Z2N (pv 0) (pv 2) rfl) (Z2o (Z2N (pv 0) (pv 3) rfl) (Z2o (Z2N (pv 0) (pv 4) rfl) (Z2s (Z2N (pv 0) (pv 5) rfl))))),?_⟩
  refine⟨_,rfl,_,rfl,r,CA,dx,[],rfl,hp,T.cl,T.ne,(by show 0<1000;decide),?_⟩
  refine⟨_,rfl,_,rfl,r,CA,dx,_,rfl,Z2n,T.cl,T.ni,(by show 1<1000;decide),?_⟩
  refine⟨_,rfl,_,rfl,r,CA,dx,_,rfl,Z2n,T.cl,T.nc,(by show 2<1000;decide),?_⟩
  refine⟨_,rfl,_,rfl,r,CA,dx,_,rfl,Z2n,T.cl,T.nh,(by show 3<1000;decide),?_⟩
  refine⟨_,rfl,_,rfl,r,CA,dx,_,rfl,Z2n,T.cl,T.nd,(by show 4<1000;decide),?_⟩
  rw [Z3a,Z3a,Z3a,Z3a]
  exact k _ ⟨dx,by rw [Z2n];rfl⟩ (Only.upd _)
def spBI(CB:Addr):Sp:=fun vs H Q _=>∃ (r dx:Addr)(x:Fk.Bond),vs=[.ref r,.int (x.a:Int),.int (x.b:Int),.int (x.order:Int),.int (x.side:Int)]∧H r=some (.ins CB dx [])∧∀ H':Hp,BndAt CB H' r x→Only r H H'→Q .non H'
theorem scBI:Z2v ["self","a","b","order","side"] ["self","a","b","order","side"] (Z2r Z4Z):=⟨rfl,rfl,rfl,by decide +kernel,rfl,by decide +kernel,by decide +kernel⟩
theorem okBI{f:Addr}{fd:FuncData}(F:Fun K "__init__" "Bond.__init__" Z4Z f fd)(T:TBd K CB):FnOk P w K mg base CX0 1 f fd ["self","a","b","order","side"] (spBI CB):=by
 refine F.ok scBI (fun vs H Q E h=>?_) (fun cdv A outer s H vs Q E hr h=>?_)
 ·obtain⟨r,dx,x,rfl,_⟩:=h
  rfl
 ·obtain⟨r,dx,x,rfl,hp,k⟩:=h
  refine⟨_,Z2o (Z2N (pv 0) (pv 1) rfl) (Z2o (Z2N (pv 0) (pv 2) rfl) (Z2o (Z2N (pv 0) (pv 3) rfl) (Z2s (Z2N (pv 0) (pv 4) rfl)))),?_⟩
  refine⟨_,rfl,_,rfl,r,CB,dx,[],rfl,hp,T.cl,T.na,(by show 0<1000;decide),?_⟩
  refine⟨_,rfl,_,rfl,r,CB,dx,_,rfl,Z2n,T.cl,T.nb,(by show 1<1000;decide),?_⟩
  refine⟨_,rfl,_,rfl,r,CB,dx,_,rfl,Z2n,T.cl,T.no,(by show 2<1000;decide),?_⟩
  refine⟨_,rfl,_,rfl,r,CB,dx,_,rfl,Z2n,T.cl,T.ns,(by show 3<1000;decide),?_⟩
  rw [Z3a,Z3a,Z3a]
  exact k _ ⟨dx,by rw [Z2n];rfl⟩ (Only.upd _)
def spMI(CM:Addr):Sp:=fun vs H Q _=>∃ (r dx a b:Addr),vs=[.ref r,.ref a,.ref b]∧H r=some (.ins CM dx [])∧∀ H':Hp,H' r=some (.ins CM dx (mof a b))→Only r H H'→Q .non H'
theorem scMI:Z2v ["self","atoms","bonds"] ["self","atoms","bonds"] (Z2r Z4d):=⟨rfl,rfl,rfl,by decide +kernel,rfl,by decide +kernel,by decide +kernel⟩
theorem okMI{f:Addr}{fd:FuncData}(F:Fun K "__init__" "Molecule.__init__" Z4d f fd)(T:TMo K CM):FnOk P w K mg base CX0 1 f fd ["self","atoms","bonds"] (spMI CM):=by
 refine F.ok scMI (fun vs H Q E h=>?_) (fun cdv A outer s H vs Q E hr h=>?_)
 ·obtain⟨r,dx,a,b,rfl,_⟩:=h
  rfl
 ·obtain⟨r,dx,a,b,rfl,hp,k⟩:=h
  refine⟨_,Z2o (Z2N (pv 0) (pv 1) rfl) (Z2s (Z2N (pv 0) (pv 2) rfl)),?_⟩
  refine⟨_,rfl,_,rfl,r,CM,dx,[],rfl,hp,T.cl,T.na,(by show 0<1000;decide),?_⟩
  refine⟨_,rfl,_,rfl,r,CM,dx,_,rfl,Z2n,T.cl,T.nb,(by show 1<1000;decide),?_⟩
  rw [Z3a]
  exact k _ (by rw [Z2n];rfl) (Only.upd _)
theorem Z8X{r t:Addr}{H H1:Hp}{C dx:Addr}{fs:List (Str×V)}(o:Only r H H1)(g:H1 r=some (.ins C dx fs))(h:H1 t=none):H t=none:=by
 cases q:H t with
 |none=>rfl
 |some u =>
  by_cases e:t=r
  ·subst e;rw [g]at h;cases h
  ·rw [o _ _ q e]at h;cases h
def spAtom(K:Z0a)(CF CR CA:Addr):Sp:=fun vs H Q E=>∃ (r a:Addr)(p:Nat)(bs:List Int),vs=[.ref r]∧RdAt CR H r a p∧SqL K H a (bs.map V.int)∧p≤bs.length∧(∀ x∈bs,0≤x∧x≤255) ∧
 match atomM bs p with
 |.ok x=>∀ (H':Hp)(t:Addr),RdAt CR H' r a (p+6)→Only r H H'→H t=none→AtomAt CA H' t x→Q (.ref t) H'
 |.error e=>Flt CF E H r e.1 e.2
theorem scAtom:Z2v ["reader","element","isotope","charge","hydrogens","hand"] ["reader"] (Z2r Z5h):=⟨rfl,rfl,rfl,by decide +kernel,rfl,by decide +kernel,by decide +kernel⟩
theorem okAtom{f fN fI:Addr}{fd fdN fdI:FuncData}(F:Fun K "read_atom" "read_atom" Z5h f fd)(T:TR K mg CF CR fF)(B:TM K mg)(GN:FnOk P w K mg base (CXF P w) 3 fN fdN ["self","size","least","most"] (spNum K CF CR))(mN:Meth K CR "number" fN)
  (bN:Binds K fdN ["self","size","least","most"] [])(M:Mk K CA fI)(hC:mg "Atom" = some (.ref CA))(GI:FnOk P w K mg base CX0 1 fI fdI ["self","element","isotope","charge","hydrogens","hand"] (spAI CA))(bI:Binds K fdI ["self","element","isotope","charge","hydrogens","hand"] []) :
  FnOk P w K mg base (CXF P w) 4 f fd ["reader"] (spAtom K CF CR CA):=by
 refine okX F scAtom (fun vs H Q E h=>?_) (fun cdv A outer s H vs Q E hr h=>?_)
 ·obtain⟨r,a,p,bs,rfl,_⟩:=h
  rfl
 ·obtain⟨r,a,p,bs,rfl,hR,hS,hp,hb,k⟩:=h
  have hr2:Room 2 _:=hr.mono (by decide)
  refine⟨_,Z2o (Z2w (i:=1) scAtom.nd rfl (Or.inl rfl) (Z2A (pv 0) T.cl mN GN hr bN .nil Z2z (Z2l Z2t (Z2l Z2t (Z2l (pe_gc rfl B.cE) Z2q)))))
   (Z2o (Z2w (i:=2) scAtom.nd rfl (Or.inl rfl) (Z2A (pv 0) T.cl mN GN hr bN .nil Z2z (Z2l Z2t (Z2l Z2t (Z2l (pe_gc rfl B.cI) Z2q)))))
   (Z2o (Z2w (i:=3) scAtom.nd rfl (Or.inl rfl) (pe_op Z4j (Z2A (pv 0) T.cl mN GN hr bN .nil Z2z (Z2l Z2t (Z2l Z2t (Z2l (pe_op Z3I Z2t (pe_gc rfl B.cC)) Z2q)))) (pe_gc rfl B.cC)))
   (Z2o (Z2w (i:=4) scAtom.nd rfl (Or.inl rfl) (Z2A (pv 0) T.cl mN GN hr bN .nil Z2z (Z2l Z2t (Z2l Z2t (Z2l (pe_gc rfl B.cH) Z2q)))))
   (Z2o (Z2w (i:=5) scAtom.nd rfl (Or.inl rfl) (Z2A (pv 0) T.cl mN GN hr bN .nil Z2z (Z2l Z2t (Z2l Z2t (Z2l (pe_gc rfl B.cD) Z2q)))))
   (Z2s (Z2y (Z3M M GI hr2 rfl hC bI .nil pass0 (Z2l (pv 1) (Z2l (pv 2) (Z2l (pv 3) (Z2l (pv 4) (Z2l (pv 5) Z2q)))))))))))),?_⟩
  obtain⟨dx,h1⟩:=id hR
  refine⟨_,rfl,r,dx,_,rfl,h1,rf_no _ _ (by decide) (by decide),r,a,p,1,bs,_,_,rfl,hR,hS,hp,hb,?_⟩
  unfold atomM at k
  cases e1:numM bs p 1 1 118 with
  |error e=>rw [e1]at k;exact k
  |ok x =>
   rw [e1]at k
   dsimp only at k
   intro H1 hR1 o1
   obtain⟨dx1,g1⟩:=id hR1
   have S1:=o1.sq h1 hS
   refine⟨_,rfl,r,dx1,_,rfl,g1,rf_no _ _ (by decide) (by decide),r,a,p+1,2,bs,_,_,rfl,hR1,S1,by have:=(Z2x e1).1;omega,hb,?_⟩
   cases e2:numM bs (p+1) 2 0 500 with
   |error e=>rw [e2]at k;exact k.only o1
   |ok y =>
    rw [e2]at k
    dsimp only at k
    intro H2 hR2 o2
    obtain⟨dx2,g2⟩:=id hR2
    have S2:=o2.sq g1 S1
    refine⟨_,rfl,r,dx2,_,rfl,g2,rf_no _ _ (by decide) (by decide),_,_,rfl,rfl,.inl (by constructor<;>decide),r,a,p+3,1,bs,0,8,rfl,hR2,S2,by have:=(Z2x e2).1;omega,hb,?_⟩
    cases e3:numM bs (p+3) 1 0 8 with
    |error e=>rw [e3]at k;exact k.only (o1.trans o2)
    |ok c =>
     rw [e3]at k
     dsimp only at k
     intro H3 hR3 o3
     obtain⟨dx3,g3⟩:=id hR3
     have S3:=o3.sq g2 S2
     refine⟨_,_,rfl,rfl,?_⟩
     refine⟨_,rfl,r,dx3,_,rfl,g3,rf_no _ _ (by decide) (by decide),r,a,p+4,1,bs,_,_,rfl,hR3,S3,by have:=(Z2x e3).1;omega,hb,?_⟩
     cases e4:numM bs (p+4) 1 0 7 with
     |error e=>rw [e4]at k;exact k.only ((o1.trans o2).trans o3)
     |ok h =>
      rw [e4]at k
      dsimp only at k
      intro H4 hR4 o4
      obtain⟨dx4,g4⟩:=id hR4
      have S4:=o4.sq g3 S3
      refine⟨_,rfl,r,dx4,_,rfl,g4,rf_no _ _ (by decide) (by decide),r,a,p+5,1,bs,_,_,rfl,hR4,S4,by have:=(Z2x e4).1;omega,hb,?_⟩
      cases e5:numM bs (p+5) 1 0 2 with
      |error e=>rw [e5]at k;exact k.only (((o1.trans o2).trans o3).trans o4)
      |ok t =>
       rw [e5]at k
       dsimp only at k
       intro H5 hR5 o5
       obtain⟨dx5,g5⟩:=id hR5
       have a1:=Z2x e1
       have a2:=Z2x e2
       have a3:=Z2x e3
       have a4:=Z2x e4
       have a5:=Z2x e5
       have oo:=(((o1.trans o2).trans o3).trans o4).trans o5
       refine⟨_,rfl,_,rfl,_,rfl,_,rfl,_,rfl,fun u ud nu nd ndu=>⟨u,ud,⟨x.toNat,y.toNat,c-4,h.toNat,t.toNat⟩,?_,Z2n,fun H6 hA o6=>⟨rfl,?_⟩⟩⟩
       ·rw [Z0K (by omega:0≤x),Z0K (by omega:0≤y),Z0K (by omega:0≤h),Z0K (by omega:0≤t)];rfl
       ·have ru:r≠u:=Z2p g5 nu
        have rd:r≠ud:=Z2p g5 nd
        refine k H6 u ⟨dx5,o6 _ _ (by rw [Z2m ru,Z2m rd];exact g5) ru⟩ (fun b o e hb=>o6 _ _ (by rw [Z2m (Z2p (oo _ _ e hb) nu),Z2m (Z2p (oo _ _ e hb) nd)];exact oo _ _ e hb) (Z2p (oo _ _ e hb) nu)) (Z8X oo g5 nu) hA
end
def Objs{α:Type}(R:Hp→Addr→α→Prop)(H:Hp)(ts:List Addr)(l:List α):Prop:=ts.length=l.length∧∀ (j:Nat)(t:Addr)(x:α),ts[j]?=some t→l[j]?=some x→R H t x
theorem Objs.keep{α:Type}{R:Hp→Addr→α→Prop}{H H':Hp}{ts:List Addr}{l:List α}(h:Objs R H ts l)(k:∀ t x,t∈ts→R H t x→R H' t x):Objs R H' ts l:=⟨h.1,fun j t x a b=>k t x (Z0u a) (h.2 j t x a b)⟩
theorem Objs.nil{α:Type}{R:Hp→Addr→α→Prop}{H:Hp}:Objs R H [] []:=⟨rfl,fun j t m a b=>by simp at a⟩
theorem Objs.snoc{α:Type}{R:Hp→Addr→α→Prop}{H:Hp}{ts:List Addr}{l:List α}{t:Addr}{e:α}(h:Objs R H ts l)(ht:R H t e):Objs R H (ts++[t]) (l++[e]):=by
 refine⟨by simp [h.1],fun j t' e' a b=>?_⟩
 rw [List.getElem?_append]at a b
 rw [h.1]at a
 split at a
 ·rename_i hj
  rw [if_pos hj]at b
  exact h.2 j t' e' a b
 ·rename_i hj
  rw [if_neg hj]at b
  cases z:j-l.length with
  |zero =>
   rw [z]at a b
   cases a;cases b
   exact ht
  |succ n=>rw [z]at a;simp at a
theorem Objs.at{α:Type}{R:Hp→Addr→α→Prop}{H:Hp}{ts:List Addr}{l:List α}{i:Nat}{y:V}(h:Objs R H ts l)(hi:(ts.map V.ref)[i]?=some y):∃ t x,y=.ref t∧ts[i]?=some t∧l[i]?=some x∧R H t x:=by
 rw [Z0k]at hi
 cases e:ts[i]? with
 |none=>rw [e]at hi;cases hi
 |some t =>
  rw [e]at hi
  have lt:i<l.length:=by rw [←h.1];exact(Z0r.mp e).1
  have e2:l[i]?=some l[i]:=Z0j lt
  exact⟨t,l[i],(Option.some.inj hi).symm,rfl,e2,h.2 i t _ e e2⟩
theorem AtomAt.ref{CA:Addr}{H H':Hp}{t:Addr}{x:Fk.Atom}(h:AtomAt CA H t x)(k:∀ o,H t=some o→H' t=some o):AtomAt CA H' t x:=let ⟨dx,e⟩:=h;⟨dx,k _ e⟩
theorem BndAt.ref{CB:Addr}{H H':Hp}{t:Addr}{x:Fk.Bond}(h:BndAt CB H t x)(k:∀ o,H t=some o→H' t=some o):BndAt CB H' t x:=let ⟨dx,e⟩:=h;⟨dx,k _ e⟩
structure MolAt(CM CA CB:Addr)(H:Hp)(mr al bl:Addr)(as bs:List Addr)(M:Fk.Mol):Prop where
 top:∃ dx,H mr=some (.ins CM dx (mof al bl))
 atl:H al=some (.lst (as.map V.ref))
 ats:Objs (AtomAt CA) H as M.atoms
 bdl:H bl=some (.lst (bs.map V.ref))
 bds:Objs (BndAt CB) H bs M.bonds
theorem MolAt.same{CM CA CB:Addr}{H H':Hp}{mr al bl:Addr}{as bs:List Addr}{M:Fk.Mol}(h:MolAt CM CA CB H mr al bl as bs M)(s:L2.Same H H'):MolAt CM CA CB H' mr al bl as bs M :=
 ⟨let ⟨dx,e⟩:=h.top;⟨dx,s _ _ e⟩,s _ _ h.atl,h.ats.keep fun t x _ a=>a.ref fun o e=>s _ _ e,s _ _ h.bdl,h.bds.keep fun t x _ a=>a.ref fun o e=>s _ _ e⟩
def FltS(CF:Addr)(E:XK)(H:Hp)(rule place:Int):Prop:=∀ H' dx,Same H H'→H' dx=some (.xd (xf rule place 0))→E (.ref CF) (some dx) H'
theorem FltS.flt{CF:Addr}{E:XK}{H H1:Hp}{rule place:Int}{r:Addr}(f:FltS CF E H rule place)(s:Same H H1)(n:H r=none):Flt CF E H1 r rule place:=fun H' dx o h =>
 f H' dx (fun b ob e=>o b ob (s b ob e) (Z2p e n)) h
theorem Same.only{r:Addr}{H H1 H2:Hp}(s:L2.Same H H1)(o:Only r H1 H2)(n:H r=none):L2.Same H H2:=fun b ob e=>o b ob (s b ob e) (Z2p e n)
section
variable{P:Program}{w:World}{K:Z0a}{mg:Str→Option Value}{base:Heap}{CF CR fF CA CB CM:Addr}
def spBnd(K:Z0a)(CF CR CB:Addr):Sp:=fun vs H Q E=>∃ (r a b:Addr)(p:Nat)(n:Int)(bs:List Int)(be:Int×Int),vs=[.ref r,.int n,.ref b]∧RdAt CR H r a p∧SqL K H a (bs.map V.int)∧p≤bs.length∧(∀ x∈bs,0≤x∧x≤255) ∧
 SqT K H b (([be.1,be.2]:List Int).map V.int) ∧
 match bondM bs n p be with
 |.ok x=>∀ (H':Hp)(t:Addr),RdAt CR H' r a (p+4)→Only r H H'→H t=none→BndAt CB H' t x→Q (.ref t) H'
 |.error e=>Flt CF E H r e.1 e.2
theorem scBnd:Z2v ["reader","atom_count","before","start","a","b","order","side"] ["reader","atom_count","before"] (Z2r Z5a):=⟨rfl,rfl,rfl,by decide +kernel,rfl,by decide +kernel,by decide +kernel⟩
theorem okBnd{f fN fI:Addr}{fd fdN fdI:FuncData}(F:Fun K "read_bond" "read_bond" Z5a f fd)(T:TR K mg CF CR fF)(B:TM K mg)(GN:FnOk P w K mg base (CXF P w) 3 fN fdN ["self","size","least","most"] (spNum K CF CR))(mN:Meth K CR "number" fN)
  (bN:Binds K fdN ["self","size","least","most"] [])(M:Mk K CB fI)(hC:mg "Bond" = some (.ref CB))(GI:FnOk P w K mg base CX0 1 fI fdI ["self","a","b","order","side"] (spBI CB))(bI:Binds K fdI ["self","a","b","order","side"] []) :
  FnOk P w K mg base (CXF P w) 4 f fd ["reader","atom_count","before"] (spBnd K CF CR CB):=by
 refine okX F scBnd (fun vs H Q E h=>?_) (fun cdv A outer s H vs Q E hr h=>?_)
 ·obtain⟨r,a,b,p,n,bs,be,rfl,_⟩:=h
  rfl
 ·obtain⟨r,a,b,p,n,bs,be,rfl,hR,hS,hp,hb,hB,k⟩:=h
  have hr2:Room 2 _:=hr.mono (by decide)
  have hdp:=(show A.depth+1+1<recursionLimit from by have:=hr.dp;simp only [Around.deeper]at this;omega)
  refine⟨_,Z2o (Z2w (i:=3) scBnd.nd rfl (Or.inl rfl) (Z2u (pv 0) rfl))
   (Z2o (Z2w (i:=4) scBnd.nd rfl (Or.inl rfl) (Z2A (pv 0) T.cl mN GN hr bN .nil Z2z (Z2l Z2t (Z2l Z2t (Z2l (pe_op Z4j (pv 1) Z2t) Z2q)))))
   (Z2o (Z2w (i:=5) scBnd.nd rfl (Or.inl rfl) (Z2A (pv 0) T.cl mN GN hr bN .nil Z2z (Z2l Z2t (Z2l (pe_op Z3p (pv 4) Z2t) (Z2l (pe_op Z4j (pv 1) Z2t) Z2q)))))
   (Z2o (ps_if (Z2G (op_leT hr.units0) (Z4l (Z2l (pv 4) (Z2l (pv 5) Z2q))) (pv 2) (Z2D _))
     (Z2s (Z3K T.xi rfl rfl hdp rfl T.mgF Z2Q (Z2l (pe_gc rfl B.c3) (Z2l (pv 3) Z2q)))) Z2L)
   (Z2o (Z2w (i:=6) scBnd.nd rfl (Or.inl rfl) (Z2A (pv 0) T.cl mN GN hr bN .nil Z2z (Z2l Z2t (Z2l Z2t (Z2l (pe_gc rfl B.cO) Z2q)))))
   (Z2o (Z2w (i:=7) scBnd.nd rfl (Or.inl rfl) (Z2A (pv 0) T.cl mN GN hr bN .nil Z2z (Z2l Z2t (Z2l Z2t (Z2l (pe_gc rfl B.cS) Z2q)))))
   (Z2s (Z2y (Z3M M GI hr2 rfl hC bI .nil pass0 (Z2l (pv 4) (Z2l (pv 5) (Z2l (pv 6) (Z2l (pv 7) Z2q)))))))))))),?_⟩
  obtain⟨dx,h1⟩:=id hR
  refine⟨_,rfl,r,CR,dx,_,_,rfl,h1,T.cl,T.np,Z3j _ _,?_⟩
  refine⟨_,rfl,r,dx,_,rfl,h1,rf_no _ _ (by decide) (by decide),_,rfl,_,_,rfl,rfl,r,a,p,1,bs,_,_,rfl,hR,hS,hp,hb,?_⟩
  unfold bondM at k
  cases e1:numM bs p 1 0 (n-1)with
  |error e=>rw [e1]at k;exact k
  |ok x =>
   rw [e1]at k
   dsimp only at k
   intro H1 hR1 o1
   obtain⟨dx1,g1⟩:=id hR1
   have S1:=o1.sq h1 hS
   refine⟨_,rfl,r,dx1,_,rfl,g1,rf_no _ _ (by decide) (by decide),_,rfl,_,_,rfl,rfl,_,rfl,_,_,rfl,rfl,r,a,p+1,1,bs,_,_,rfl,hR1,S1,by have:=(Z2x e1).1;omega,hb,?_⟩
   cases e2:numM bs (p+1) 1 (x+1) (n-1)with
   |error e=>rw [e2]at k;exact k.only o1
   |ok y =>
    rw [e2]at k
    dsimp only at k
    intro H2 hR2 o2
    obtain⟨dx2,g2⟩:=id hR2
    have S2:=o2.sq g1 S1
    have B2:=(o1.trans o2).sqT h1 hB
    refine⟨_,rfl,_,rfl,(by show 2≤sizeLine;decide),fun t ht=>⟨_,rfl,t,b,[x,y],[be.1,be.2],rfl,rfl,SqT.of Z2n,RD.Same.sqT (RD.Same.new ht) B2,_,rfl,ite2 (fun hc=>?_) (fun hc=>?_)⟩⟩
    ·rw [if_pos hc]at k
     refine⟨_,rfl,_,_,_,.inr ⟨rfl,rfl⟩,fun dx' hn=>?_⟩
     exact k _ dx' (((o1.trans o2).new ht).new hn) Z2n
    ·rw [if_neg hc]at k
     have hne:r≠t:=Z2p g2 ht
     have hR3:RdAt CR (upd H2 t (.tup [.int x,.int y])) r a (p+1+1):=⟨dx2,by rw [Z2m hne];exact g2⟩
     have o3:Only r H (upd H2 t (.tup [.int x,.int y])):=(o1.trans o2).new ht
     have S3:SqL K (upd H2 t (.tup [.int x,.int y])) a (bs.map V.int):=o3.sq h1 hS
     obtain⟨dx3,g3⟩:=id hR3
     refine⟨_,rfl,r,dx3,_,rfl,g3,rf_no _ _ (by decide) (by decide),r,a,p+2,1,bs,_,_,rfl,hR3,S3,by have:=(Z2x e2).1;omega,hb,?_⟩
     cases e3:numM bs (p+2) 1 1 3 with
     |error e=>rw [e3]at k;exact k.only o3
     |ok o =>
      rw [e3]at k
      dsimp only at k
      intro H4 hR4 o4
      obtain⟨dx4,g4⟩:=id hR4
      have S4:=o4.sq g3 S3
      refine⟨_,rfl,r,dx4,_,rfl,g4,rf_no _ _ (by decide) (by decide),r,a,p+3,1,bs,_,_,rfl,hR4,S4,by have:=(Z2x e3).1;omega,hb,?_⟩
      cases e4:numM bs (p+3) 1 0 2 with
      |error e=>rw [e4]at k;exact k.only (o3.trans o4)
      |ok z =>
       rw [e4]at k
       dsimp only at k
       intro H5 hR5 o5
       obtain⟨dx5,g5⟩:=id hR5
       have a1:=Z2x e1
       have a2:=Z2x e2
       have a3:=Z2x e3
       have a4:=Z2x e4
       have oo:=(o3.trans o4).trans o5
       refine⟨_,rfl,_,rfl,_,rfl,_,rfl,fun u ud nu nd ndu=>⟨u,ud,⟨x.toNat,y.toNat,o.toNat,z.toNat⟩,?_,Z2n,fun H6 hA o6=>⟨rfl,?_⟩⟩⟩
       ·rw [Z0K (by omega:0≤x),Z0K (by omega:0≤y),Z0K (by omega:0≤o),Z0K (by omega:0≤z)];rfl
       ·have ru:r≠u:=Z2p g5 nu
        have rd:r≠ud:=Z2p g5 nd
        refine k H6 u ⟨dx5,o6 _ _ (by rw [Z2m ru,Z2m rd];exact g5) ru⟩ (fun b o e hb=>o6 _ _ (by rw [Z2m (Z2p (oo _ _ e hb) nu),Z2m (Z2p (oo _ _ e hb) nd)];exact oo _ _ e hb) (Z2p (oo _ _ e hb) nu)) (Z8X oo g5 nu) hA
end
theorem Z5t(bs:List Int)(k p:Nat):Z3f bs (k+1) p=match atomM bs p with
  |.error e=>.error e
  |.ok x=>match Z3f bs k (p+6)with
   |.error e=>.error e
   |.ok y=>.ok (x::y):=rfl
theorem Z9E(bs:List Int)(p:Nat):Z3f bs 0 p=.ok []:=rfl
theorem Z9K(bs:List Int)(n:Int)(p:Nat)(b:Int×Int):Z3e bs n 0 p b=.ok []:=rfl
theorem Z5v(bs:List Int)(n:Int)(k p:Nat)(b:Int×Int):Z3e bs n (k+1) p b=match bondM bs n p b with
  |.error e=>.error e
  |.ok x=>match Z3e bs n k (p+4) (x.a,x.b)with
   |.error e=>.error e
   |.ok y=>.ok (x::y):=rfl
section
variable{P:Program}{w:World}{K:Z0a}{mg:Str→Option Value}{base:Heap}{CF CR fF CA CB CM:Addr}
def Zah(K:Z0a)(CF CA CB CM:Addr):Sp:=fun vs H Q E=>∃ (a:Addr)(bs:List Int),vs=[.ref a]∧SqL K H a (bs.map V.int)∧(∀ x∈bs,0≤x∧x≤255) ∧
 match Z4o bs with
 |.ok M=>∀ (H':Hp)(mr al bl:Addr)(as ds:List Addr),Same H H'→H al=none→H bl=none→MolAt CM CA CB H' mr al bl as ds M→Q (.ref mr) H'
 |.error e=>FltS CF E H e.1 e.2
theorem scParts:Z2v ["form","reader","atom_count","bond_count","atoms","bonds","before","k","bond"] ["form"] (Z2r Z3H):=⟨rfl,rfl,rfl,by decide +kernel,rfl,by decide +kernel,by decide +kernel⟩
theorem blkParts:BlkOk ["form","reader","atom_count","bond_count","atoms","bonds","before","k","bond"] (Z2r Z3H) (Z7X (Z2F Z3H)) [("k",7)]:=⟨rfl,by decide +kernel,by decide +kernel,by decide +kernel,by decide +kernel⟩
theorem okParts{f fI fM fN fA fB fW fJ:Addr}{fd fdI fdM fdN fdA fdB fdW fdJ:FuncData}(F:Fun K "read_parts" "read_parts" Z3H f fd)(T:TR K mg CF CR fF)(B:TM K mg)(TB:TBd K CB)
  (M:Mk K CR fI)(GI:FnOk P w K mg base CX0 1 fI fdI ["self","form"] (spRI CR))(bI:Binds K fdI ["self","form"] [])
  (GM:FnOk P w K mg base (CXF P w) 2 fM fdM ["self","mark"] (Z9l K CF CR))(mM:Meth K CR "expect_mark" fM)(bM:Binds K fdM ["self","mark"] [])
  (GN:FnOk P w K mg base (CXF P w) 3 fN fdN ["self","size","least","most"] (spNum K CF CR))(mN:Meth K CR "number" fN)(bN:Binds K fdN ["self","size","least","most"] [])
  (GW:FnOk P w K mg base (CXF P w) 2 fW fdW ["self"] (spFin K CF CR))(mW:Meth K CR "finish" fW)(bW:Binds K fdW ["self"] [])
  (GA:FnOk P w K mg base (CXF P w) 4 fA fdA ["reader"] (spAtom K CF CR CA))(mA:mg "read_atom" = some (.ref fA))(kA:PySem.W.keepIn K (.ref fA)=true)(bA:Binds K fdA ["reader"] [])
  (GB:FnOk P w K mg base (CXF P w) 4 fB fdB ["reader","atom_count","before"] (spBnd K CF CR CB))(mB:mg "read_bond" = some (.ref fB))(kB:PySem.W.keepIn K (.ref fB)=true)(bB:Binds K fdB ["reader","atom_count","before"] [])
  (J:Mk K CM fJ)(hJ:mg "Molecule" = some (.ref CM))(GJ:FnOk P w K mg base CX0 1 fJ fdJ ["self","atoms","bonds"] (spMI CM))(bJ:Binds K fdJ ["self","atoms","bonds"] []) :
  FnOk P w K mg base (CXF P w) 5 f fd ["form"] (Zah K CF CA CB CM):=by
 refine okX F scParts (fun vs H Q E h=>?_) (fun cdv A outer s H vs Q E hr h=>?_)
 ·obtain⟨a,bs,rfl,_⟩:=h
  rfl
 ·obtain⟨a,bs,rfl,hS,hb,k⟩:=h
  obtain⟨aM,eM,hM⟩:=B.mark
  obtain⟨aB,eB,hB⟩:=B.before
  have hr2:Room 2 _:=hr.mono (by decide)
  have hr3:Room 3 _:=hr.mono (by decide)
  refine⟨_,Z2o (Z2w (i:=1) scParts.nd rfl (Or.inr rfl) (Z3M M GI hr2 rfl T.mgR bI .nil pass0 (Z2l (pv 0) Z2q)))
   (Z2o (Z2K (Z2A (pv 1) T.cl mM GM hr2 bM .nil Z2z (Z2l (Z6F (v:=.ref aM) rfl eM rfl) Z2q)))
   (Z2o (Z2w (i:=2) scParts.nd rfl (Or.inl rfl) (Z2A (pv 1) T.cl mN GN hr3 bN .nil Z2z (Z2l Z2t (Z2l Z2t (Z2l (pe_gc rfl B.cA) Z2q)))))
   (Z2o (Z2w (i:=3) scParts.nd rfl (Or.inl rfl) (Z2A (pv 1) T.cl mN GN hr3 bN .nil Z2z (Z2l Z2t (Z2l Z2t (Z2l (pe_gc rfl B.cB) Z2q)))))
   (Z2o (Z6i (E:=E) (i:=4) rfl rfl rfl (fun _ _ h=>h) rfl scParts.nd rfl rfl (Z4g rfl rfl rfl rfl) (Z4J rfl B.range (Z2l (pv 2) Z2q)) blkParts (fun s H C cl fp xe=>Z2H (i:=7) scParts.nd rfl (Or.inl rfl)) (fun s H C cl fp xe=>Z4f)
      (fun s H C cl fp xe hx=>Z2B GA hr rfl mA kA bA .nil hx (Z2l (pv 1) Z2q)))
   (Z2o (Z2w (i:=5) scParts.nd rfl (Or.inl rfl) (Z3B Z2q))
   (Z2o (Z2w (i:=6) scParts.nd rfl (Or.inl rfl) (Z6F (v:=.ref aB) rfl eB rfl))
   (Z2o (Z3A Z4N rfl (Z4J rfl B.range (Z2l (pv 3) Z2q)) (Z2H (i:=7) scParts.nd rfl (Or.inl rfl))
     (Z2o (Z2w (i:=8) scParts.nd rfl (Or.inl rfl) (Z2B GB hr rfl mB kB bB .nil Z2z (Z2l (pv 1) (Z2l (pv 2) (Z2l (pv 6) Z2q)))))
     (Z2o (Z2K (pe_bm Z1e Z1A Z1B Z4E (pv 5) (Z2l (pv 8) Z2q)))
     (Z2s (Z2w (i:=6) scParts.nd rfl (Or.inl rfl) (Z4l (Z2l (Z2u (pv 8) rfl) (Z2l (Z2u (pv 8) rfl) Z2q))))))))
   (Z2o (Z2K (Z7f (pv 1) T.cl mW GW hr2 bW .nil Z2z))
   (Z2s (Z2y (Z3M J GJ hr2 rfl hJ bJ .nil pass0 (Z2l (pv 4) (Z2l (pv 5) Z2q))))))))))))),?_⟩
  unfold Z4o at k
  refine⟨_,rfl,fun r dx nr nd ndr=>⟨r,dx,a,rfl,Z2n,fun H1 hR1 o1=>⟨rfl,?_⟩⟩⟩
  have s1:L2.Same H H1:=fun b o e=>o1 b o (by rw [Z2m (Z2p e nr),Z2m (Z2p e nd)];exact e) (Z2p e nr)
  have S1:=s1.seq hS
  obtain⟨dx1,g1⟩:=id hR1
  refine⟨_,rfl,r,dx1,_,rfl,g1,rf_no _ _ (by decide) (by decide),r,a,aM,0,bs,_,rfl,hR1,S1,hM _,Z0p _,?_⟩
  cases e1:markM bs 0 [70,75,77,49]with
  |error e=>rw [e1]at k;exact FltS.flt k s1 nr
  |ok p =>
   rw [e1]at k
   dsimp only at k
   have hp:=Z5n (Z0p _) e1
   intro H2 hR2 o2
   have s2:=Same.only s1 o2 nr
   have S2:=s2.seq hS
   obtain⟨dx2,g2⟩:=id hR2
   refine⟨_,rfl,r,dx2,_,rfl,g2,rf_no _ _ (by decide) (by decide),r,a,p,1,bs,_,_,rfl,hR2,S2,hp,hb,?_⟩
   cases e2:numM bs p 1 0 128 with
   |error e=>rw [e2]at k;exact FltS.flt k s2 nr
   |ok n =>
    rw [e2]at k
    dsimp only at k
    obtain⟨q1,q2,q3,_⟩:=Z2x e2
    intro H3 hR3 o3
    have s3:=Same.only s2 o3 nr
    have S3:=s3.seq hS
    obtain⟨dx3,g3⟩:=id hR3
    refine⟨_,rfl,r,dx3,_,rfl,g3,rf_no _ _ (by decide) (by decide),r,a,p+1,1,bs,_,_,rfl,hR3,S3,by omega,hb,?_⟩
    cases e3:numM bs (p+1) 1 0 192 with
    |error e=>rw [e3]at k;exact FltS.flt k s3 nr
    |ok m =>
     rw [e3]at k
     dsimp only at k
     obtain⟨m1,m2,m3,_⟩:=Z2x e3
     intro H4 hR4 o4
     have s4:=Same.only s3 o4 nr
     obtain⟨dx4,g4⟩:=id hR4
     refine⟨_,rfl,n,rfl,by omega,by omega,fun al hal=>Z6c (lo:=0) (n:=n.toNat) (fun i H'=>∃ (as:List Addr)(l1:List Fk.Atom),L2.Same H H'∧RdAt CR H' r a (p+2+6*i)∧p+2+6*i≤bs.length∧H' al=some (.lst (as.map V.ref))∧l1.length=i∧Objs (AtomAt CA) H' as l1∧r∉as∧al∉as ∧
       Z3f bs n.toNat (p+2)=(match Z3f bs (n.toNat-i) (p+2+6*i)with |.error e=>.error e |.ok y=>.ok (l1++y)))
      ⟨[],[],s4.trans (RD.Same.new hal),⟨dx4,by rw [Z2m (Z2p g4 hal)];exact g4⟩,by omega,Z2n,rfl,Objs.nil,by simp,by simp,?_⟩ ?_ ?_⟩
     ·rw [Z1q]
      show Z3f bs n.toNat (p+2)=_
      cases Z3f bs n.toNat (p+2)<;>rfl
     ·rintro i H' hi ⟨as,l1,s5,hR5,hq,hal5,hl1,hO,nra,naa,hk⟩
      obtain⟨dx5,g5⟩:=id hR5
      have nal:H al=none:=s4.free hal
      have S5:=s5.seq hS
      have hn:n.toNat-i=(n.toNat-(i+1))+1:=by omega
      rw [hn,Z5t]at hk
      refine⟨rfl,_,rfl,r,a,p+2+6*i,bs,rfl,hR5,S5,hq,hb,?_⟩
      cases e4:atomM bs (p+2+6*i)with
      |error e =>
       rw [e4]at hk
       dsimp only at hk
       rw [hk]at k
       exact FltS.flt k s5 nr
      |ok x =>
       rw [e4]at hk
       dsimp only at hk
       intro H6 t hR6 o6 nt ht6
       have s6:=Same.only s5 o6 nr
       obtain⟨dx6,g6⟩:=id hR6
       obtain⟨dt,gt⟩:=id ht6
       have ral:r≠al:=ne_of g5 hal5 (by intro z;cases z)
       have hal6:H6 al=some (.lst (as.map V.ref)):=o6 _ _ hal5 ral.symm
       have htal:t≠al:=ne_of gt hal6 (by intro z;cases z)
       have htr:t≠r:=fun z=>by rw [z,g5]at nt;cases nt
       refine⟨_,hal6,by rw [Z0b,hO.1,hl1,sizeLine_eq];omega,as++[t],l1++[x],fun b o e=>?_,⟨dx6,?_⟩,?_,?_,by simp [hl1],?_,?_,?_,?_⟩
       ·rw [Z2m (Z2p e nal)];exact s6 _ _ e
       ·rw [Z2m ral,show p+2+6*(i+1)=p+2+6*i+6 by omega];exact g6
       ·have:=(Z9u e4).1;omega
       ·rw [Z2n,Z0z];rfl
       ·refine Objs.snoc (hO.keep fun t' x' hm ha=>ha.ref fun o e=>?_) (ht6.ref fun o e=>?_)
        ·rw [Z2m (fun z=>naa (by rw [←z];exact hm))]
         exact o6 _ _ e (fun z=>nra (by rw [←z];exact hm))
        ·rw [Z2m htal];exact e
       ·rw [Z0m,not_or];exact⟨nra,by simpa using htr.symm⟩
       ·rw [Z0m,not_or];exact⟨naa,by simpa using htal.symm⟩
       ·rw [hk,show p+2+6*(i+1)=p+2+6*i+6 by omega]
        cases Z3f bs (n.toNat-(i+1)) (p+2+6*i+6)with
        |error e=>rfl
        |ok y=>simp
     ·rintro H5 ⟨as,l1,s5,hR5,hq,hal5,hl1,hO,nra,naa,hk⟩
      rw [Z0W,Z9E]at hk
      dsimp only at hk
      rw [hk]at k
      simp only [Z0F]at k
      obtain⟨dx5,g5⟩:=id hR5
      have nal:H al=none:=s4.free hal
      refine⟨Z0p _,fun le hle=>?_⟩
      have nle:H le=none:=s5.free hle
      have s6:L2.Same H (upd H5 le (.lst [])):=s5.trans (RD.Same.new hle)
      have rle:r≠le:=Z2p g5 hle
      have ale:al≠le:=Z2p hal5 hle
      generalize hP:p+2+6*n.toNat=P0 at hq k hR5 g5
      refine⟨_,rfl,m,rfl,by omega,by omega,Zbe (lo:=0) (n:=m.toNat) (fun i σ H'=>∃ (v7 v8:Option V)(b:Addr)(be:Int×Int)(l2:List Fk.Bond)(ts:List Addr),
       σ=[some (.ref a),some (.ref r),some (.int n),some (.int m),some (.ref al),some (.ref le),some (.ref b),v7,v8]∧L2.Same H H'∧RdAt CR H' r a (P0+4*i)∧P0+4*i≤bs.length∧H' al=some (.lst (as.map V.ref))∧Objs (AtomAt CA) H' as l1∧H' le=some (.lst (ts.map V.ref))∧Objs (BndAt CB) H' ts l2∧r∉ts∧l2.length=i ∧
       SqT K H' b (([be.1,be.2]:List Int).map V.int)∧Z3e bs n m.toNat P0 (0,0)=(match Z3e bs n (m.toNat-i) (P0+4*i) be with |.error e=>.error e |.ok y=>.ok (l2++y)))
       ⟨none,none,aB,(0,0),[],[],rfl,s6,⟨dx5,by rw [Z2m rle];exact g5⟩,hq,by rw [Z2m ale];exact hal5,hO.keep fun t x _ ha=>ha.ref fun o e=>by rw [Z2m (Z2p e hle)];exact e,Z2n,Objs.nil,by simp,rfl,hB _,?_⟩ ?_ ?_⟩
      ·rw [Z1q]
       show Z3e bs n m.toNat P0 (0,0)=_
       cases Z3e bs n m.toNat P0 (0,0)<;>rfl
      ·rintro i σ H' hi ⟨v7,v8,b,be,l2,ts,rfl,s7,hR7,hq7,hal7,hA7,hle7,hE7,nrt,hl2,hB7,hk7⟩
       obtain⟨dx7,g7⟩:=id hR7
       have S7:=s7.seq hS
       have hn:m.toNat-i=(m.toNat-(i+1))+1:=by omega
       rw [hn,Z5v]at hk7
       refine⟨_,rfl,_,rfl,_,rfl,r,a,b,P0+4*i,n,bs,be,rfl,hR7,S7,hq7,hb,hB7,?_⟩
       cases e4:bondM bs n (P0+4*i) be with
       |error e =>
        rw [e4]at hk7
        dsimp only at hk7
        rw [hk7]at k
        exact FltS.flt k s7 nr
       |ok x =>
        rw [e4]at hk7
        dsimp only at hk7
        intro H8 t hR8 o8 nt ht8
        have s8:=Same.only s7 o8 nr
        obtain⟨dx8,g8⟩:=id hR8
        obtain⟨dt,gt⟩:=id ht8
        have hle8:H8 le=some (.lst (ts.map V.ref)):=o8 _ _ hle7 rle.symm
        have ral:r≠al:=ne_of g7 hal7 (by intro z;cases z)
        have hal8:H8 al=some (.lst (as.map V.ref)):=o8 _ _ hal7 ral.symm
        have htr:t≠r:=fun z=>by rw [z,g7]at nt;cases nt
        have htl:t≠le:=ne_of gt hle8 (by intro y;cases y)
        refine⟨_,rfl,.inl ⟨rfl,_,SqL.of hle8⟩,_,rfl,le,_,_,rfl,rfl,hle8,(by rw [Z0b,hE7.1,hl2];rw [sizeLine_eq];omega),?_⟩
        have ht9:upd H8 le (.lst (ts.map V.ref++[.ref t])) t=some (.ins CB dt (bf x.a x.b (x.order:Int) (x.side:Int))):=by rw [Z2m htl];exact gt
        refine⟨_,rfl,t,CB,dt,_,_,rfl,ht9,TB.cl,TB.na,bf_a _ _ _ _,_,rfl,t,CB,dt,_,_,rfl,ht9,TB.cl,TB.nb,bf_b _ _ _ _,(by show 2≤sizeLine;decide),fun u hu=>?_⟩
        have s9:L2.Same H (upd H8 le (.lst (ts.map V.ref++[.ref t]))):=fun b' o e=>by rw [Z2m (Z2p e nle)];exact s8 _ _ e
        have r9:upd H8 le (.lst (ts.map V.ref++[.ref t])) r=some (.ins CR dx8 (rf a ((P0+4*i+4:Nat):Int))):=by rw [Z2m rle];exact g8
        have k9:∀ {b':Addr}{o:HO},H8 b'=some o→b'≠le→upd (upd H8 le (.lst (ts.map V.ref++[.ref t]))) u (.tup [.int (x.a:Int),.int (x.b:Int)]) b'=some o:=fun{b' o} e z=>by
         have e9:upd H8 le (.lst (ts.map V.ref++[.ref t])) b'=some o:=by rw [Z2m z];exact e
         rw [Z2m (Z2p e9 hu)];exact e9
        refine⟨_,_,u,((x.a:Int),(x.b:Int)),l2++[x],ts++[t],rfl,s9.trans (RD.Same.new hu),⟨dx8,?_⟩,?_,k9 hal8 ale,?_,?_,?_,?_,by simp [hl2],SqT.of Z2n,?_⟩
        ·rw [Z2m (Z2p r9 hu),show P0+4*(i+1)=P0+4*i+4 by omega];exact r9
        ·have:=(Z8W e4).1;omega
        ·exact hA7.keep fun t' x' hm ha=>by
          obtain⟨d',e'⟩:=ha
          exact⟨d',k9 (o8 _ _ e' (fun z=>nra (by rw [←z];exact hm))) (ne_of e' hle7 (by intro y;cases y))⟩
        ·rw [Z2m (Z2p Z2n hu),Z2n,Z0z];rfl
        ·refine Objs.snoc (hE7.keep fun t' x' hm ha=>?_) ⟨dt,k9 gt htl⟩
         obtain⟨d',e'⟩:=ha
         exact⟨d',k9 (o8 _ _ e' (fun z=>nrt (by rw [←z];exact hm))) (ne_of e' hle7 (by intro y;cases y))⟩
        ·rw [Z0m,not_or];exact⟨nrt,by simpa using htr.symm⟩
        ·rw [hk7,show P0+4*(i+1)=P0+4*i+4 by omega]
         cases Z3e bs n (m.toNat-(i+1)) (P0+4*i+4) ((x.a:Int),(x.b:Int))with
         |error e=>rfl
         |ok y=>simp
      ·rintro σ H' ⟨v7,v8,b,be,l2,ts,rfl,s7,hR7,hq7,hal7,hA7,hle7,hE7,nrt,hl2,hB7,hk7⟩
       rw [Z0W,Z9K]at hk7
       dsimp only at hk7
       rw [hk7]at k
       simp only [Z0F]at k
       obtain⟨dx7,g7⟩:=id hR7
       refine⟨_,rfl,r,dx7,_,rfl,g7,rf_no _ _ (by decide) (by decide),r,a,P0+4*m.toNat,bs,rfl,hR7,s7.seq hS,hq7,fun hqe H8 s8=>?_,fun hlt=>?_⟩
       ·rw [if_neg (by omega)]at k
        refine⟨_,rfl,_,rfl,fun u ud nu nd ndu=>⟨u,ud,al,le,rfl,Z2n,fun H9 hM9 o9=>⟨rfl,?_⟩⟩⟩
        have s9:L2.Same H8 H9:=fun b' o e=>o9 _ _ (by rw [Z2m (Z2p e nu),Z2m (Z2p e nd)];exact e) (Z2p e nu)
        have s79:L2.Same H' H9:=s8.trans s9
        exact k H9 u al le as ts (s7.trans s79) nal nle ⟨⟨ud,hM9⟩,s79 _ _ hal7,hA7.keep fun t x _ ha=>ha.ref fun o e=>s79 _ _ e,s79 _ _ hle7,hE7.keep fun t x _ ha=>ha.ref fun o e=>s79 _ _ e⟩
       ·rw [if_pos hlt]at k
        exact FltS.flt k s7 nr
end
end BK
end
section
namespace BK
open Fk
def cbn:List Bond→List Nat→Nat→Nat
 |x::L,o::l,v=>(if x.at_ v=true then o else 0)+cbn L l v
 |_,_,_=>0
theorem Z5D(l:List Nat)(v:Nat):cbn [] l v=0:=by cases l<;>rfl
theorem Z4x(x:Bond)(L:List Bond)(o:Nat)(l:List Nat)(v:Nat):cbn (x::L) (o::l) v=(if x.at_ v=true then o else 0)+cbn L l v:=rfl
theorem Z8q:∀ (L:List Bond)(l:List Nat)(v:Nat),l.length=L.length→(∀ o∈l,1≤o∧o≤3)→(L.filter fun x=>x.at_ v).length≤cbn L l v∧cbn L l v≤3*(L.filter fun x=>x.at_ v).length
 |[],l,v,_,_=>by rw [Z5D];simp
 |x::L,[],v,h,_=>by simp at h
 |x::L,o::l,v,h,hb=>by
  have ih:=Z8q L l v (by simpa using h) fun o' ho=>hb o' (Z0g _ ho)
  have ho:=hb o (Z0h ..)
  rw [Z4x]
  by_cases q:x.at_ v=true
  ·rw [Z1C (p:=fun x:Bond=>x.at_ v) q,if_pos q,Z0q];omega
  ·rw [Z1D (p:=fun x:Bond=>x.at_ v) q,if_neg q];omega
theorem Z5N(l:List Nat)(v n i:Nat):(addTo l v n).getD i 0=if i<l.length then(if i=v then l.getD i 0+n else l.getD i 0)else 0:=by
 unfold addTo
 rw [Z0C,Z0k,List.getElem?_zipIdx]
 by_cases h:i<l.length
 ·rw [if_pos h,Z0j h]
  simp only [Z1c,Z1U,Nat.zero_add]
  rw [Z0C,Z0j h]
  rfl
 ·rw [if_neg h,Z1r.mpr (by omega)]
  rfl
theorem Z5e(l:List Nat)(v n:Nat):(addTo l v n).length=l.length:=by
 unfold addTo
 rw [Z0b,List.length_zipIdx]
theorem ZaQ{l:List Nat}{x:Bond}{o:Nat}(ha:x.a<l.length)(hb:x.b<l.length)(hn:x.a≠x.b)(v:Nat):(addTo (addTo l x.a o) x.b o).getD v 0=l.getD v 0+if x.at_ v=true then o else 0:=by
 rw [Z5N,Z5e]
 have hat:x.at_ v=true↔v=x.a∨v=x.b:=by
  unfold Bond.at_
  rw [Bool.or_eq_true,beq_iff_eq,beq_iff_eq]
  exact⟨fun h=>h.imp Eq.symm Eq.symm,fun h=>h.imp Eq.symm Eq.symm⟩
 by_cases hv:v<l.length
 ·rw [if_pos hv]
  by_cases q2:v=x.b
  ·rw [if_pos q2,Z5N,if_pos hv,if_neg (by omega),if_pos (hat.mpr (.inr q2))]
  ·rw [if_neg q2,Z5N,if_pos hv]
   by_cases q1:v=x.a
   ·rw [if_pos q1,if_pos (hat.mpr (.inl q1))]
   ·rw [if_neg q1,if_neg (fun h=>(hat.mp h).elim q1 q2)];rfl
 ·rw [if_neg hv,if_neg (fun h=>(hat.mp h).elim (by omega) (by omega)),Z0C,Z1r.mpr (by omega)]
  rfl
theorem ZaG{l m:List Nat}(h:l.length=m.length)(k:∀ v,l.getD v 0=m.getD v 0):l=m:=by
 apply List.ext_getElem h
 intro i h1 h2
 have:=k i
 rw [Z0C,Z0C,Z0j h1,Z0j h2]at this
 exact this
theorem Z5O(want:List Nat):∀ (L:List Bond)(part l:List Nat),part.length=want.length→(∀ x∈L,x.a<want.length∧x.b<want.length∧x.a≠x.b) →
  (l∈ordersFor want L part↔l.length=L.length∧(∀ o∈l,1≤o∧o≤3)∧∀ v,part.getD v 0+cbn L l v=want.getD v 0)
 |[],part,l,hl,_=>by
  unfold ordersFor
  constructor
  ·intro h
   split at h
   ·rename_i q
    have q:=beq_iff_eq.mp q
    have h:=Z0l.mp h
    subst h q
    exact⟨rfl,fun o ho=>by simp at ho,fun v=>by rw [Z5D];rfl⟩
   ·simp at h
  ·rintro⟨h1,_,h3⟩
   have:l=[]:=Z1Q h1
   subst this
   have:part=want:=ZaG hl fun v=>by have:=h3 v;rw [Z5D]at this;exact this
   rw [if_pos (beq_iff_eq.mpr this)]
   exact Z0l.mpr rfl
 |x::L,part,l,hl,hw=>by
  have hx:=hw x (Z0h ..)
  have hL:∀ y∈L,y.a<want.length∧y.b<want.length∧y.a≠y.b:=fun y hy=>hw y (Z0g _ hy)
  have q2:∀ o,(addTo (addTo part x.a o) x.b o).length=want.length:=fun o=>by rw [Z5e,Z5e,hl]
  have gd:∀ o v,(addTo (addTo part x.a o) x.b o).getD v 0=part.getD v 0+if x.at_ v=true then o else 0:=fun o v=>ZaQ (by rw [hl];exact hx.1) (by rw [hl];exact hx.2.1) hx.2.2 v
  unfold ordersFor
  rw [List.mem_flatMap]
  constructor
  ·rintro⟨o,ho,h⟩
   dsimp only at h
   split at h
   ·obtain⟨r,hr,rfl⟩:=Z0H.mp h
    obtain⟨h1,h2,h3⟩:=(Z5O want L _ r (q2 o) hL).mp hr
    refine⟨by rw [Z0q,Z0q,h1],fun o' ho'=>?_,fun v=>?_⟩
    ·rcases Z0e.mp ho' with rfl |ho'
     ·simp at ho;omega
     ·exact h2 o' ho'
    ·rw [Z4x,←h3 v,gd o v];omega
   ·simp at h
  ·rintro⟨h1,h2,h3⟩
   cases l with
   |nil=>simp at h1
   |cons o r =>
    have ho:=h2 o (Z0h ..)
    have hr2:∀ o'∈r,1≤o'∧o'≤3:=fun o' h=>h2 o' (Z0g _ h)
    have hr1:r.length=L.length:=by simpa using h1
    have h3':∀ v,(addTo (addTo part x.a o) x.b o).getD v 0+cbn L r v=want.getD v 0:=fun v=>by
     rw [gd o v,←h3 v,Z4x];omega
    have can:∀ v,canStill (addTo (addTo part x.a o) x.b o) want L v=true:=fun v=>by
     unfold canStill
     have:=Z8q L r v hr1 hr2
     have:=h3' v
     rw [Z0B,decide_eq_true_iff,decide_eq_true_iff]
     omega
    refine⟨o,by simp;omega,?_⟩
    dsimp only
    rw [if_pos (by rw [can,can];rfl)]
    exact Z0H.mpr ⟨r,(Z5O want L _ r (q2 o) hL).mpr ⟨hr1,hr2,h3'⟩,rfl⟩
theorem ZaU(l:List Nat)(a:Nat):l.foldl (· + ·) a=a+l.foldl (· + ·) 0:=by
 induction l generalizing a with
 |nil=>rfl
 |cons x l ih=>rw [Z1I,Z1I,ih (a+x),ih (0+x)];omega
theorem sum_cbn(L:List Bond)(v:Nat):((L.filter fun x=>x.at_ v).map Bond.order).foldl (· + ·) 0=cbn L (L.map Bond.order) v:=by
 induction L with
 |nil=>rfl
 |cons x L ih =>
  rw [Z0D,Z4x]
  by_cases q:x.at_ v=true
  ·rw [Z1C (p:=fun x:Bond=>x.at_ v) q,Z0D,Z1I,ZaU,ih,if_pos q];omega
  ·rw [Z1D (p:=fun x:Bond=>x.at_ v) q,ih,if_neg q];omega
def Z2S:Bond:=⟨0,1,1,0⟩
def GM(M:Mol):MX.Gr:=⟨M.atoms.length,M.bonds.length,fun e=>⟨(M.bonds.getD e Z2S).a,(M.bonds.getD e Z2S).b,((M.bonds.getD e Z2S).order:Int)⟩⟩
theorem GM_bd{M:Mol}{e:Nat}{x:Bond}(h:M.bonds[e]?=some x):(GM M).bd e=⟨x.a,x.b,(x.order:Int)⟩:=by
 show(⟨(M.bonds.getD e Z2S).a,(M.bonds.getD e Z2S).b,((M.bonds.getD e Z2S).order:Int)⟩:MX.Bd)=_
 rw [Z0C,h];rfl
theorem GM_ok{M:Mol}(w:Wf M):(GM M).Ok:=by
 have key:∀ e,e<M.bonds.length→∃ x,M.bonds[e]?=some x∧WfB M.atoms.length x:=fun e he=>⟨M.bonds[e],Z0j he,w.bd _ (Z0X he)⟩
 refine⟨fun e he=>?_,fun e he=>?_,fun e he=>?_,fun e he=>?_⟩<;>obtain⟨x,hx,wx⟩:=key e he<;>rw [GM_bd hx]
 ·exact Z0o wx.ab
 ·exact Z0Q wx.ab wx.bn
 ·exact wx.bn
 ·have:=wx.od
  dsimp only
  omega
theorem sm_shift(m:Nat)(f:Nat→Int):MX.sm (m+1) f=f 0+MX.sm m fun i=>f (i+1):=by
 induction m with
 |zero=>show 0+f 0=f 0+0;omega
 |succ m ih =>
  show MX.sm (m+1) f+f (m+1)=f 0+(MX.sm m (fun i=>f (i+1))+f (m+1))
  rw [ih];omega
theorem inc_at{x:Bond}{v:Nat}{o:Int}(h:x.a≠x.b):MX.inc ⟨x.a,x.b,o⟩ v=if x.at_ v=true then 1 else 0:=by
 unfold MX.inc Bond.at_
 dsimp only
 by_cases q1:v=x.a
 ·rw [if_pos q1,if_neg (by omega),if_pos (by simp [q1])];rfl
 ·by_cases q2:v=x.b
  ·rw [if_neg q1,if_pos q2,if_pos (by simp [q2])];rfl
  ·rw [if_neg q1,if_neg q2,if_neg (by simp;omega)];rfl
theorem Z8P:∀ (L:List Bond)(l:List Nat)(v:Nat),l.length=L.length→(∀ x∈L,x.a≠x.b) →
  MX.sm L.length (fun e=>MX.inc ⟨(L.getD e Z2S).a,(L.getD e Z2S).b,((L.getD e Z2S).order:Int)⟩ v*(((l.getD e 0:Nat):Int)))=(cbn L l v:Int)
 |[],l,v,_,_=>by rw [Z5D];rfl
 |x::L,[],v,h,_=>by simp at h
 |x::L,o::l,v,h,hn=>by
  rw [Z0q,sm_shift,Z4x]
  have ih:=Z8P L l v (by simpa using h) fun y hy=>hn y (Z0g _ hy)
  have e0:MX.inc ⟨((x::L).getD 0 Z2S).a,((x::L).getD 0 Z2S).b,(((x::L).getD 0 Z2S).order:Int)⟩ v=if x.at_ v=true then 1 else 0:=inc_at (hn x (Z0h ..))
  have e1:(fun i=>MX.inc ⟨((x::L).getD (i+1) Z2S).a,((x::L).getD (i+1) Z2S).b,(((x::L).getD (i+1) Z2S).order:Int)⟩ v*((((o::l).getD (i+1) 0:Nat):Int)))=fun e=>MX.inc ⟨(L.getD e Z2S).a,(L.getD e Z2S).b,((L.getD e Z2S).order:Int)⟩ v*(((l.getD e 0:Nat):Int)):=rfl
  rw [e1,ih,e0]
  show(if x.at_ v=true then(1:Int)else 0)*(o:Int)+_=_
  split<;>push_cast<;>omega
theorem sm_minus(n:Nat)(f g:Nat→Int):MX.sm n (fun i=>f i-g i)=MX.sm n f-MX.sm n g:=by
 induction n with
 |zero=>rfl
 |succ n ih =>
  show MX.sm n (fun i=>f i-g i)+(f n-g n)=(MX.sm n f+f n)-(MX.sm n g+g n)
  rw [ih];omega
theorem cbn_far{L:List Bond}{v n:Nat}(h:∀ x∈L,x.a<n∧x.b<n)(hv:n≤v):∀ l,cbn L l v=0:=by
 induction L with
 |nil=>exact fun l=>Z5D l v
 |cons x L ih =>
  intro l
  cases l with
  |nil=>rfl
  |cons o l =>
   have hx:=h x (Z0h ..)
   rw [Z4x,ih (fun y hy=>h y (Z0g _ hy)) l,if_neg]
   unfold Bond.at_
   simp
   omega
theorem Z5g{M:Mol}(w:Wf M)(l:List Nat):l∈ordersFor M.sums M.bonds (M.sums.map fun _=>0)↔l.length=M.bonds.length∧(∀ o∈l,1≤o∧o≤3)∧∀ v,v<M.atoms.length→cbn M.bonds l v=cbn M.bonds M.orders v:=by
 have sl:M.sums.length=M.atoms.length:=by unfold Mol.sums Mol.n;rw [Z0b,Z1f]
 have hb:∀ x∈M.bonds,x.a<M.atoms.length∧x.b<M.atoms.length:=fun x hx=>let h:=w.bd x hx;⟨Z0Q h.ab h.bn,h.bn⟩
 have zl:∀ v,(M.sums.map fun _=>0).getD v 0=0:=fun v=>by
  rw [Z0C,Z0k]
  cases M.sums[v]?<;>rfl
 have sg:∀ v,M.sums.getD v 0=if v<M.atoms.length then cbn M.bonds M.orders v else 0:=fun v=>by
  unfold Mol.sums Mol.n
  rw [Z0C,Z0k]
  by_cases q:v<M.atoms.length
  ·rw [if_pos q,Z0j (by rw [Z1f];exact q),List.getElem_range]
   show M.sum v=_
   unfold Mol.sum Mol.orders
   exact sum_cbn M.bonds v
  ·rw [if_neg q,Z1r.mpr (by rw [Z1f];omega)];rfl
 rw [Z5O M.sums M.bonds _ l (by rw [Z0b]) fun x hx=>⟨by rw [sl];exact(hb x hx).1,by rw [sl];exact(hb x hx).2,Z0o (w.bd x hx).ab⟩]
 refine and_congr_right fun _=>and_congr_right fun _=>⟨fun h v hv=>?_,fun h v=>?_⟩
 ·have:=h v
  rw [zl,sg,if_pos hv]at this
  omega
 ·rw [zl,sg]
  by_cases q:v<M.atoms.length
  ·rw [if_pos q,h v q];omega
  ·rw [if_neg q,cbn_far hb (by omega)]
theorem Z3T{M:Mol}{e:Nat}{x:Bond}(h:M.bonds[e]?=some x):M.orders.getD e 0=x.order:=by
 unfold Mol.orders
 rw [Z0C,Z0k,h];rfl
theorem Z8U{M:Mol}(w:Wf M){l:List Nat}(hl:l.length=M.bonds.length)(v:Nat):(GM M).bdr (fun e=>((l.getD e 0:Nat):Int)-((M.orders.getD e 0:Nat):Int)) v=(cbn M.bonds l v:Int)-(cbn M.bonds M.orders v:Int):=by
 have hn:∀ x∈M.bonds,x.a≠x.b:=fun x hx=>Z0o (w.bd x hx).ab
 rw [←Z8P M.bonds l v hl hn,←Z8P M.bonds M.orders v (by unfold Mol.orders;rw [Z0b]) hn,←sm_minus]
 show MX.sm M.bonds.length _=_
 refine MX.Z5b fun i hi=>?_
 show MX.inc _ v*_=MX.inc _ v*_-MX.inc _ v*_
 rw [Int.mul_sub]
 rfl
theorem row_chg{M:Mol}(w:Wf M){l:List Nat}(h:l∈ordersFor M.sums M.bonds (M.sums.map fun _=>0)):(GM M).Chg fun e=>((l.getD e 0:Nat):Int)-((M.orders.getD e 0:Nat):Int):=by
 obtain⟨h1,h2,h3⟩:=(Z5g w l).mp h
 have key:∀ e,e<M.bonds.length→∃ x,M.bonds[e]?=some x∧1≤l.getD e 0∧l.getD e 0≤3:=fun e he=>by
  refine⟨M.bonds[e],Z0j he,?_⟩
  have le:e<l.length:=by omega
  rw [Z0C,Z0j le]
  exact h2 _ (Z0X le)
 refine⟨fun e he=>?_,fun e he=>?_,fun v hv=>?_⟩
 ·obtain⟨x,hx,a,b⟩:=key e he
  rw [GM_bd hx,Z3T hx]
  dsimp only
  omega
 ·obtain⟨x,hx,a,b⟩:=key e he
  rw [GM_bd hx,Z3T hx]
  dsimp only
  omega
 ·rw [Z8U w h1,h3 v hv];omega
theorem chg_row{M:Mol}(w:Wf M){δ:Nat→Int}(h:(GM M).Chg δ):∃ l,l∈ordersFor M.sums M.bonds (M.sums.map fun _=>0)∧∀ e,e<M.bonds.length→((l.getD e 0:Nat):Int)=((M.orders.getD e 0:Nat):Int)+δ e:=by
 have key:∀ e,e<M.bonds.length→1≤((M.orders.getD e 0:Nat):Int)+δ e∧((M.orders.getD e 0:Nat):Int)+δ e≤3:=fun e he=>by
  have hx:M.bonds[e]?=some M.bonds[e]:=Z0j he
  have a:=h.up e he
  have b:=h.dn e he
  rw [GM_bd hx]at a b
  rw [Z3T hx]
  dsimp only at a b
  omega
 have gl:∀ e,e<M.bonds.length→(((((List.range M.bonds.length).map fun e=>(((M.orders.getD e 0:Nat):Int)+δ e).toNat)).getD e 0:Nat):Int)=((M.orders.getD e 0:Nat):Int)+δ e:=fun e he=>by
  rw [Z0C,Z0k,Z0j (by rw [Z1f];exact he),List.getElem_range]
  show(((((M.orders.getD e 0:Nat):Int)+δ e).toNat:Nat):Int)=_
  have:=key e he
  omega
 have ll:((List.range M.bonds.length).map fun e=>(((M.orders.getD e 0:Nat):Int)+δ e).toNat).length=M.bonds.length:=by rw [Z0b,Z1f]
 refine⟨_,(Z5g w _).mpr ⟨ll,fun o ho=>?_,fun v hv=>?_⟩,gl⟩
 ·obtain⟨e,he,rfl⟩:=Z0H.mp ho
  have:=key e (Z1t.mp he)
  omega
 ·have e1:=Z8U w ll v
  have e2:=h.sum v hv
  have e3:(GM M).bdr (fun e=>(((((List.range M.bonds.length).map fun e=>(((M.orders.getD e 0:Nat):Int)+δ e).toNat)).getD e 0:Nat):Int)-((M.orders.getD e 0:Nat):Int)) v=(GM M).bdr δ v:=MX.Z5b fun i hi=>by
   have:=gl i hi
   dsimp only
   rw [show(((((List.range M.bonds.length).map fun e=>(((M.orders.getD e 0:Nat):Int)+δ e).toNat)).getD i 0:Nat):Int)-((M.orders.getD i 0:Nat):Int)=δ i by omega]
  rw [e3,e2]at e1
  omega
theorem Z5H{M:Mol}{l:List Nat}(h:l.length=M.bonds.length):(M.ordered l).orders=l:=by
 unfold Mol.ordered Mol.orders
 dsimp only
 rw [Z1E]
 have:(Bond.order ∘ fun x:Bond×Nat=>({ x.1 with order:=x.2 }:Bond))=Prod.snd:=rfl
 rw [this,List.map_snd_zip (by omega)]
theorem Zbp{M:Mol}(w:Wf M){k:Nat}{x:Bond}(hk:M.bonds[k]?=some x):(M.fixedAt k==2)=true↔x.order=2∧∀ δ,(GM M).Chg δ→δ k=0:=by
 have km:=(Z0r.mp hk).1
 have e1:M.fixedAt k=if ((M.redrawings.map Mol.orders).all fun(r:List Nat)=>r[k]?==some x.order)=true then x.order else 0:=by
  unfold Mol.fixedAt Mol.fixed
  dsimp only
  rw [Z0C,Z0k,List.getElem?_zipIdx,hk]
  simp only [Z1c,Z1U,Nat.zero_add]
 have e2:((M.redrawings.map Mol.orders).all fun(r:List Nat)=>r[k]?==some x.order)=true↔∀ l∈ordersFor M.sums M.bonds (M.sums.map fun _=>0),l[k]?=some x.order:=by
  rw [Z0J]
  unfold Mol.redrawings
  constructor
  ·intro h l hl
   have:=h l (Z0H.mpr ⟨M.ordered l,Z0H.mpr ⟨l,hl,rfl⟩,Z5H ((Z5g w l).mp hl).1⟩)
   exact beq_iff_eq.mp this
  ·intro h r hr
   obtain⟨m,hm,rfl⟩:=Z0H.mp hr
   obtain⟨l,hl,rfl⟩:=Z0H.mp hm
   rw [Z5H ((Z5g w l).mp hl).1]
   exact beq_iff_eq.mpr (h l hl)
 have e3:(∀ l∈ordersFor M.sums M.bonds (M.sums.map fun _=>0),l[k]?=some x.order)↔∀ δ,(GM M).Chg δ→δ k=0:=by
  constructor
  ·intro h δ hδ
   obtain⟨l,hl,hg⟩:=chg_row w hδ
   have a:=h l hl
   have b:=hg k km
   rw [Z0C,a,Z3T hk]at b
   simp only [Z1U]at b
   omega
  ·intro h l hl
   have a:=h _ (row_chg w hl)
   rw [Z3T hk]at a
   have le:k<l.length:=by rw [((Z5g w l).mp hl).1];exact km
   rw [Z0C,Z0j le]at a
   simp only [Z1U]at a
   rw [Z0j le]
   congr 1
   omega
 have ox:=(w.bd x (Z0u hk)).od
 rw [beq_iff_eq,e1,←e3,←e2]
 constructor
 ·intro h
  split at h
  ·rename_i q;exact⟨h,q⟩
  ·omega
 ·rintro⟨h,q⟩
  rw [if_pos q];exact h
def deg(M:Mol)(v:Nat):Nat:=(M.bonds.filter fun x=>x.at_ v).length
theorem Z7U(n:Nat)(p:Nat→Bool):((List.range n).filter p).length=MX.cnt n fun w=>p w=true:=by
 induction n with
 |zero=>rfl
 |succ n ih =>
  have e:MX.cnt (n+1) (fun w=>p w=true)=MX.cnt n (fun w=>p w=true)+(if p n=true then 1 else 0):=by
   rw [MX.cnt]
   split<;>rfl
  rw [List.range_succ,List.filter_append,Z0x,ih,e]
  by_cases q:p n=true
  ·rw [Z1C q,if_pos q];rfl
  ·rw [Z1D q,if_neg q];rfl
theorem Zbw{x:Bond}{v w:Nat}:x.joins v w=true↔(x.a=v∧x.b=w)∨(x.a=w∧x.b=v):=by
 unfold Bond.joins
 simp
theorem ZbB{x:Bond}{v:Nat}:x.at_ v=true↔x.a=v∨x.b=v:=by
 unfold Bond.at_
 simp
theorem Z5s{L:List Bond}{v w:Nat}:(L.find? fun x=>x.joins v w).isSome=true↔∃ x∈L,x.joins v w=true:=by
 rw [List.find?_isSome]
theorem cnt_no(n:Nat):MX.cnt n (fun _=>False)=0:=by
 induction n with
 |zero=>rfl
 |succ n ih=>unfold MX.cnt;rw [ih,if_neg (fun h=>h)]
theorem Z9X{n v:Nat}:∀ {L:List Bond},(∀ x∈L,WfB n x)→L.Pairwise Bel→MX.cnt n (fun w=>(L.find? fun x=>x.joins v w).isSome=true)=(L.filter fun x=>x.at_ v).length
 |[],_,_=>by
  rw [MX.Z4G (q:=fun _=>False) fun x _=>by simp]
  exact cnt_no n
 |x::L,h,hp=>by
  have hL:=fun y hy=>h y (Z0g _ hy)
  have ih:=Z9X (v:=v) hL (List.pairwise_cons.mp hp).2
  have wx:=h x (Z0h ..)
  by_cases q:x.at_ v=true
  ·rw [Z1C (p:=fun x:Bond=>x.at_ v) q,Z0q,←ih]
   have hv:=ZbB.mp q
   have ab:=wx.ab
   have bn:=wx.bn
   obtain⟨w0,hw0,hj,uniq⟩:∃ w0,w0<n∧x.joins v w0=true∧∀ w,x.joins v w=true→w=w0:=by
    rcases hv with hv |hv
    ·exact⟨x.b,bn,Zbw.mpr (.inl ⟨hv,rfl⟩),fun w hw=>by rcases Zbw.mp hw with⟨_,z⟩ |⟨_,z⟩<;>omega⟩
    ·exact⟨x.a,by omega,Zbw.mpr (.inr ⟨rfl,hv⟩),fun w hw=>by rcases Zbw.mp hw with⟨_,z⟩ |⟨z,_⟩<;>omega⟩
   refine MX.Z9v hw0 (Z5s.mpr ⟨x,Z0h ..,hj⟩) fun w=>?_
   rw [Z5s,Z5s]
   constructor
   ·rintro⟨y,hy,hyj⟩
    refine⟨⟨y,Z0g _ hy,hyj⟩,fun z=>?_⟩
    subst z
    have wy:=hL y hy
    have yb:=wy.ab
    have bel:=(List.pairwise_cons.mp hp).1 y hy
    unfold Bel at bel
    rcases Zbw.mp hyj with⟨a,b⟩ |⟨a,b⟩<;>rcases Zbw.mp hj with⟨c,d⟩ |⟨c,d⟩<;>omega
   ·rintro⟨⟨y,hy,hyj⟩,hne⟩
    rcases Z0e.mp hy with rfl |hy
    ·exact absurd (uniq w hyj) hne
    ·exact⟨y,hy,hyj⟩
  ·rw [Z1D (p:=fun x:Bond=>x.at_ v) q,←ih]
   refine MX.Z4G fun w _=>?_
   rw [Z5s,Z5s]
   constructor
   ·rintro⟨y,hy,hyj⟩
    rcases Z0e.mp hy with rfl |hy
    ·refine absurd (ZbB.mpr ?_) q
     rcases Zbw.mp hyj with⟨a,b⟩ |⟨a,b⟩
     ·exact .inl a
     ·exact .inr b
    ·exact⟨y,hy,hyj⟩
   ·rintro⟨y,hy,hyj⟩
    exact⟨y,Z0g _ hy,hyj⟩
theorem Z7n{M:Mol}(w:Wf M)(v:Nat):(M.beside v).length=deg M v:=by
 unfold Mol.beside Mol.n
 rw [Z7U]
 exact Z9X w.bd w.rs
theorem Z9F{M:Mol}(w:Wf M){v u:Nat}(hu:u<M.atoms.length)(hj:M.joined v u=true):(M.besides v u).length+1=deg M v:=by
 rw [←Z7n w v]
 unfold Mol.besides Mol.beside Mol.n
 rw [List.filter_filter,Z7U,Z7U]
 refine(MX.Z9v hu hj fun x=>?_).symm
 rw [Z0B,bne_iff_ne,and_comm]
def endOk(M:Mol)(v:Nat):Prop:=(1:Int)≤(deg M v:Int)-1∧(deg M v:Int)-1+((M.atom v).hydrogens:Int)≤2
theorem Z7q{M:Mol}(w:Wf M){v u:Nat}(hu:u<M.atoms.length)(hj:M.joined v u=true):M.endMay v u=true↔endOk M v:=by
 have:=Z9F w hu hj
 unfold Mol.endMay endOk
 rw [Z0B,decide_eq_true_iff,decide_eq_true_iff]
 omega
theorem Zba{M:Mol}(w:Wf M){k:Nat}{x:Bond}(hk:M.bonds[k]?=some x):M.sided k=true↔x.order=2∧endOk M x.a∧endOk M x.b∧∀ δ,(GM M).Chg δ→δ k=0:=by
 have wx:=w.bd x (Z0u hk)
 have hx:=Z0u hk
 have j1:M.joined x.a x.b=true:=Z5s.mpr ⟨x,hx,Zbw.mpr (.inl ⟨rfl,rfl⟩)⟩
 have j2:M.joined x.b x.a=true:=Z5s.mpr ⟨x,hx,Zbw.mpr (.inr ⟨rfl,rfl⟩)⟩
 unfold Mol.sided
 rw [hk]
 dsimp only
 rw [Z0B,Z0B,Zbp w hk,Z7q w wx.bn j1,Z7q w (Z0Q wx.ab wx.bn) j2]
 constructor
 ·rintro⟨⟨a,b⟩,c,d⟩;exact⟨a,c,d,b⟩
 ·rintro⟨a,c,d,b⟩;exact⟨⟨a,b⟩,c,d⟩
theorem Zbh{M:Mol}(w:Wf M)(v:Nat):M.handed v=(decide (3≤deg M v)&&(decide ((M.atom v).hydrogens≤1)&&decide (deg M v+(M.atom v).hydrogens≤4))):=by
 unfold Mol.handed
 rw [Z7n w v]
end BK
end
section
namespace BK
open PySem PySem.Spec PyProof.Rows L2 EX RD LM
def cV(n:Nat)(c:Nat→Int):List V:=(List.range n).map fun v=>.int (c v)
theorem Z5p(n:Nat)(c:Nat→Int):(cV n c).length=n:=by unfold cV;rw [Z0b,Z1f]
theorem Z5z{n v:Nat}(c:Nat→Int)(h:v<n):(cV n c)[v]?=some (.int (c v)):=by
 unfold cV
 rw [Z0k,Z0j (by rw [Z1f];exact h),List.getElem_range];rfl
theorem cV_set(n a:Nat)(c:Nat→Int)(y:Int):(cV n c).set a (.int y)=cV n fun v=>if v=a then y else c v:=by
 apply List.ext_getElem?
 intro i
 rw [List.getElem?_set]
 by_cases hi:i<n
 ·rw [Z5z _ hi,Z5z _ hi,Z5p]
  by_cases q:a=i
  ·subst q;rw [if_pos rfl,if_pos hi,if_pos rfl]
  ·rw [if_neg q,if_neg (Ne.symm q)]
 ·have e1:(cV n c)[i]?=none:=Z1r.mpr (by rw [Z5p];omega)
  have e2:(cV n fun v=>if v=a then y else c v)[i]?=none:=Z1r.mpr (by rw [Z5p];omega)
  rw [e1,e2,Z5p]
  split
  ·split
   ·omega
   ·rfl
  ·rfl
theorem Z9A{n:Nat}{c d:Nat→Int}(h:∀ v,v<n→c v=d v):cV n c=cV n d:=by
 unfold cV
 exact Z1F fun v hv=>by rw [h v (Z1t.mp hv)]
def dg(M:Fk.Mol)(i v:Nat):Int:=(((M.bonds.take i).filter fun x=>x.at_ v).length:Int)
theorem dg_succ{M:Fk.Mol}{i:Nat}{x:Fk.Bond}(h:M.bonds[i]?=some x)(hn:x.a≠x.b)(v:Nat):dg M (i+1) v=(if v=x.b then(if v=x.a then dg M i v+1 else dg M i v)+1 else(if v=x.a then dg M i v+1 else dg M i v)):=by
 unfold dg
 rw [Z1z,h,List.filter_append,Z0x]
 show(((_:Nat)+((([x]:List Fk.Bond).filter fun x=>x.at_ v).length):Nat):Int)=_
 by_cases q:x.at_ v=true
 ·rw [Z1C (p:=fun x:Fk.Bond=>x.at_ v) q]
  rcases ZbB.mp q with z |z
  ·rw [if_neg (by omega),if_pos z.symm];simp
  ·rw [if_pos z.symm,if_neg (by omega)];simp
 ·rw [Z1D (p:=fun x:Fk.Bond=>x.at_ v) q]
  have:=fun z=>q (ZbB.mpr z)
  rw [if_neg (fun z=>this (.inr z.symm)),if_neg (fun z=>this (.inl z.symm))];simp
theorem Z9P{M:Fk.Mol}{i:Nat}{x:Fk.Atom}(h:M.atoms[i]?=some x):M.atom i=x:=by
 unfold Fk.Mol.atom
 rw [Z0C,h];rfl
section
variable{P:Program}{w:World}{K:Z0a}{mg:Str→Option Value}{base:Heap}{CF CR fF CA CB CM:Addr}
def spNb(CA CB CM:Addr):Sp:=fun vs H Q _=>∃ (mr al bl:Addr)(as ds:List Addr)(M:Fk.Mol),vs=[.ref mr]∧MolAt CM CA CB H mr al bl as ds M∧Wf M∧∀ H' cl,Same H H'→H' cl=some (.lst (cV M.atoms.length fun v=>(deg M v:Int)))→Q (.ref cl) H'
theorem scNb:Z2v ["molecule","counts","bond","atom"] ["molecule"] (Z2r Z2Y):=⟨rfl,rfl,rfl,by decide +kernel,rfl,by decide +kernel,by decide +kernel⟩
theorem blkNb:BlkOk ["molecule","counts","bond","atom"] (Z2r Z2Y) (Z7X (Z2F Z2Y)) [("atom",3)]:=⟨rfl,by decide +kernel,by decide +kernel,by decide +kernel,by decide +kernel⟩
theorem okNb{f:Addr}{fd:FuncData}(F:Fun K "neighbour_counts" "neighbour_counts" Z2Y f fd)(TM:TMo K CM)(TB:TBd K CB):FnOk P w K mg base CX0 1 f fd ["molecule"] (spNb CA CB CM):=by
 refine F.ok scNb (fun vs H Q E h=>?_) (fun cdv A outer s H vs Q E hr h=>?_)
 ·obtain⟨mr,al,bl,as,ds,M,rfl,_⟩:=h
  rfl
 ·obtain⟨mr,al,bl,as,ds,M,rfl,mo,wf,k⟩:=h
  refine⟨_,Z2o (Z5o (i:=1) rfl scNb.nd rfl rfl (Z4g rfl rfl rfl rfl) (Z4W (Z2u (pv 0) rfl)) blkNb (fun s H C cl fp=>Z2H (i:=3) scNb.nd rfl (Or.inl rfl)) (fun s H C cl fp=>Z4f) (fun s H C cl fp=>Z2t))
   (Z2o (Z3A PassesOwn.never rfl (Z4W (Z2u (pv 0) rfl)) (Z2H (i:=2) scNb.nd rfl (Or.inl rfl))
     (Z2o (Zae (pv 1) (Z2u (pv 2) rfl) Z8K Z2t ip_add Z8M) (Z2s (Zae (pv 1) (Z2u (pv 2) rfl) Z8K Z2t ip_add Z8M))))
   (Z2s (Z2y (pv 1)))),?_⟩
  obtain⟨dm,hm⟩:=mo.top
  have la:as.length=M.atoms.length:=mo.ats.1
  have wn:=wf.n
  refine⟨_,rfl,mr,CM,dm,_,_,rfl,hm,TM.cl,TM.na,Z4H _ _,al,rfl,⟨_,SqL.of mo.atl⟩,fun cl hcl=>Z9O (K:=K) (a:=al) (xs:=as.map V.ref) (fun i H2=>L2.Same H H2∧H2 cl=some (.lst (cV i fun _=>0))) ⟨RD.Same.new hcl,Z2n⟩ (fun i H2 _ h=>SqL.of (h.1 _ _ mo.atl)) ?_ ?_⟩
  ·rintro i y H2 hi ⟨s2,h2⟩
   have li:i<(as.map V.ref).length:=(Z0r.mp hi).1
   rw [Z0b]at li
   refine⟨rfl,_,h2,by rw [Z5p,sizeLine_eq];omega,fun b o e=>?_,?_⟩
   ·rw [Z2m (fun z=>by rw [z,hcl]at e;cases e)];exact s2 _ _ e
   ·rw [Z2n]
    unfold cV
    rw [List.range_succ,Z0z];rfl
  ·rintro H2 ⟨s2,h2⟩
   rw [Z0b,la]at h2
   have mo2:=mo.same s2
   refine⟨_,rfl,mr,CM,dm,_,_,rfl,s2 _ _ hm,TM.cl,TM.nb,Z4F _ _,bl,rfl,⟨_,SqL.of mo2.bdl⟩,Z5Q (K:=K) (a:=bl) (xs:=ds.map V.ref) (fun i σ H'=>∃ v2 v3:Option V,σ=[some (.ref mr),some (.ref cl),v2,v3]∧L2.Same H H'∧H' cl=some (.lst (cV M.atoms.length fun v=>dg M i v)))
    ⟨none,none,rfl,s2,h2⟩ (fun i σ H' _ ⟨_,_,_,s',_⟩=>SqL.of (s' _ _ mo.bdl)) ?_ ?_⟩
   ·rintro i y σ H3 hi ⟨v2,v3,rfl,s3,h3⟩
    have mo3:=mo.same s3
    obtain⟨t,x,rfl,ht,hx,hH⟩:=mo3.bds.at hi
    obtain⟨dt,gt⟩:=hH
    have wx:=wf.bd x (Z0u hx)
    have an:x.a<M.atoms.length:=Z0Q wx.ab wx.bn
    refine⟨_,rfl,_,rfl,t,CB,dt,_,_,rfl,gt,TB.cl,TB.na,bf_a _ _ _ _,cl,_,x.a,_,rfl,rfl,SqL.of h3,Z5z _ an,_,_,rfl,rfl,cl,_,_,x.a,rfl,rfl,h3,Zal (by rw [Z5p];exact an),?_⟩
    rw [cV_set]
    have ncl:H cl=none:=by
     cases q:H cl with
     |none=>rfl
     |some o=>rw [hcl]at q;cases q
    have gt4:upd H3 cl (.lst (cV M.atoms.length fun v=>if v=x.a then dg M i x.a+1 else dg M i v)) t=some (.ins CB dt (bf x.a x.b (x.order:Int) (x.side:Int))):=by rw [Z2m (ne_of gt h3 (by intro z;cases z))];exact gt
    refine⟨_,rfl,_,rfl,t,CB,dt,_,_,rfl,gt4,TB.cl,TB.nb,bf_b _ _ _ _,cl,_,x.b,_,rfl,rfl,SqL.of Z2n,Z5z _ wx.bn,_,_,rfl,rfl,cl,_,_,x.b,rfl,rfl,Z2n,Zal (by rw [Z5p];exact wx.bn),?_⟩
    rw [cV_set,Z3a]
    refine⟨_,_,rfl,fun b o e=>?_,?_⟩
    ·rw [Z2m (fun z=>by rw [z,ncl]at e;cases e)];exact s3 _ _ e
    ·rw [Z2n]
     congr 2
     refine Z9A fun v hv=>?_
     rw [dg_succ hx (Z0o wx.ab)]
     by_cases q2:v=x.b
     ·subst q2;rw [if_pos rfl,if_pos rfl];split
      ·rename_i z;rw [z]
      ·rfl
     ·rw [if_neg q2,if_neg q2]
      by_cases q1:v=x.a
      ·subst q1;rfl
      ·rw [if_neg q1,if_neg q1]
   ·rintro σ H3 ⟨v2,v3,rfl,s3,h3⟩
    refine⟨_,rfl,k H3 cl s3 ?_⟩
    rw [h3,Z0b,mo.bds.1]
    congr 2
    refine Z9A fun v _=>?_
    unfold dg deg
    rw [Z1T]
def spHand(CA:Addr):Sp:=fun vs H Q _=>∃ (t:Addr)(x:Fk.Atom)(d:Nat),vs=[.ref t,.int (d:Int)]∧AtomAt CA H t x∧Q (.bl (decide (3≤d)&&(decide (x.hydrogens≤1)&&decide (d+x.hydrogens≤4)))) H
theorem scHand:Z2v ["atom","neighbours"] ["atom","neighbours"] (Z2r Z3W):=⟨rfl,rfl,rfl,by decide +kernel,rfl,by decide +kernel,by decide +kernel⟩
theorem okHand{f:Addr}{fd:FuncData}(F:Fun K "may_have_hand" "may_have_hand" Z3W f fd)(TA:TA_ K CA):FnOk P w K mg base CX0 1 f fd ["atom","neighbours"] (spHand CA):=by
 refine F.ok scHand (fun vs H Q E h=>?_) (fun cdv A outer s H vs Q E hr h=>?_)
 ·obtain⟨t,x,d,rfl,_⟩:=h
  rfl
 ·obtain⟨t,x,d,rfl,⟨dt,gt⟩,k⟩:=h
  refine⟨_,Z2s (Z2y (Z6y (Z4e op_ge (pv 1) Z2t (Z2D _)) (Z6y (Z4e op_le (Z2u (pv 0) rfl) Z2t (Z2D _)) (Z7D (Z4e op_le (pe_op Z3p (pv 1) (Z2u (pv 0) rfl)) Z2t (Z2D _)))))),?_⟩
  refine⟨_,rfl,_,_,rfl,rfl,_,rfl,ite2 (fun h1=>?_) (fun h1=>?_)⟩
  ·have g1:=of_decide_eq_true h1
   rw [show decide (3≤d)=true from decide_eq_true (by omega),Bool.true_and]at k
   refine⟨_,rfl,t,CA,dt,_,_,rfl,gt,TA.cl,TA.nh,Z4O _,_,_,rfl,rfl,_,rfl,ite2 (fun h2=>?_) (fun h2=>?_)⟩
   ·have g2:=of_decide_eq_true h2
    rw [show decide (x.hydrogens≤1)=true from decide_eq_true (by omega),Bool.true_and]at k
    refine⟨_,rfl,_,rfl,t,CA,dt,_,_,rfl,gt,TA.cl,TA.nh,Z4O _,_,_,rfl,rfl,_,_,rfl,rfl,?_⟩
    rw [show decide (d+x.hydrogens≤4)=decide ((d:Int)+(x.hydrogens:Int)≤4) by
     by_cases z:d+x.hydrogens≤4
     ·rw [decide_eq_true z,decide_eq_true (by omega)]
     ·rw [decide_eq_false z,decide_eq_false (by omega)]]at k
    exact k
   ·have g2:¬ ((x.hydrogens:Int)≤1):=fun z=>h2 (decide_eq_true z)
    rw [show decide (x.hydrogens≤1)=false from decide_eq_false (by omega)]at k
    exact k
  ·have g1:¬ ((3:Int)≤(d:Int)):=fun z=>h1 (decide_eq_true z)
   rw [show decide (3≤d)=false from decide_eq_false (by omega)]at k
   exact k
def Zac(CF CA CB CM:Addr):Sp:=fun vs H Q E=>∃ (mr al bl cl:Addr)(as ds:List Addr)(M:Fk.Mol),vs=[.ref mr,.ref cl]∧MolAt CM CA CB H mr al bl as ds M∧Wf M∧H cl=some (.lst (cV M.atoms.length fun v=>(deg M v:Int))) ∧
 match (List.range M.n).find? fun v=>(M.atom v).hand != 0&&!M.handed v with
 |none=>∀ H',Same H H'→Q .non H'
 |some v=>FltS CF E H 4 ((6+6*v+5:Nat):Int)
theorem scHands:Z2v ["molecule","neighbours","k","atom"] ["molecule","neighbours"] (Z2r Z3x):=⟨rfl,rfl,rfl,by decide +kernel,rfl,by decide +kernel,by decide +kernel⟩
theorem okHands{f fG:Addr}{fd fdG:FuncData}(F:Fun K "refuse_wrong_hands" "refuse_wrong_hands" Z3x f fd)(T:TR K mg CF CR fF)(B:TM K mg)(TM':TMo K CM)(TA:TA_ K CA)
  (GG:FnOk P w K mg base CX0 1 fG fdG ["atom","neighbours"] (spHand CA))(mG:mg "may_have_hand" = some (.ref fG))(kG:PySem.W.keepIn K (.ref fG)=true)(bG:Binds K fdG ["atom","neighbours"] []) :
  FnOk P w K mg base (CXF P w) 3 f fd ["molecule","neighbours"] (Zac CF CA CB CM):=by
 refine okX F scHands (fun vs H Q E h=>?_) (fun cdv A outer s H vs Q E hr h=>?_)
 ·obtain⟨mr,al,bl,cl,as,ds,M,rfl,_⟩:=h
  rfl
 ·obtain⟨mr,al,bl,cl,as,ds,M,rfl,mo,wf,hc,k⟩:=h
  have hdp:=(show A.depth+1+1<recursionLimit from by have:=hr.dp;simp only [Around.deeper]at this;omega)
  have hr1:Room 1 _:=hr.mono (by decide)
  refine⟨_,Z2s (Z3A Z4N rfl (Z6M rfl B.enum (Z2l (Z2u (pv 0) rfl) Z2q)) (Z6C rfl (Z3i (Z2H (i:=2) scHands.nd rfl (Or.inl rfl)) (Z3i (Z2H (i:=3) scHands.nd rfl (Or.inl rfl)) Z4V)))
   (Z2s (ps_if (PW.pt (Z6w (Z2G op_ne (Z2u (pv 3) rfl) Z2t (Z2D _)) (Z6D (Z8F (Z4Y (Z2B GG hr1 rfl mG kG bG .nil pass0 (Z2l (pv 3) (Z2l (pe_ix Z2Z (pv 1) (pv 2) (fun _ _=>rfl)) Z2q))))))))
     (Z2s (Z3K T.xi rfl rfl hdp rfl T.mgF Z2Q (Z2l (pe_gc rfl B.c4) (Z2l (pe_op Z4j (pe_op Z3p (pe_op Z3p (pe_gc rfl B.z1) (pe_op Z3I (pe_gc rfl B.z2) (pv 2))) (pe_gc rfl B.z2)) Z2t) Z2q)))) Z2L))),?_⟩
  obtain⟨dm,hm⟩:=mo.top
  have wn:=wf.n
  refine⟨_,rfl,mr,CM,dm,_,_,rfl,hm,TM'.cl,TM'.na,Z4H _ _,al,_,rfl,SqL.of mo.atl,Z5T (K:=K) (a:=al) (xs:=as.map V.ref) (fun i σ H'=>∃ v2 v3:Option V,σ=[some (.ref mr),some (.ref cl),v2,v3]∧L2.Same H H'∧∀ j,j<i→((M.atom j).hand != 0&&!M.handed j)=false)
   ⟨none,none,rfl,L2.Same.refl _,fun j hj=>absurd hj (Nat.not_lt_zero _)⟩ (fun i σ H' _ ⟨_,_,_,s',_⟩=>SqL.of (s' _ _ mo.atl)) ?_ ?_⟩
  ·rintro i y σ H1 U hi ⟨v2,v3,rfl,s1,hj⟩ hU
   have mo1:=mo.same s1
   obtain⟨t,x,rfl,ht,hx,hH⟩:=mo1.ats.at hi
   have s2:L2.Same H (upd H1 U (.tup [.int (i:Int),.ref t])):=s1.trans (RD.Same.new hU)
   obtain⟨dt,gt⟩:=hH
   have gt2:upd H1 U (.tup [.int (i:Int),.ref t]) t=some (.ins CA dt (atf x)):=RD.Same.new hU _ _ gt
   have li:i<M.atoms.length:=(Z0r.mp hx).1
   have ex:=Z9P hx
   have hp:((M.atom i).hand != 0&&!M.handed i)=(x.hand != 0&&!(decide (3≤deg M i)&&(decide (x.hydrogens≤1)&&decide (deg M i+x.hydrogens≤4)))):=by rw [Zbh wf,ex]
   have go:((M.atom i).hand != 0&&!M.handed i)=false→∀ j,j<i+1→((M.atom j).hand != 0&&!M.handed j)=false:=fun h j hj'=>by
    by_cases z:j=i
    ·rw [z];exact h
    ·exact hj j (by omega)
   refine⟨U,_,rfl,SqT.of Z2n,rfl,_,_,rfl,_,_,rfl,rfl,?_⟩
   refine⟨_,rfl,t,CA,dt,_,_,rfl,gt2,TA.cl,TA.nd,atf_hand _,rfl,_,rfl,ite2 (fun h1=>?_) (fun h1=>?_)⟩
   ·have hne:(x.hand != 0)=true:=by
     rw [bne_iff_ne]
     intro z
     rw [z]at h1
     simp at h1
    refine⟨_,rfl,_,rfl,_,rfl,cl,_,_,_,rfl,rfl,SqL.of (s2 _ _ hc),Z3b (Z5z _ li),t,x,deg M i,rfl,⟨dt,gt2⟩,_,rfl,ite2 (fun h2=>?_) (fun h2=>?_)⟩
    ·have hf:(List.range M.n).find? (fun v=>(M.atom v).hand != 0&&!M.handed v)=some i:=by
      rw [List.find?_range_eq_some]
      refine⟨by rw [hp,hne,h2];rfl,Z1t.mpr li,fun j hj'=>by rw [hj j hj'];rfl⟩
     rw [hf]at k
     refine⟨_,rfl,_,_,rfl,rfl,.inl (by constructor<;>omega),_,_,rfl,rfl,_,_,rfl,rfl,_,_,rfl,rfl,_,_,_,.inr ⟨rfl,rfl⟩,fun dx' hn=>?_⟩
     refine k _ dx' (s2.trans (RD.Same.new hn)) ?_
     rw [Z2n]
     show some (HO.xd (xf 4 (6+6*(i:Int)+6-1) 0))=_
     rw [show 6+6*(i:Int)+6-1=((6+6*i+5:Nat):Int) by omega]
    ·refine⟨_,_,rfl,s2,go ?_⟩
     rw [hp,hne]
     simpa using h2
   ·refine⟨_,_,rfl,s2,go ?_⟩
    have hne:(x.hand != 0)=false:=by
     rw [bne_eq_false_iff_eq]
     simp at h1
     omega
    rw [hp,hne];rfl
  ·rintro σ H1 ⟨v2,v3,rfl,s1,hj⟩
   rw [Z0b,mo.ats.1]at hj
   have hf:(List.range M.n).find? (fun v=>(M.atom v).hand != 0&&!M.handed v)=none:=by
    rw [List.find?_range_eq_none]
    intro j hj'
    rw [hj j hj'];rfl
   rw [hf]at k
   exact k H1 s1
end
theorem MolAt.bds'{CM CA CB:Addr}{H:Hp}{mr al bl:Addr}{as ds:List Addr}{M:Fk.Mol}(h:MolAt CM CA CB H mr al bl as ds M):Bds CB (GM M) H bl ds fun e=>((M.bonds.getD e Z2S).side:Int):=by
 refine⟨h.bdl,h.bds.1,fun e r hr=>?_⟩
 have le:e<M.bonds.length:=by rw [←h.bds.1];exact(Z0r.mp hr).1
 have hx:M.bonds[e]?=some M.bonds[e]:=Z0j le
 have hb:=h.bds.2 e r _ hr hx
 rw [GM_bd hx]
 unfold BndAt at hb
 dsimp only
 rw [Z0C,hx]
 exact hb
section
variable{P:Program}{w:World}{K:Z0a}{mg:Str→Option Value}{base:Heap}{CF CR fF CA CB CM CW CS:Addr}
def spEnd(CA:Addr):Sp:=fun vs H Q _=>∃ (t:Addr)(x:Fk.Atom)(o:Int),vs=[.ref t,.int o]∧AtomAt CA H t x∧Q (.bl (decide (1≤o)&&decide (o+(x.hydrogens:Int)≤2))) H
theorem scEnd:Z2v ["atom","others"] ["atom","others"] (Z2r Z3O):=⟨rfl,rfl,rfl,by decide +kernel,rfl,by decide +kernel,by decide +kernel⟩
theorem okEnd{f:Addr}{fd:FuncData}(F:Fun K "may_end_a_side" "may_end_a_side" Z3O f fd)(TA:TA_ K CA):FnOk P w K mg base CX0 1 f fd ["atom","others"] (spEnd CA):=by
 refine F.ok scEnd (fun vs H Q E h=>?_) (fun cdv A outer s H vs Q E hr h=>?_)
 ·obtain⟨t,x,d,rfl,_⟩:=h
  rfl
 ·obtain⟨t,x,d,rfl,⟨dt,gt⟩,k⟩:=h
  refine⟨_,Z2s (Z2y (Z6y (Z4e op_ge (pv 1) Z2t (Z2D _)) (Z7D (Z4e op_le (pe_op Z3p (pv 1) (Z2u (pv 0) rfl)) Z2t (Z2D _))))),?_⟩
  refine⟨_,rfl,_,_,rfl,rfl,_,rfl,ite2 (fun h1=>?_) (fun h1=>?_)⟩
  ·have g1:=of_decide_eq_true h1
   rw [show decide (1≤d)=true from decide_eq_true (by omega),Bool.true_and]at k
   exact⟨_,rfl,_,rfl,t,CA,dt,_,_,rfl,gt,TA.cl,TA.nh,Z4O _,_,_,rfl,rfl,_,_,rfl,rfl,k⟩
  ·have g1:¬ ((1:Int)≤d):=fun z=>h1 (decide_eq_true z)
   rw [show decide (1≤d)=false from decide_eq_false (by omega)]at k
   exact k
def spSide(CA CB CM CW:Addr):Sp:=fun vs H Q _=>∃ (mr al bl cl wl:Addr)(as ds:List Addr)(M:Fk.Mol)(k:Nat)(x:Fk.Bond)(ls:List Addr)(ws:Nat→List Addr)(E:Nat→List (Nat×Nat)),vs=[.ref mr,.int (k:Int),.ref cl,.ref wl]∧MolAt CM CA CB H mr al bl as ds M∧Wf M ∧
 H cl=some (.lst (cV M.atoms.length fun v=>(deg M v:Int)))∧Wys0 CW (GM M) H wl ls ws E∧M.bonds[k]?=some x∧∀ (b:Bool) H',Same H H'→(b=true↔M.sided k=true)→Q (.bl b) H'
theorem scSide:Z2v ["molecule","k","neighbours","ways","bond","end"] ["molecule","k","neighbours","ways"] (Z2r Z3Z):=⟨rfl,rfl,rfl,by decide +kernel,rfl,by decide +kernel,by decide +kernel⟩
theorem okSide{f fG fH:Addr}{fd fdG fdH:FuncData}(F:Fun K "may_have_side" "may_have_side" Z3Z f fd)(TM':TMo K CM)(TA:TA_ K CA)(TB:TBd K CB)
  (GG:FnOk P w K mg base CX0 1 fG fdG ["atom","others"] (spEnd CA))(mG:mg "may_end_a_side" = some (.ref fG))(kG:PySem.W.keepIn K (.ref fG)=true)(bG:Binds K fdG ["atom","others"] [])
  (GH:FnOk P w K mg base CX0 8 fH fdH ["ways","bonds","number"] (spFix CW CB))(mH:mg "is_fixed_double" = some (.ref fH))(kH:PySem.W.keepIn K (.ref fH)=true)(bH:Binds K fdH ["ways","bonds","number"] []) :
  FnOk P w K mg base CX0 9 f fd ["molecule","k","neighbours","ways"] (spSide CA CB CM CW):=by
 refine F.ok scSide (fun vs H Q E h=>?_) (fun cdv A outer s H vs Q E' hr h=>?_)
 ·obtain⟨mr,al,bl,cl,wl,as,ds,M,k,x,ls,ws,E,rfl,_⟩:=h
  rfl
 ·obtain⟨mr,al,bl,cl,wl,as,ds,M,k,x,ls,ws,E,rfl,mo,wf,hc,hW,hx,kk⟩:=h
  have hr1:Room 1 _:=hr.mono (by decide)
  refine⟨_,Z2o (Z2w (i:=4) scSide.nd rfl (Or.inl rfl) (pe_ix Z2Z (Z2u (pv 0) rfl) (pv 1) (fun _ _=>rfl)))
   (Z2o (ps_if (Z2G op_ne (Z2u (pv 4) rfl) Z2t (Z2D _)) (Z2s (Z2y pe_bl)) Z2L)
   (Z2o (Z3A PassesOwn.never rfl (pi_tup (Z4l (Z2l (Z2u (pv 4) rfl) (Z2l (Z2u (pv 4) rfl) Z2q)))) (Z2H (i:=5) scSide.nd rfl (Or.inl rfl))
     (Z2s (ps_if (Z8F (Z4Y (Z2B GG hr1 rfl mG kG bG .nil pass0 (Z2l (pe_ix Z2Z (Z2u (pv 0) rfl) (pv 5) (fun _ _=>rfl)) (Z2l (pe_op Z4j (pe_ix Z2Z (pv 2) (pv 5) (fun _ _=>rfl)) Z2t) Z2q))))) (Z2s (Z2y pe_bl)) Z2L)))
   (Z2s (Z2y (Z2B GH hr rfl mH kH bH .nil pass0 (Z2l (pv 3) (Z2l (Z2u (pv 0) rfl) (Z2l (pv 1) Z2q)))))))),?_⟩
  obtain⟨dm,hm⟩:=mo.top
  have km:k<M.bonds.length:=(Z0r.mp hx).1
  have lk:k<ds.length:=by rw [mo.bds.1];exact km
  have hd:ds[k]?=some ds[k]:=Z0j lk
  obtain⟨dt,gt⟩:=mo.bds.2 k _ x hd hx
  have wx:=wf.bd x (Z0u hx)
  have an:x.a<M.atoms.length:=Z0Q wx.ab wx.bn
  have key:=Zba wf hx
  refine⟨_,rfl,mr,CM,dm,_,_,rfl,hm,TM'.cl,TM'.nb,Z4F _ _,_,rfl,bl,_,_,.ref ds[k],rfl,rfl,SqL.of mo.bdl,Z3b (by rw [Z0k,hd];rfl),?_⟩
  refine⟨_,rfl,ds[k],CB,dt,_,_,rfl,gt,TB.cl,TB.no,Z6V _ _ _ _,rfl,_,rfl,ite2 (fun h1=>?_) (fun h1=>?_)⟩
  ·have ho:x.order≠2:=fun z=>by rw [z]at h1;simp at h1
   exact kk false H (L2.Same.refl _) ⟨fun z=>(by cases z),fun z=>absurd (key.mp z).1 ho⟩
  ·have ho:x.order=2:=by simp at h1;omega
   refine⟨_,rfl,ds[k],CB,dt,_,_,rfl,gt,TB.cl,TB.na,bf_a _ _ _ _,_,rfl,ds[k],CB,dt,_,_,rfl,gt,TB.cl,TB.nb,bf_b _ _ _ _,(by show 2≤sizeLine;decide),fun U hU=>?_⟩
   have sU:L2.Same H (upd H U (.tup [.int (x.a:Int),.int (x.b:Int)])):=RD.Same.new hU
   refine⟨U,rfl,⟨_,SqT.of Z2n⟩,Z9N (K:=K) (a:=U) (xs:=[.int (x.a:Int),.int (x.b:Int)]) (fun i σ H'=>∃ v5:Option V,σ=[some (.ref mr),some (.int (k:Int)),some (.ref cl),some (.ref wl),some (.ref ds[k]),v5]∧H'=upd H U (.tup [.int (x.a:Int),.int (x.b:Int)])∧(1≤i→endOk M x.a)∧(2≤i→endOk M x.b))
    ⟨none,rfl,rfl,fun z=>absurd z (by decide),fun z=>absurd z (by decide)⟩ (fun i σ H' _ ⟨_,_,e,_⟩=>by rw [e];exact SqT.of Z2n) ?_ ?_⟩
   ·rintro i y σ H' hi ⟨v5,rfl,rfl,p1,p2⟩
    obtain⟨v,rfl,hv,st⟩:∃ v:Nat,y=.int (v:Int)∧v<M.atoms.length∧(endOk M v→(1≤i+1→endOk M x.a)∧(2≤i+1→endOk M x.b))∧(M.sided k=true→endOk M v):=by
     match i,hi with
     |0,hi =>
      cases hi
      exact⟨x.a,rfl,an,fun z=>⟨fun _=>z,fun q=>absurd q (by decide)⟩,fun z=>(key.mp z).2.1⟩
     |1,hi =>
      cases hi
      exact⟨x.b,rfl,wx.bn,fun z=>⟨fun _=>p1 (by decide),fun _=>z⟩,fun z=>(key.mp z).2.2.1⟩
     |n+2,hi=>cases hi
    obtain⟨st,st2⟩:=st
    have mo2:=mo.same sU
    have la:v<as.length:=by rw [mo.ats.1];exact hv
    have ha:as[v]?=some as[v]:=Z0j la
    have hxa:M.atoms[v]?=some M.atoms[v]:=Z0j hv
    have hA:=mo2.ats.2 v _ _ ha hxa
    have ex:=Z9P hxa
    refine⟨_,rfl,mr,CM,dm,_,_,rfl,sU _ _ hm,TM'.cl,TM'.na,Z4H _ _,_,rfl,al,_,_,.ref as[v],rfl,rfl,SqL.of mo2.atl,Z3b (by rw [Z0k,ha];rfl),_,rfl,_,rfl,cl,_,_,_,rfl,rfl,SqL.of (sU _ _ hc),Z3b (Z5z _ hv),_,_,rfl,rfl,
     as[v],_,_,rfl,hA,_,rfl,ite2 (fun h2=>?_) (fun h2=>?_)⟩
    ·have no:¬ endOk M v:=fun z=>by
      unfold endOk at z
      rw [ex]at z
      rw [decide_eq_true z.1,decide_eq_true z.2]at h2
      cases h2
     exact kk false _ sU ⟨fun z=>(by cases z),fun z=>absurd (st2 z) no⟩
    ·have yes:endOk M v:=by
      unfold endOk
      rw [ex]
      have h3:(decide (1≤(deg M v:Int)-1)&&decide ((deg M v:Int)-1+(M.atoms[v].hydrogens:Int)≤2))=true:=by simpa using h2
      rw [Z0B]at h3
      exact⟨of_decide_eq_true h3.1,of_decide_eq_true h3.2⟩
     exact⟨_,rfl,rfl,(st yes).1,(st yes).2⟩
   ·rintro σ H' ⟨v5,rfl,rfl,p1,p2⟩
    have e1:=p1 (by show 1≤2;decide)
    have e2:=p2 (by show 2≤2;decide)
    have mo2:=mo.same sU
    refine⟨_,rfl,_,rfl,mr,CM,dm,_,_,rfl,sU _ _ hm,TM'.cl,TM'.nb,Z4F _ _,_,rfl,wl,bl,k,GM M,ls,ws,E,ds,_,rfl,hW.same sU,mo2.bds',GM_ok wf,wf.n,km,?_,fun b H2 s2 hb=>?_⟩
    ·rw [GM_bd hx,ho];rfl
    ·refine kk b H2 (sU.trans s2) ?_
     rw [hb,key]
     exact⟨fun z=>⟨ho,e1,e2,z⟩,fun z=>z.2.2.2⟩
def Z9M(CF CA CB CM:Addr):Sp:=fun vs H Q E=>∃ (mr al bl cl:Addr)(as ds:List Addr)(M:Fk.Mol),vs=[.ref mr,.ref cl]∧MolAt CM CA CB H mr al bl as ds M∧Wf M∧H cl=some (.lst (cV M.atoms.length fun v=>(deg M v:Int))) ∧
 match (List.range M.bonds.length).find? fun j=>(M.bonds[j]?.map Fk.Bond.side).getD 0 != 0&&!M.sided j with
 |none=>∀ H',Same H H'→Q .non H'
 |some j=>FltS CF E H 6 ((6+6*M.n+4*j+3:Nat):Int)
theorem scSides:Z2v ["molecule","neighbours","first_bond","ways","k","bond"] ["molecule","neighbours"] (Z2r Z3w):=⟨rfl,rfl,rfl,by decide +kernel,rfl,by decide +kernel,by decide +kernel⟩
theorem okSides{f fG fH:Addr}{fd fdG fdH:FuncData}(F:Fun K "refuse_wrong_sides" "refuse_wrong_sides" Z3w f fd)(T:TR K mg CF CR fF)(B:TM K mg)(TM':TMo K CM)(TB:TBd K CB)
  (GG:FnOk P w K mg base CX0 9 fG fdG ["molecule","k","neighbours","ways"] (spSide CA CB CM CW))(mG:mg "may_have_side" = some (.ref fG))(kG:PySem.W.keepIn K (.ref fG)=true)(bG:Binds K fdG ["molecule","k","neighbours","ways"] [])
  (GH:FnOk P w K mg base CX0 3 fH fdH ["count","bonds"] (spWays CW CB))(mH:mg "ways_at" = some (.ref fH))(kH:PySem.W.keepIn K (.ref fH)=true)(bH:Binds K fdH ["count","bonds"] []) :
  FnOk P w K mg base (CXF P w) 10 f fd ["molecule","neighbours"] (Z9M CF CA CB CM):=by
 refine okX F scSides (fun vs H Q E h=>?_) (fun cdv A outer s H vs Q E' hr h=>?_)
 ·obtain⟨mr,al,bl,cl,as,ds,M,rfl,_⟩:=h
  rfl
 ·obtain⟨mr,al,bl,cl,as,ds,M,rfl,mo,wf,hc,k⟩:=h
  have hdp:=(show A.depth+1+1<recursionLimit from by have:=hr.dp;simp only [Around.deeper]at this;omega)
  have hr3:Room 3 _:=hr.mono (by decide)
  refine⟨_,Z2o (Z2w (i:=2) scSides.nd rfl (Or.inl rfl) (pe_op Z3p (pe_gc rfl B.z1) (pe_op Z3I (pe_gc rfl B.z2) (Z2U Z2J (by rfl) T.len PySem.boot_len (Z2l (Z2u (pv 0) rfl) Z2q)))))
   (Z2o (Z2w (i:=3) scSides.nd rfl (Or.inl rfl) (Z2B GH hr3 rfl mH kH bH .nil pass0 (Z2l (Z2U Z2J (by rfl) T.len PySem.boot_len (Z2l (Z2u (pv 0) rfl) Z2q)) (Z2l (Z2u (pv 0) rfl) Z2q))))
   (Z2s (Z3A Z4N rfl (Z6M rfl B.enum (Z2l (Z2u (pv 0) rfl) Z2q)) (Z6C rfl (Z3i (Z2H (i:=4) scSides.nd rfl (Or.inl rfl)) (Z3i (Z2H (i:=5) scSides.nd rfl (Or.inl rfl)) Z4V)))
     (Z2s (ps_if (PW.pt (Z6w (Z2G op_ne (Z2u (pv 5) rfl) Z2t (Z2D _)) (Z6D (Z8F (Z4Y (Z2B GG hr rfl mG kG bG .nil pass0 (Z2l (pv 0) (Z2l (pv 4) (Z2l (pv 1) (Z2l (pv 3) Z2q))))))))))
       (Z2s (Z3K T.xi rfl rfl hdp rfl T.mgF Z2Q (Z2l (pe_gc rfl B.c6) (Z2l (pe_op Z4j (pe_op Z3p (pe_op Z3p (pv 2) (pe_op Z3I (pe_gc rfl B.z3) (pv 4))) (pe_gc rfl B.z3)) Z2t) Z2q)))) Z2L))))),?_⟩
  obtain⟨dm,hm⟩:=mo.top
  have wn:=wf.n
  have wm:=wf.m
  have la:(as.map V.ref).length=M.atoms.length:=by rw [Z0b,mo.ats.1]
  refine⟨_,rfl,mr,CM,dm,_,_,rfl,hm,TM'.cl,TM'.na,Z4H _ _,al,_,rfl,.inl (SqL.of mo.atl),_,_,rfl,rfl,.inl (by constructor<;>omega),_,_,rfl,rfl,?_⟩
  refine⟨_,rfl,mr,CM,dm,_,_,rfl,hm,TM'.cl,TM'.na,Z4H _ _,al,_,rfl,.inl (SqL.of mo.atl),_,rfl,mr,CM,dm,_,_,rfl,hm,TM'.cl,TM'.nb,Z4F _ _,bl,GM M,ds,_,by rw [la];rfl,mo.bds',GM_ok wf,wf.n,wf.m,fun H1 wl ls ws E s1 hW=>?_⟩
  have mo1:=mo.same s1
  refine⟨_,rfl,mr,CM,dm,_,_,rfl,s1 _ _ hm,TM'.cl,TM'.nb,Z4F _ _,bl,_,rfl,SqL.of mo1.bdl,Z5T (K:=K) (a:=bl) (xs:=ds.map V.ref) (fun i σ H'=>∃ v4 v5:Option V,σ=[some (.ref mr),some (.ref cl),some (.int (6+6*(M.atoms.length:Int))),some (.ref wl),v4,v5]∧L2.Same H1 H' ∧
    ∀ j,j<i→((M.bonds[j]?.map Fk.Bond.side).getD 0 != 0&&!M.sided j)=false)
   ⟨none,none,by rw [la];rfl,L2.Same.refl _,fun j hj=>absurd hj (Nat.not_lt_zero _)⟩ (fun i σ H' _ ⟨_,_,_,s',_⟩=>SqL.of (s' _ _ mo1.bdl)) ?_ ?_⟩
  ·rintro i y σ H2 U hi ⟨v4,v5,rfl,s2,hj⟩ hU
   have mo2:=mo1.same s2
   obtain⟨t,x,rfl,ht,hx,hH⟩:=mo2.bds.at hi
   have s3:L2.Same H1 (upd H2 U (.tup [.int (i:Int),.ref t])):=s2.trans (RD.Same.new hU)
   obtain⟨dt,gt⟩:=hH
   have gt2:upd H2 U (.tup [.int (i:Int),.ref t]) t=some (.ins CB dt (bf x.a x.b (x.order:Int) (x.side:Int))):=RD.Same.new hU _ _ gt
   have li:i<M.bonds.length:=(Z0r.mp hx).1
   have hp:((M.bonds[i]?.map Fk.Bond.side).getD 0 != 0&&!M.sided i)=(x.side != 0&&!M.sided i):=by rw [hx];rfl
   have go:((M.bonds[i]?.map Fk.Bond.side).getD 0 != 0&&!M.sided i)=false→∀ j,j<i+1→((M.bonds[j]?.map Fk.Bond.side).getD 0 != 0&&!M.sided j)=false:=fun h j hj'=>by
    by_cases z:j=i
    ·rw [z];exact h
    ·exact hj j (by omega)
   refine⟨U,_,rfl,SqT.of Z2n,rfl,_,_,rfl,_,_,rfl,rfl,?_⟩
   refine⟨_,rfl,t,CB,dt,_,_,rfl,gt2,TB.cl,TB.ns,bf_side _ _ _ _,rfl,_,rfl,ite2 (fun h1=>?_) (fun h1=>?_)⟩
   ·have hne:(x.side != 0)=true:=by
     rw [bne_iff_ne]
     intro z
     rw [z]at h1
     simp at h1
    refine⟨_,rfl,_,rfl,_,rfl,_,rfl,mr,al,bl,cl,wl,as,ds,M,i,x,ls,ws,E,rfl,mo1.same s3,wf,s3 _ _ (s1 _ _ hc),hW.same s3,hx,fun b H4 s4 hb=>⟨_,rfl,ite2 (fun h2=>?_) (fun h2=>?_)⟩⟩
    ·have hns:M.sided i=false:=by
      cases q:M.sided i with
      |false=>rfl
      |true=>rw [hb.mpr q]at h2;cases h2
     have hf:(List.range M.bonds.length).find? (fun j=>(M.bonds[j]?.map Fk.Bond.side).getD 0 != 0&&!M.sided j)=some i:=by
      rw [List.find?_range_eq_some]
      refine⟨by rw [hp,hne,hns];rfl,Z1t.mpr li,fun j hj'=>by rw [hj j hj'];rfl⟩
     rw [hf]at k
     refine⟨_,rfl,_,rfl,_,_,rfl,rfl,.inl (by constructor<;>omega),_,_,rfl,rfl,_,_,rfl,rfl,_,_,rfl,rfl,_,_,_,.inr ⟨rfl,rfl⟩,fun dx' hn=>?_⟩
     refine k _ dx' (s1.trans (s3.trans (s4.trans (RD.Same.new hn)))) ?_
     rw [Z2n]
     show some (HO.xd (xf 6 (6+6*(M.atoms.length:Int)+4*(i:Int)+4-1) 0))=_
     rw [show 6+6*(M.atoms.length:Int)+4*(i:Int)+4-1=((6+6*M.n+4*i+3:Nat):Int) by unfold Fk.Mol.n;omega]
    ·refine⟨_,_,rfl,s3.trans s4,go ?_⟩
     have hs:M.sided i=true:=hb.mp (by simpa using h2)
     rw [hp,hs];simp
   ·refine⟨_,_,rfl,s3,go ?_⟩
    have hne:(x.side != 0)=false:=by
     rw [bne_eq_false_iff_eq]
     simp at h1
     omega
    rw [hp,hne];rfl
  ·rintro σ H2 ⟨v4,v5,rfl,s2,hj⟩
   rw [Z0b,mo.bds.1]at hj
   have hf:(List.range M.bonds.length).find? (fun j=>(M.bonds[j]?.map Fk.Bond.side).getD 0 != 0&&!M.sided j)=none:=by
    rw [List.find?_range_eq_none]
    intro j hj'
    rw [hj j hj'];rfl
   rw [hf]at k
   exact k H2 (s1.trans s2)
def spMol(K:Z0a)(CF CA CB CM:Addr):Sp:=fun vs H Q E=>∃ (a:Addr)(bs:List Int),vs=[.ref a]∧SqL K H a (bs.map V.int)∧(∀ x∈bs,0≤x∧x≤255) ∧
 match molM bs with
 |.ok M=>∀ (H':Hp)(mr al bl:Addr)(as ds:List Addr),Same H H'→H al=none→H bl=none→MolAt CM CA CB H' mr al bl as ds M→Wf M→Q (.ref mr) H'
 |.error e=>FltS CF E H e.1 e.2
theorem FltS.same{CF:Addr}{E:XK}{H H1:Hp}{rule place:Int}(f:FltS CF E H rule place)(s:Same H H1):FltS CF E H1 rule place:=fun H' dx s' h=>f H' dx (s.trans s') h
theorem scMol:Z2v ["form","molecule","neighbours"] ["form"] (Z2r Z3Y):=⟨rfl,rfl,rfl,by decide +kernel,rfl,by decide +kernel,by decide +kernel⟩
theorem okMol{f f1 f2 f3 f4:Addr}{fd fd1 fd2 fd3 fd4:FuncData}(F:Fun K "read_molecule" "read_molecule" Z3Y f fd)
  (G1:FnOk P w K mg base (CXF P w) 5 f1 fd1 ["form"] (Zah K CF CA CB CM))(m1:mg "read_parts" = some (.ref f1))(k1:PySem.W.keepIn K (.ref f1)=true)(b1:Binds K fd1 ["form"] [])
  (G2:FnOk P w K mg base CX0 1 f2 fd2 ["molecule"] (spNb CA CB CM))(m2:mg "neighbour_counts" = some (.ref f2))(k2:PySem.W.keepIn K (.ref f2)=true)(b2:Binds K fd2 ["molecule"] [])
  (G3:FnOk P w K mg base (CXF P w) 3 f3 fd3 ["molecule","neighbours"] (Zac CF CA CB CM))(m3:mg "refuse_wrong_hands" = some (.ref f3))(k3:PySem.W.keepIn K (.ref f3)=true)(b3:Binds K fd3 ["molecule","neighbours"] [])
  (G4:FnOk P w K mg base (CXF P w) 10 f4 fd4 ["molecule","neighbours"] (Z9M CF CA CB CM))(m4:mg "refuse_wrong_sides" = some (.ref f4))(k4:PySem.W.keepIn K (.ref f4)=true)(b4:Binds K fd4 ["molecule","neighbours"] []) :
  FnOk P w K mg base (CXF P w) 11 f fd ["form"] (spMol K CF CA CB CM):=by
 refine okX F scMol (fun vs H Q E h=>?_) (fun cdv A outer s H vs Q E' hr h=>?_)
 ·obtain⟨a,bs,rfl,_⟩:=h
  rfl
 ·obtain⟨a,bs,rfl,hS,hb,k⟩:=h
  have hr5:Room 5 _:=hr.mono (by decide)
  have hr1:Room 1 _:=hr.mono (by decide)
  have hr3:Room 3 _:=hr.mono (by decide)
  refine⟨_,Z2o (Z2w (i:=1) scMol.nd rfl (Or.inl rfl) (Z2B G1 hr5 rfl m1 k1 b1 .nil Z2z (Z2l (pv 0) Z2q)))
   (Z2o (Z2w (i:=2) scMol.nd rfl (Or.inl rfl) (Z2B G2 hr1 rfl m2 k2 b2 .nil pass0 (Z2l (pv 1) Z2q)))
   (Z2o (Z2K (Z2B G3 hr3 rfl m3 k3 b3 .nil Z2z (Z2l (pv 1) (Z2l (pv 2) Z2q))))
   (Z2o (Z2K (Z2B G4 hr rfl m4 k4 b4 .nil Z2z (Z2l (pv 1) (Z2l (pv 2) Z2q))))
   (Z2s (Z2y (pv 1)))))),?_⟩
  unfold molM at k
  refine⟨_,rfl,a,bs,rfl,hS,hb,?_⟩
  cases e1:Z4o bs with
  |error e=>rw [e1]at k;exact k
  |ok M =>
   rw [e1]at k
   dsimp only at k
   have wf:=ZaX e1
   intro H1 mr al bl as ds s1 na1 nb1 mo
   refine⟨_,rfl,mr,al,bl,as,ds,M,rfl,mo,wf,fun H2 cl s2 hc=>?_⟩
   refine⟨_,rfl,_,rfl,mr,al,bl,cl,as,ds,M,rfl,mo.same s2,wf,hc,?_⟩
   cases e2:(List.range M.n).find? (fun v=>(M.atom v).hand != 0&&!M.handed v)with
   |some v =>
    rw [e2]at k
    exact FltS.same k (s1.trans s2)
   |none =>
    rw [e2]at k
    dsimp only at k
    intro H3 s3
    refine⟨_,rfl,_,rfl,mr,al,bl,cl,as,ds,M,rfl,mo.same (s2.trans s3),wf,s3 _ _ hc,?_⟩
    cases e3:(List.range M.bonds.length).find? (fun j=>(M.bonds[j]?.map Fk.Bond.side).getD 0 != 0&&!M.sided j)with
    |some j =>
     rw [e3]at k
     exact FltS.same k ((s1.trans s2).trans s3)
    |none =>
     rw [e3]at k
     intro H4 s4
     exact⟨_,rfl,k H4 mr al bl as ds (((s1.trans s2).trans s3).trans s4) na1 nb1 (mo.same ((s2.trans s3).trans s4)) wf⟩
end
def memM(bs:List Int)(p:Nat):Except (Int×Int) (Fk.Mol×Nat) :=
 match numM bs p 2 0 65535 with
 |.error e=>.error e
 |.ok n=>if bs.length<p+2+n.toNat then .error (5,bs.length)else match molM ((bs.drop (p+2)).take n.toNat)with
  |.error e=>.error (16+e.1,((p+2:Nat):Int)+e.2)
  |.ok M=>.ok (M,p+2+n.toNat)
section
variable{P:Program}{w:World}{K:Z0a}{mg:Str→Option Value}{base:Heap}{CF CR fF CA CB CM:Addr}
theorem fresh{r b:Addr}{H H1 H2:Hp}{o o':HO}(h:H r=some o)(o1:Only r H H1)(o2:Only r H1 H2)(g2:H2 r=some o')(n:H2 b=none):H b=none:=by
 cases e:H b with
 |none=>rfl
 |some x =>
  by_cases z:b=r
  ·rw [z,g2]at n;cases n
  ·rw [o2 _ _ (o1 _ _ e z) z]at n;cases n
def spMem(K:Z0a)(CF CR CA CB CM:Addr):Sp:=fun vs H Q E=>∃ (r a:Addr)(p:Nat)(bs:List Int),vs=[.ref r]∧RdAt CR H r a p∧SqL K H a (bs.map V.int)∧p≤bs.length∧(∀ x∈bs,0≤x∧x≤255) ∧
 match memM bs p with
 |.ok x=>∀ (H':Hp)(mr al bl:Addr)(as ds:List Addr),RdAt CR H' r a x.2→Only r H H'→H al=none→H bl=none→MolAt CM CA CB H' mr al bl as ds x.1→Wf x.1→Q (.ref mr) H'
 |.error e=>Flt CF E H r e.1 e.2
theorem scMem:Z2v ["reader","size","start","form","fault"] ["reader"] (Z2r Z4s):=⟨rfl,rfl,rfl,by decide +kernel,rfl,by decide +kernel,by decide +kernel⟩
theorem okMem{f fN fT f1:Addr}{fd fdN fdT fd1:FuncData}(F:Fun K "read_member" "read_member" Z4s f fd)(T:TR K mg CF CR fF)(xg:XG K CF)(nr:NoAttr K CF "rule")(np:NoAttr K CF "place")
  (cS:∃ u,mg "MOST_SIZE" = some u∧RelV (.int 65535) u)(cW:∃ u,mg "WITHIN_MOLECULE" = some u∧RelV (.int 16) u)
  (GN:FnOk P w K mg base (CXQ false P w) 3 fN fdN ["self","size","least","most"] (spNum K CF CR))(mN:Meth K CR "number" fN)(bN:Binds K fdN ["self","size","least","most"] [])
  (GT:FnOk P w K mg base (CXQ false P w) 2 fT fdT ["self","size"] (Z9e K CF CR))(mT:Meth K CR "take" fT)(bT:Binds K fdT ["self","size"] [])
  (G1:FnOk P w K mg base (CXF P w) 11 f1 fd1 ["form"] (spMol K CF CA CB CM))(m1:mg "read_molecule" = some (.ref f1))(k1:PySem.W.keepIn K (.ref f1)=true)(b1:Binds K fd1 ["form"] []) :
  FnOk P w K mg base (CXQ false P w) 12 f fd ["reader"] (spMem K CF CR CA CB CM):=by
 refine okX F scMem (fun vs H Q E h=>?_) (fun cdv A outer s H vs Q E hr h=>?_)
 ·obtain⟨r,a,p,bs,rfl,_⟩:=h
  rfl
 ·obtain⟨r,a,p,bs,rfl,hR,hS,hp,hb,k⟩:=h
  have hdp:=(show A.depth+1+1<recursionLimit from by have:=hr.dp;simp only [Around.deeper]at this;omega)
  have hr3:Room 3 _:=hr.mono (by decide)
  have hr2:Room 2 _:=hr.mono (by decide)
  refine⟨_,Z2o (Z2w (i:=1) scMem.nd rfl (Or.inl rfl) (Z2A (pv 0) T.cl mN GN hr3 bN .nil Z2z (Z2l Z2t (Z2l Z2t (Z2l (pe_gc rfl cS) Z2q)))))
   (Z2o (Z2w (i:=2) scMem.nd rfl (Or.inl rfl) (Z2u (pv 0) rfl))
   (Z2o (Z2w (i:=3) scMem.nd rfl (Or.inl rfl) (Z2A (pv 0) T.cl mT GT hr2 bT .nil Z2z (Z2l (pv 1) Z2q)))
   (Z2s (ps_tryS (z:=true) (W:=fun D σ cls d H'=>cls=.ref CF∧∃ dx ru pl st,d=some dx∧σ[2]?=some (some (.int st))∧H' dx=some (.xd (xf ru pl 0))∧∀ H2 dx2,Same H' H2→H2 dx2=some (.xd (xf (16+ru) (st+pl) 0))→E (.ref CF) (some dx2) H2)
     G1 hr rfl m1 k1 b1 rfl rfl rfl (fun pins E1=>Z2l (pv 3) Z2q) (fun pins D σ H' s ea T1 C d a hW=>?_))))),?_⟩
  ·obtain⟨e,dx,ru,pl,st,rfl,hσ,hd,hE⟩:=hW
   cases e
   have hl:σ.length=5:=a.inv.len
   refine' hb_asR (i:=4) (E:=E) a T.xi rfl rfl rfl hdp rfl T.mgF scMem.nd rfl rfl Zav ?hs0 ?hE0
   case hs0=>exact fun ea=>Z2l (pe_op Z3p (pe_gc rfl cW) (Z6g K rfl (pv 4) rfl)) (Z2l (pe_op Z3p (pv 2) (Z6g K rfl (pv 4) rfl)) Z2q)
   intro ea nea ned
   have h1:upd H' ea (XE true ea CF dx) dx=some (.xd (xf ru pl 0)):=by rw [Z2m ned.symm];exact hd
   have h4:(σ.set 4 (some (V.ref ea)))[4]?=some (some (V.ref ea)):=by rw [Z1w (by omega)]
   have h2:(σ.set 4 (some (V.ref ea)))[2]?=some (some (V.int st)):=by rw [Z1J (by decide)];exact hσ
   refine⟨_,h4,true,ea,CF,dx,_,_,rfl,Z2n,h1,xg,nr,Zam _ _ _,_,_,rfl,rfl,_,h2,_,h4,true,ea,CF,dx,_,_,rfl,Z2n,h1,xg,np,Z9z _ _ _,_,_,rfl,rfl,Z2n,_,_,_,.inr ⟨rfl,rfl⟩,fun dx2 h2'=>?_⟩
   exact hE _ dx2 ((RD.Same.new nea).trans (RD.Same.new h2')) Z2n
  ·obtain⟨dx,g0⟩:=id hR
   unfold memM at k
   refine⟨_,rfl,r,dx,_,rfl,g0,rf_no _ _ (by decide) (by decide),r,a,p,2,bs,_,_,rfl,hR,hS,hp,hb,?_⟩
   cases e1:numM bs p 2 0 65535 with
   |error e=>rw [e1]at k;exact k
   |ok n =>
    rw [e1]at k
    dsimp only at k
    obtain⟨q1,q2,q3,_⟩:=Z2x e1
    intro H1 hR1 o1
    obtain⟨dx1,g1⟩:=id hR1
    have S1:=o1.sq g0 hS
    have hn:((n.toNat:Nat):Int)=n:=Z0K q2
    refine⟨_,rfl,r,CR,dx1,_,_,rfl,g1,T.cl,T.np,Z3j _ _,?_⟩
    refine⟨_,rfl,r,dx1,_,rfl,g1,rf_no _ _ (by decide) (by decide),_,rfl,r,a,p+2,n.toNat,bs,(by rw [hn];rfl),hR1,S1,q1,fun hle H2 l hR2 o2 nl hl2=>?_,fun hlt=>?_⟩
    ·rw [if_neg (by omega)]at k
     have hb2:∀ x∈(bs.drop (p+2)).take n.toNat,0≤x∧x≤255:=fun x hx=>hb x (Z2i (List.mem_of_mem_take hx))
     refine⟨_,rfl,l,_,rfl,SqL.of hl2,hb2,?_⟩
     cases e2:molM ((bs.drop (p+2)).take n.toNat)with
     |ok M =>
      rw [e2]at k
      dsimp only at k
      intro H3 mr al bl as ds s3 na nb mo wf
      obtain⟨dx2,g2⟩:=id hR2
      exact k H3 mr al bl as ds ⟨dx2,s3 _ _ g2⟩ (fun b o e ne=>s3 _ _ (o2 _ _ (o1 _ _ e ne) ne)) (fresh g0 o1 o2 g2 na) (fresh g0 o1 o2 g2 nb) mo wf
     |error e =>
      rw [e2]at k
      dsimp only at k
      intro H3 dx3 s3 hd3
      refine⟨rfl,dx3,e.1,e.2,_,rfl,rfl,hd3,fun H4 dx4 s4 hd4=>?_⟩
      exact k H4 dx4 (fun b o e ne=>s4 _ _ (s3 _ _ (o2 _ _ (o1 _ _ e ne) ne))) hd4
    ·rw [if_pos (by omega)]at k
     exact k.only o1
end
def memsM(bs:List Int):Nat→Nat→Except (Int×Int) (List Fk.Mol×Nat)
 |0,p=>.ok ([],p)
 |k+1,p=>match memM bs p with
  |.error e=>.error e
  |.ok x=>match memsM bs k x.2 with
   |.error e=>.error e
   |.ok y=>.ok (x.1::y.1,y.2)
theorem Z7o(bs:List Int)(p:Nat):memsM bs 0 p=.ok ([],p):=rfl
theorem Z3L(bs:List Int)(k p:Nat):memsM bs (k+1) p=match memM bs p with
  |.error e=>.error e
  |.ok x=>match memsM bs k x.2 with
   |.error e=>.error e
   |.ok y=>.ok (x.1::y.1,y.2):=rfl
def eqM(bs:List Int):Except (Int×Int) Fk.Equation :=
 match markM bs 0 [70,75,81,49]with
 |.error e=>.error e
 |.ok p=>match numM bs p 1 1 8 with
  |.error e=>.error e
  |.ok l=>match numM bs (p+1) 1 1 8 with
   |.error e=>.error e
   |.ok r=>match memsM bs l.toNat (p+2)with
    |.error e=>.error e
    |.ok x=>match memsM bs r.toNat x.2 with
     |.error e=>.error e
     |.ok y=>if y.2<bs.length then .error (7,y.2)else .ok ⟨x.1,y.1⟩
theorem Z6H{bs:List Int}{p:Nat}{x:Fk.Mol×Nat}(h:memM bs p=.ok x):x.2≤bs.length:=by
 unfold memM at h
 split at h
 ·cases h
 ·split at h
  ·cases h
  ·split at h
   ·cases h
   ·cases h
    show p+2+_≤_
    omega
theorem Z8B{bs:List Int}:∀ {k p:Nat}{y:List Fk.Mol×Nat},p≤bs.length→memsM bs k p=.ok y→y.1.length=k∧y.2≤bs.length
 |0,p,y,hp,h=>by cases h;exact⟨rfl,hp⟩
 |k+1,p,y,hp,h=>by
  rw [Z3L]at h
  cases e:memM bs p with
  |error e'=>rw [e]at h;cases h
  |ok x =>
   rw [e]at h
   dsimp only at h
   cases e2:memsM bs k x.2 with
   |error e'=>rw [e2]at h;cases h
   |ok z =>
    rw [e2]at h
    cases h
    obtain⟨a,b⟩:=Z8B (Z6H e) e2
    exact⟨by rw [Z0q,a],b⟩
def eqf(a b:Addr):List (Str×V):=[("left",.ref a),("right",.ref b)]
theorem Z8I(a b:Addr):(eqf a b).lookup ("left" : Str)=some (.ref a):=by
 unfold eqf;rw [Z0c,show(("left" : Str)=="left")=true by decide]
theorem ZaY(a b:Addr):(eqf a b).lookup ("right" : Str)=some (.ref b):=by
 unfold eqf;rw [Z0c,show(("right" : Str)=="left")=false by decide,Z0c,show(("right" : Str)=="right")=true by decide]
def MolD(CM CA CB D:Addr)(H:Hp)(t:Addr)(M:Fk.Mol):Prop:=∃ (al bl:Addr)(as ds:List Addr),MolAt CM CA CB H t al bl as ds M∧Wf M∧al≠D∧bl≠D
def MolA(CM CA CB:Addr)(H:Hp)(t:Addr)(M:Fk.Mol):Prop:=∃ (al bl:Addr)(as ds:List Addr),MolAt CM CA CB H t al bl as ds M∧Wf M
theorem MolA.same{CM CA CB:Addr}{H H':Hp}{t:Addr}{M:Fk.Mol}(h:MolA CM CA CB H t M)(s:L2.Same H H'):MolA CM CA CB H' t M:=let ⟨al,bl,as,ds,a,b⟩:=h;⟨al,bl,as,ds,a.same s,b⟩
theorem MolD.toA{CM CA CB D:Addr}{H:Hp}{t:Addr}{M:Fk.Mol}(h:MolD CM CA CB D H t M):MolA CM CA CB H t M:=let ⟨al,bl,as,ds,a,b,_⟩:=h;⟨al,bl,as,ds,a,b⟩
theorem MolA.toD{CM CA CB D:Addr}{H:Hp}{t:Addr}{M:Fk.Mol}(h:MolA CM CA CB H t M)(n:H D=none):MolD CM CA CB D H t M:=by
 obtain⟨al,bl,as,ds,a,b⟩:=h
 exact⟨al,bl,as,ds,a,b,Z2p a.atl n,Z2p a.bdl n⟩
section
variable{P:Program}{w:World}{K:Z0a}{mg:Str→Option Value}{base:Heap}{CF CR fF CA CB CM CQ:Addr}
structure TQ(K:Z0a)(CQ:Addr):Prop where
 cl:Cls K CQ
 nl:NoAttr K CQ "left"
 nr:NoAttr K CQ "right"
def spQI(CQ:Addr):Sp:=fun vs H Q _=>∃ (r dx a b:Addr),vs=[.ref r,.ref a,.ref b]∧H r=some (.ins CQ dx [])∧∀ H':Hp,H' r=some (.ins CQ dx (eqf a b))→Only r H H'→Q .non H'
theorem scQI:Z2v ["self","left","right"] ["self","left","right"] (Z2r Z3X):=⟨rfl,rfl,rfl,by decide +kernel,rfl,by decide +kernel,by decide +kernel⟩
theorem okQI{f:Addr}{fd:FuncData}(F:Fun K "__init__" "Equation.__init__" Z3X f fd)(T:TQ K CQ):FnOk P w K mg base CX0 1 f fd ["self","left","right"] (spQI CQ):=by
 refine F.ok scQI (fun vs H Q E h=>?_) (fun cdv A outer s H vs Q E hr h=>?_)
 ·obtain⟨r,dx,a,b,rfl,_⟩:=h
  rfl
 ·obtain⟨r,dx,a,b,rfl,hp,k⟩:=h
  refine⟨_,Z2o (Z2N (pv 0) (pv 1) rfl) (Z2s (Z2N (pv 0) (pv 2) rfl)),?_⟩
  refine⟨_,rfl,_,rfl,r,CQ,dx,[],rfl,hp,T.cl,T.nl,(by show 0<1000;decide),?_⟩
  refine⟨_,rfl,_,rfl,r,CQ,dx,_,rfl,Z2n,T.cl,T.nr,(by show 1<1000;decide),?_⟩
  rw [Z3a]
  exact k _ (by rw [Z2n];rfl) (Only.upd _)
end
theorem rf_ne{C C' d d' a:Addr}{p:Int}{fs:List (Str×V)}(h:fs.head?.map (·.1)≠some ("form" : Str)):(HO.ins C d fs)≠.ins C' d' (rf a p):=by
 intro z
 injection z with _ _ z
 rw [z]at h
 exact h rfl
theorem MolAt.onlyR{CM CA CB CR r dx a:Addr}{p:Int}{H H':Hp}{t al bl:Addr}{as ds:List Addr}{M:Fk.Mol}(m:MolAt CM CA CB H t al bl as ds M)(o:Only r H H')(hr:H r=some (.ins CR dx (rf a p))):MolAt CM CA CB H' t al bl as ds M:=by
 have nl:∀ {l:List V}{b:Addr},H b=some (.lst l)→b≠r:=fun e=>ne_of e hr (by intro z;cases z)
 refine⟨?_,o _ _ m.atl (nl m.atl),m.ats.keep fun t x _ h=>?_,o _ _ m.bdl (nl m.bdl),m.bds.keep fun t x _ h=>?_⟩
 ·obtain⟨dm,e⟩:=m.top
  exact⟨dm,o _ _ e (ne_of e hr (rf_ne (by show some ("atoms" : Str)≠some "form";decide)))⟩
 ·obtain⟨d,e⟩:=h
  exact⟨d,o _ _ e (ne_of e hr (rf_ne (by show some ("element" : Str)≠some "form";decide)))⟩
 ·obtain⟨d,e⟩:=h
  exact⟨d,o _ _ e (ne_of e hr (rf_ne (by show some ("a" : Str)≠some "form";decide)))⟩
theorem MolAt.updL{CM CA CB D:Addr}{H:Hp}{t al bl:Addr}{as ds:List Addr}{M:Fk.Mol}{l l':List V}(m:MolAt CM CA CB H t al bl as ds M)(hD:H D=some (.lst l))(na:al≠D)(nb:bl≠D):MolAt CM CA CB (upd H D (.lst l')) t al bl as ds M:=by
 have ni:∀ {C d b:Addr}{fs:List (Str×V)},H b=some (.ins C d fs)→b≠D:=fun e=>ne_of e hD (by intro z;cases z)
 refine⟨?_,by rw [Z2m na];exact m.atl,m.ats.keep fun t x _ h=>?_,by rw [Z2m nb];exact m.bdl,m.bds.keep fun t x _ h=>?_⟩
 ·obtain⟨dm,e⟩:=m.top
  exact⟨dm,by rw [Z2m (ni e)];exact e⟩
 ·obtain⟨d,e⟩:=h
  exact⟨d,by rw [Z2m (ni e)];exact e⟩
 ·obtain⟨d,e⟩:=h
  exact⟨d,by rw [Z2m (ni e)];exact e⟩
theorem MolD.onlyR{CM CA CB CR r dx a D:Addr}{p:Int}{H H':Hp}{t:Addr}{M:Fk.Mol}(h:MolD CM CA CB D H t M)(o:Only r H H')(hr:H r=some (.ins CR dx (rf a p))):MolD CM CA CB D H' t M :=
 let ⟨al,bl,as,ds,a,b,c⟩:=h;⟨al,bl,as,ds,a.onlyR o hr,b,c⟩
theorem MolD.updL{CM CA CB D:Addr}{H:Hp}{t:Addr}{M:Fk.Mol}{l l':List V}(h:MolD CM CA CB D H t M)(hD:H D=some (.lst l)):MolD CM CA CB D (upd H D (.lst l')) t M :=
 let ⟨al,bl,as,ds,a,b,c,d⟩:=h;⟨al,bl,as,ds,a.updL hD c d,b,c,d⟩
theorem Objs.to{α:Type}{R R':Hp→Addr→α→Prop}{H H':Hp}{ts:List Addr}{l:List α}(h:Objs R H ts l)(k:∀ t x,t∈ts→R H t x→R' H' t x):Objs R' H' ts l:=⟨h.1,fun j t x a b=>k t x (Z0u a) (h.2 j t x a b)⟩
structure EqAt(CQ CM CA CB:Addr)(H:Hp)(er ll rl:Addr)(ls rs:List Addr)(E:Fk.Equation):Prop where
 top:∃ dx,H er=some (.ins CQ dx (eqf ll rl))
 lel:H ll=some (.lst (ls.map V.ref))
 les:Objs (MolA CM CA CB) H ls E.left
 ril:H rl=some (.lst (rs.map V.ref))
 ris:Objs (MolA CM CA CB) H rs E.right
theorem EqAt.same{CQ CM CA CB:Addr}{H H':Hp}{er ll rl:Addr}{ls rs:List Addr}{E:Fk.Equation}(h:EqAt CQ CM CA CB H er ll rl ls rs E)(s:L2.Same H H'):EqAt CQ CM CA CB H' er ll rl ls rs E :=
 ⟨let ⟨dx,e⟩:=h.top;⟨dx,s _ _ e⟩,s _ _ h.lel,h.les.keep fun _ _ _ a=>a.same s,s _ _ h.ril,h.ris.keep fun _ _ _ a=>a.same s⟩
def lcAt(j:Nat)(b:List Stmt):Scope:=match b[j]? with
 |some x=>match x with
  |.Assign _ (.ListComp _ _ sc _) _=>sc
  |_=>{ kind:=.function,names:=[],isGenerator:=false,isCoroutine:=false }
 |none=>{ kind:=.function,names:=[],isGenerator:=false,isCoroutine:=false }
section
variable{P:Program}{w:World}{K:Z0a}{mg:Str→Option Value}{base:Heap}{CF CR fF CA CB CM CQ:Addr}
def spEq(K:Z0a)(CF CA CB CM CQ:Addr):Sp:=fun vs H Q E=>∃ (a:Addr)(bs:List Int),vs=[.ref a]∧SqL K H a (bs.map V.int)∧(∀ x∈bs,0≤x∧x≤255) ∧
 match eqM bs with
 |.ok E=>∀ (H':Hp)(er ll rl:Addr)(ls rs:List Addr),Same H H'→EqAt CQ CM CA CB H' er ll rl ls rs E→E.left.length≤8→E.right.length≤8→Q (.ref er) H'
 |.error e=>FltS CF E H e.1 e.2
theorem scEq:Z2v ["form","reader","left_count","right_count","left","right","k"] ["form"] (Z2r Z2P):=⟨rfl,rfl,rfl,by decide +kernel,rfl,by decide +kernel,by decide +kernel⟩
theorem blkL:BlkOk ["form","reader","left_count","right_count","left","right","k"] (Z2r Z2P) (lcAt 4 (Z2F Z2P)) [("k",6)]:=⟨rfl,by decide +kernel,by decide +kernel,by decide +kernel,by decide +kernel⟩
theorem blkR:BlkOk ["form","reader","left_count","right_count","left","right","k"] (Z2r Z2P) (lcAt 5 (Z2F Z2P)) [("k",6)]:=⟨rfl,by decide +kernel,by decide +kernel,by decide +kernel,by decide +kernel⟩
theorem okEq{f fI fM fN fE fW fJ:Addr}{fd fdI fdM fdN fdE fdW fdJ:FuncData}(F:Fun K "read_equation" "read_equation" Z2P f fd)(T:TR K mg CF CR fF)(hran:mg "range" = none)
  (mark:∃ a,mg "MARK_equations" = some (.ref a)∧∀ H,SqT K H a (([70,75,81,49]:List Int).map V.int))(cS:∃ u,mg "MOST_ON_A_SIDE" = some u∧RelV (.int 8) u)
  (M:Mk K CR fI)(GI:FnOk P w K mg base CX0 1 fI fdI ["self","form"] (spRI CR))(bI:Binds K fdI ["self","form"] [])
  (GM:FnOk P w K mg base (CXQ false P w) 2 fM fdM ["self","mark"] (Z9l K CF CR))(mM:Meth K CR "expect_mark" fM)(bM:Binds K fdM ["self","mark"] [])
  (GN:FnOk P w K mg base (CXQ false P w) 3 fN fdN ["self","size","least","most"] (spNum K CF CR))(mN:Meth K CR "number" fN)(bN:Binds K fdN ["self","size","least","most"] [])
  (GW:FnOk P w K mg base (CXQ false P w) 2 fW fdW ["self"] (spFin K CF CR))(mW:Meth K CR "finish" fW)(bW:Binds K fdW ["self"] [])
  (GE:FnOk P w K mg base (CXQ false P w) 12 fE fdE ["reader"] (spMem K CF CR CA CB CM))(mE:mg "read_member" = some (.ref fE))(kE:PySem.W.keepIn K (.ref fE)=true)(bE:Binds K fdE ["reader"] [])
  (J:Mk K CQ fJ)(hJ:mg "Equation" = some (.ref CQ))(GJ:FnOk P w K mg base CX0 1 fJ fdJ ["self","left","right"] (spQI CQ))(bJ:Binds K fdJ ["self","left","right"] []) :
  FnOk P w K mg base (CXQ false P w) 13 f fd ["form"] (spEq K CF CA CB CM CQ):=by
 refine okX F scEq (fun vs H Q E h=>?_) (fun cdv A outer s H vs Q E hr h=>?_)
 ·obtain⟨a,bs,rfl,_⟩:=h
  rfl
 ·obtain⟨a,bs,rfl,hS,hb,k⟩:=h
  obtain⟨aM,eM,hM⟩:=mark
  have hr2:Room 2 _:=hr.mono (by decide)
  have hr3:Room 3 _:=hr.mono (by decide)
  refine⟨_,Z2o (Z2w (i:=1) scEq.nd rfl (Or.inr rfl) (Z3M M GI hr2 rfl T.mgR bI .nil pass0 (Z2l (pv 0) Z2q)))
   (Z2o (Z2K (Z2A (pv 1) T.cl mM GM hr2 bM .nil Z2z (Z2l (Z6F (v:=.ref aM) rfl eM rfl) Z2q)))
   (Z2o (Z2w (i:=2) scEq.nd rfl (Or.inl rfl) (Z2A (pv 1) T.cl mN GN hr3 bN .nil Z2z (Z2l Z2t (Z2l Z2t (Z2l (pe_gc rfl cS) Z2q)))))
   (Z2o (Z2w (i:=3) scEq.nd rfl (Or.inl rfl) (Z2A (pv 1) T.cl mN GN hr3 bN .nil Z2z (Z2l Z2t (Z2l Z2t (Z2l (pe_gc rfl cS) Z2q)))))
   (Z2o (Z6i (E:=E) (i:=4) rfl rfl rfl (fun _ _ h=>h) rfl scEq.nd rfl rfl (Z4g rfl rfl rfl rfl) (Z4J rfl hran (Z2l (pv 2) Z2q)) blkL (fun s H C cl fp xe=>Z2H (i:=6) scEq.nd rfl (Or.inl rfl)) (fun s H C cl fp xe=>Z4f)
      (fun s H C cl fp xe hx=>Z2B GE hr rfl mE kE bE .nil hx (Z2l (pv 1) Z2q)))
   (Z2o (Z6i (E:=E) (i:=5) rfl rfl rfl (fun _ _ h=>h) rfl scEq.nd rfl rfl (Z4g rfl rfl rfl rfl) (Z4J rfl hran (Z2l (pv 3) Z2q)) blkR (fun s H C cl fp xe=>Z2H (i:=6) scEq.nd rfl (Or.inl rfl)) (fun s H C cl fp xe=>Z4f)
      (fun s H C cl fp xe hx=>Z2B GE hr rfl mE kE bE .nil hx (Z2l (pv 1) Z2q)))
   (Z2o (Z2K (Z7f (pv 1) T.cl mW GW hr2 bW .nil Z2z))
   (Z2s (Z2y (Z3M J GJ hr2 rfl hJ bJ .nil pass0 (Z2l (pv 4) (Z2l (pv 5) Z2q))))))))))),?_⟩
  unfold eqM at k
  refine⟨_,rfl,fun r dx nr nd ndr=>⟨r,dx,a,rfl,Z2n,fun H1 hR1 o1=>⟨rfl,?_⟩⟩⟩
  have s1:L2.Same H H1:=fun b o e=>o1 b o (by rw [Z2m (Z2p e nr),Z2m (Z2p e nd)];exact e) (Z2p e nr)
  have S1:=s1.seq hS
  obtain⟨dx1,g1⟩:=id hR1
  refine⟨_,rfl,r,dx1,_,rfl,g1,rf_no _ _ (by decide) (by decide),r,a,aM,0,bs,_,rfl,hR1,S1,hM _,Z0p _,?_⟩
  cases e1:markM bs 0 [70,75,81,49]with
  |error e=>rw [e1]at k;exact FltS.flt k s1 nr
  |ok p =>
   rw [e1]at k
   dsimp only at k
   have hp:=Z5n (Z0p _) e1
   intro H2 hR2 o2
   have s2:=Same.only s1 o2 nr
   have S2:=s2.seq hS
   obtain⟨dx2,g2⟩:=id hR2
   refine⟨_,rfl,r,dx2,_,rfl,g2,rf_no _ _ (by decide) (by decide),r,a,p,1,bs,_,_,rfl,hR2,S2,hp,hb,?_⟩
   cases e2:numM bs p 1 1 8 with
   |error e=>rw [e2]at k;exact FltS.flt k s2 nr
   |ok n =>
    rw [e2]at k
    dsimp only at k
    obtain⟨q1,q2,q3,_⟩:=Z2x e2
    intro H3 hR3 o3
    have s3:=Same.only s2 o3 nr
    have S3:=s3.seq hS
    obtain⟨dx3,g3⟩:=id hR3
    refine⟨_,rfl,r,dx3,_,rfl,g3,rf_no _ _ (by decide) (by decide),r,a,p+1,1,bs,_,_,rfl,hR3,S3,by omega,hb,?_⟩
    cases e3:numM bs (p+1) 1 1 8 with
    |error e=>rw [e3]at k;exact FltS.flt k s3 nr
    |ok m =>
     rw [e3]at k
     dsimp only at k
     obtain⟨m1,m2,m3,_⟩:=Z2x e3
     intro H4 hR4 o4
     have s4:=Same.only s3 o4 nr
     obtain⟨dx4,g4⟩:=id hR4
     refine⟨_,rfl,n,rfl,by omega,by omega,fun al hal=>Z6c (lo:=0) (n:=n.toNat) (fun i H'=>∃ (ts:List Addr)(l1:List Fk.Mol)(q:Nat),L2.Same H H'∧RdAt CR H' r a q∧q≤bs.length∧H' al=some (.lst (ts.map V.ref))∧l1.length=i∧Objs (MolD CM CA CB al) H' ts l1 ∧
       memsM bs n.toNat (p+2)=(match memsM bs (n.toNat-i) q with |.error e=>.error e |.ok y=>.ok (l1++y.1,y.2)))
      ⟨[],[],p+2,s4.trans (RD.Same.new hal),⟨dx4,by rw [Z2m (Z2p g4 hal)];exact g4⟩,by omega,Z2n,rfl,Objs.nil,?_⟩ ?_ ?_⟩
     ·rw [Z1q]
      cases memsM bs n.toNat (p+2)<;>rfl
     ·rintro i H' hi ⟨ts,l1,q,s5,hR5,hq,hal5,hl1,hO,hk⟩
      obtain⟨dx5,g5⟩:=id hR5
      have nal:H al=none:=s4.free hal
      have hn:n.toNat-i=(n.toNat-(i+1))+1:=by omega
      rw [hn,Z3L]at hk
      refine⟨rfl,_,rfl,r,a,q,bs,rfl,hR5,s5.seq hS,hq,hb,?_⟩
      cases e4:memM bs q with
      |error e =>
       rw [e4]at hk
       dsimp only at hk
       rw [hk]at k
       exact FltS.flt k s5 nr
      |ok x =>
       rw [e4]at hk
       dsimp only at hk
       intro H6 t ta tb as ds hR6 o6 na nb mo wf
       have s6:=Same.only s5 o6 nr
       obtain⟨dx6,g6⟩:=id hR6
       have ral:r≠al:=ne_of g5 hal5 (by intro z;cases z)
       have hal6:H6 al=some (.lst (ts.map V.ref)):=o6 _ _ hal5 ral.symm
       have n1:ta≠al:=fun z=>by rw [z,hal5]at na;cases na
       have n2:tb≠al:=fun z=>by rw [z,hal5]at nb;cases nb
       refine⟨_,hal6,by rw [Z0b,hO.1,hl1,sizeLine_eq];omega,ts++[t],l1++[x.1],x.2,fun b o e=>?_,⟨dx6,by rw [Z2m ral];exact g6⟩,Z6H e4,by rw [Z2n,Z0z];rfl,by simp [hl1],Objs.snoc (hO.keep fun t' x' _ ha=>(ha.onlyR o6 g5).updL hal6) ⟨ta,tb,as,ds,mo.updL hal6 n1 n2,wf,n1,n2⟩,?_⟩
       ·rw [Z2m (Z2p e nal)];exact s6 _ _ e
       ·rw [hk]
        cases memsM bs (n.toNat-(i+1)) x.2 with
        |error e=>rfl
        |ok y=>simp
     ·rintro H5 ⟨ls,l1,q,s5,hR5,hq,hal5,hl1,hO,hk⟩
      rw [Z0W,Z7o]at hk
      dsimp only at hk
      rw [hk]at k
      simp only [Z0F]at k
      obtain⟨dx5,g5⟩:=id hR5
      have nal:H al=none:=s4.free hal
      refine⟨_,rfl,m,rfl,by omega,by omega,fun rl hrl=>Z6c (lo:=0) (n:=m.toNat) (fun i H'=>∃ (ts:List Addr)(l2:List Fk.Mol)(q':Nat),L2.Same H H'∧RdAt CR H' r a q'∧q'≤bs.length∧H' rl=some (.lst (ts.map V.ref))∧l2.length=i∧Objs (MolD CM CA CB rl) H' ts l2 ∧
       H' al=some (.lst (ls.map V.ref))∧Objs (MolD CM CA CB rl) H' ls l1∧memsM bs m.toNat q=(match memsM bs (m.toNat-i) q' with |.error e=>.error e |.ok y=>.ok (l2++y.1,y.2)))
       ⟨[],[],q,s5.trans (RD.Same.new hrl),⟨dx5,by rw [Z2m (Z2p g5 hrl)];exact g5⟩,hq,Z2n,rfl,Objs.nil,by rw [Z2m (Z2p hal5 hrl)];exact hal5,hO.to fun t x _ ha=>?_,?_⟩ ?_ ?_⟩
      ·obtain⟨u1,u2,u3,u4,u5,u6,u7⟩:=ha.toA.toD (D:=rl) hrl
       exact⟨u1,u2,u3,u4,u5.same (RD.Same.new hrl),u6,u7⟩
      ·rw [Z1q]
       cases memsM bs m.toNat q<;>rfl
      ·rintro i H' hi ⟨ts,l2,q',s6,hR6,hq6,hrl6,hl2,hO2,hal6,hO6,hk2⟩
       obtain⟨dx6,g6⟩:=id hR6
       have nrl:H rl=none:=s5.free hrl
       have arl:al≠rl:=Z2p hal5 hrl
       have hn:m.toNat-i=(m.toNat-(i+1))+1:=by omega
       rw [hn,Z3L]at hk2
       refine⟨rfl,_,rfl,r,a,q',bs,rfl,hR6,s6.seq hS,hq6,hb,?_⟩
       cases e4:memM bs q' with
       |error e =>
        rw [e4]at hk2
        dsimp only at hk2
        rw [hk2]at k
        exact FltS.flt k s6 nr
       |ok x =>
        rw [e4]at hk2
        dsimp only at hk2
        intro H7 t ta tb as ds hR7 o7 na nb mo wf
        have s7:=Same.only s6 o7 nr
        obtain⟨dx7,g7⟩:=id hR7
        have rrl:r≠rl:=ne_of g6 hrl6 (by intro z;cases z)
        have ral:r≠al:=ne_of g6 hal6 (by intro z;cases z)
        have hrl7:H7 rl=some (.lst (ts.map V.ref)):=o7 _ _ hrl6 rrl.symm
        have n1:ta≠rl:=fun z=>by rw [z,hrl6]at na;cases na
        have n2:tb≠rl:=fun z=>by rw [z,hrl6]at nb;cases nb
        refine⟨_,hrl7,by rw [Z0b,hO2.1,hl2,sizeLine_eq];omega,ts++[t],l2++[x.1],x.2,fun b o e=>?_,⟨dx7,by rw [Z2m rrl];exact g7⟩,Z6H e4,by rw [Z2n,Z0z];rfl,by simp [hl2],
         Objs.snoc (hO2.keep fun t' x' _ ha=>(ha.onlyR o7 g6).updL hrl7) ⟨ta,tb,as,ds,mo.updL hrl7 n1 n2,wf,n1,n2⟩,by rw [Z2m arl];exact o7 _ _ hal6 ral.symm,hO6.keep fun t' x' _ ha=>(ha.onlyR o7 g6).updL hrl7,?_⟩
        ·rw [Z2m (Z2p e nrl)];exact s7 _ _ e
        ·rw [hk2]
         cases memsM bs (m.toNat-(i+1)) x.2 with
         |error e=>rfl
         |ok y=>simp
      ·rintro H6 ⟨rs,l2,q',s6,hR6,hq6,hrl6,hl2,hO2,hal6,hO6,hk2⟩
       rw [Z0W,Z7o]at hk2
       dsimp only at hk2
       rw [hk2]at k
       simp only [Z0F]at k
       obtain⟨dx6,g6⟩:=id hR6
       refine⟨_,rfl,r,dx6,_,rfl,g6,rf_no _ _ (by decide) (by decide),r,a,q',bs,rfl,hR6,s6.seq hS,hq6,fun hqe H7 s7=>?_,fun hlt=>?_⟩
       ·rw [if_neg (by omega)]at k
        refine⟨_,rfl,_,rfl,fun u ud nu nud und=>⟨u,ud,al,rl,rfl,Z2n,fun H8 hu8 o8=>⟨rfl,?_⟩⟩⟩
        have s8:L2.Same H7 H8:=fun b o e=>o8 b o (by rw [Z2m (Z2p e nu),Z2m (Z2p e nud)];exact e) (Z2p e nu)
        have s78:=s7.trans s8
        exact k H8 u al rl ls rs (s6.trans s78) ⟨⟨ud,hu8⟩,s78 _ _ hal6,hO6.to fun _ _ _ ha=>ha.toA.same s78,s78 _ _ hrl6,hO2.to fun _ _ _ ha=>ha.toA.same s78⟩ (by show l1.length≤8;omega) (by show l2.length≤8;omega)
       ·rw [if_pos hlt]at k
        exact FltS.flt k s6 nr
end
section
variable{P:Program}{w:World}{K:Z0a}{mg:Str→Option Value}{base:Heap}{CF CW CN CT fF CA CB CM CQ:Addr}
def fV(x:Nat×Nat):List V:=[.int (x.1:Int),.int (x.2:Int)]
def spFr(K:Z0a)(g:Nat×Nat→Nat→Nat×Nat):Sp:=fun vs H Q _=>∃ (t:Addr)(x:Nat×Nat)(n k:Nat),vs=[.ref t,.int (n:Int)]∧SqT K H t (fV x)∧n<2 ^ 64∧0<n∧0<x.2∧x.2*n<2 ^ k∧k≤9000 ∧
 ∀ H' u,L2.Same H H'→H u=none→H' u=some (.tup (fV (g x n)))→Q (.ref u) H'
def Z2X(x:Nat×Nat)(n:Nat):Nat×Nat:=Fk.low (x.1*n,x.2)
def overN(x:Nat×Nat)(n:Nat):Nat×Nat:=Fk.low (x.1,x.2*n)
theorem scTimes:Z2v ["fraction","number"] ["fraction","number"] (Z2r Z7c):=⟨rfl,rfl,rfl,by decide +kernel,rfl,by decide +kernel,by decide +kernel⟩
theorem okTimes{f fL:Addr}{fd fdL:FuncData}(F:Fun K "times" "times" Z7c f fd)(GL:FnOk P w K mg base CX0 2 fL fdL ["numerator","denominator"] spLow)(mL:mg "lowest" = some (.ref fL))(kL:PySem.W.keepIn K (.ref fL)=true)(bL:Binds K fdL ["numerator","denominator"] []) :
  FnOk P w K mg base CX0 3 f fd ["fraction","number"] (spFr K Z2X):=by
 refine F.ok scTimes (fun vs H Q E h=>?_) (fun cdv A outer s H vs Q E hr h=>?_)
 ·obtain⟨t,x,n,k,rfl,_⟩:=h
  rfl
 ·obtain⟨t,x,n,k,rfl,ht,h1,h0,h2,h3,h4,q⟩:=h
  refine⟨_,Z2s (Z2y (Z2B GL hr rfl mL kL bL .nil pass0 (Z2l (pe_op Z3I (pe_ix Z2W (pv 0) Z2t (fun _ _=>rfl)) (pv 1)) (Z2l (pe_ix Z2W (pv 0) Z2t (fun _ _=>rfl)) Z2q)))),?_⟩
  have hx:x.2≤x.2*n:=Nat.le_mul_of_pos_right _ h0
  refine⟨_,rfl,t,_,_,_,rfl,rfl,ht,rfl,_,rfl,(x.1:Int),(n:Int),rfl,rfl,.inr ⟨by omega,by omega⟩,_,rfl,t,_,_,_,rfl,rfl,ht,rfl,x.1*n,x.2,k,by rw [Z1g];rfl,h2,by omega,h4,fun H' u s nu hu=>?_⟩
  exact q H' u s nu hu
theorem scOver:Z2v ["fraction","number"] ["fraction","number"] (Z2r Z7P):=⟨rfl,rfl,rfl,by decide +kernel,rfl,by decide +kernel,by decide +kernel⟩
theorem okOver{f fL:Addr}{fd fdL:FuncData}(F:Fun K "over" "over" Z7P f fd)(GL:FnOk P w K mg base CX0 2 fL fdL ["numerator","denominator"] spLow)(mL:mg "lowest" = some (.ref fL))(kL:PySem.W.keepIn K (.ref fL)=true)(bL:Binds K fdL ["numerator","denominator"] []) :
  FnOk P w K mg base CX0 3 f fd ["fraction","number"] (spFr K overN):=by
 refine F.ok scOver (fun vs H Q E h=>?_) (fun cdv A outer s H vs Q E hr h=>?_)
 ·obtain⟨t,x,n,k,rfl,_⟩:=h
  rfl
 ·obtain⟨t,x,n,k,rfl,ht,h1,h0,h2,h3,h4,q⟩:=h
  refine⟨_,Z2s (Z2y (Z2B GL hr rfl mL kL bL .nil pass0 (Z2l (pe_ix Z2W (pv 0) Z2t (fun _ _=>rfl)) (Z2l (pe_op Z3I (pe_ix Z2W (pv 0) Z2t (fun _ _=>rfl)) (pv 1)) Z2q)))),?_⟩
  refine⟨_,rfl,t,_,_,_,rfl,rfl,ht,rfl,_,rfl,t,_,_,_,rfl,rfl,ht,rfl,_,rfl,(x.2:Int),(n:Int),rfl,rfl,.inr ⟨by omega,by omega⟩,x.1,x.2*n,k,by rw [Z1g];rfl,Z1s h2 h0,h3,h4,fun H' u s nu hu=>?_⟩
  exact q H' u s nu hu
def NumOk(E:Fk.Equation)(c:List Nat):Prop:=c.length=E.left.length+E.right.length∧∀ x∈c,x≠0
def Z9j(K:Z0a)(CW CA CB CM CQ:Addr):Sp:=fun vs H Q E=>∃ (er ll rl a:Addr)(ls rs:List Addr)(q:Fk.Equation)(c:List Nat),vs=[.ref er,.ref a]∧EqAt CQ CM CA CB H er ll rl ls rs q∧SqL K H a (c.map nV) ∧
 (NumOk q c→Q .non H)∧(¬ NumOk q c→E (.ref CW) none H)
theorem scRefuse:Z2v ["equation","numbers"] ["equation","numbers"] (Z2r Z3S):=⟨rfl,rfl,rfl,by decide +kernel,rfl,by decide +kernel,by decide +kernel⟩
theorem Z8O(c:List Nat):inV (.int 0) (c.map nV)=true↔¬ ∀ x∈c,x≠0:=by
 unfold inV
 rw [List.any_map,Z1S]
 constructor
 ·rintro⟨x,hx,e⟩ h
  have e':eqV (nV x) (.int 0)=true:=e
  unfold eqV nV at e'
  exact h x hx (by simpa using e')
 ·intro h
  by_cases z:∃ x∈c,x=0
  ·obtain⟨x,hx,rfl⟩:=z
   exact⟨0,hx,rfl⟩
  ·exact absurd (fun x hx e=>z ⟨x,hx,e⟩) h
theorem okRefuse{f:Addr}{fd:FuncData}(F:Fun K "refuse_numbers" "refuse_numbers" Z3S f fd)(T:TQ K CQ)(xw:XP K CW)(mW:mg "WrongNumbers" = some (.ref CW))(hlen:mg "len" = none) :
  FnOk P w K mg base (CXF P w) 2 f fd ["equation","numbers"] (Z9j K CW CA CB CM CQ):=by
 refine okX F scRefuse (fun vs H Q E h=>?_) (fun cdv A outer s H vs Q E hr h=>?_)
 ·obtain⟨er,ll,rl,a,ls,rs,q,c,rfl,_⟩:=h
  rfl
 ·obtain⟨er,ll,rl,a,ls,rs,q,c,rfl,hq,ha,k1,k2⟩:=h
  obtain⟨de,he⟩:=hq.top
  refine⟨_,Z2s (ps_if (PW.pt (pw_or (Z2G op_ne (Z2U Z2J (by rfl) hlen PySem.boot_len (Z2l (pv 1) Z2q)) (pe_op Z3p (Z2U Z2J (by rfl) hlen PySem.boot_len (Z2l (Z2u (pv 0) rfl) Z2q)) (Z2U Z2J (by rfl) hlen PySem.boot_len (Z2l (Z2u (pv 0) rfl) Z2q))) (Z2D _))
   (Z7k (Z2G Zbi Z2t (pv 1) rfl)))) (Z2s (Z4L xw rfl rfl rfl mW Z2Q)) Z2L),?_⟩
  refine⟨_,rfl,a,_,rfl,.inl ha,_,rfl,er,CQ,de,_,_,rfl,he,T.cl,T.nl,Z8I _ _,ll,_,rfl,.inl (SqL.of hq.lel),_,rfl,er,CQ,de,_,_,rfl,he,T.cl,T.nr,ZaY _ _,rl,_,rfl,.inl (SqL.of hq.ril),_,_,rfl,rfl,rfl,_,rfl,ite2 (fun hc=>?_) (fun hc=>?_)⟩
  ·refine k2 fun z=>?_
   have h1:=z.1
   rw [←hq.les.1,←hq.ris.1]at h1
   rw [Z0b,Z0b,Z0b,h1]at hc
   simp at hc
  ·refine⟨_,rfl,a,_,rfl,.inl ha,rfl,by rw [List.all_map];exact Z0J.mpr fun _ _=>rfl,_,rfl,ite2 (fun hc2=>?_) (fun hc2=>?_)⟩
   ·exact k2 fun z=>(Z8O c).mp hc2 z.2
   ·refine k1 ⟨?_,?_⟩
    ·rw [←hq.les.1,←hq.ris.1]
     rw [Z0b,Z0b,Z0b]at hc
     by_cases z:c.length=ls.length+rs.length
     ·exact z
     ·exact absurd (by simp;omega) hc
    ·by_cases z:∀ x∈c,x≠0
     ·exact z
     ·exact absurd ((Z8O c).mpr z) hc2
end
def fr(x:Nat×Nat):List Int:=[(x.1:Int),(x.2:Int)]
theorem Z5C{x:Nat×Nat}(h:0<x.2):0<(Fk.low x).2∧(Fk.low x).2≤x.2:=by
 unfold Fk.low
 have g0:0<Nat.gcd x.1 x.2:=Z1o _ h
 exact⟨Nat.div_pos (Nat.le_of_dvd h (Z1R _ _)) g0,Z1V _ _⟩
section
variable{P:Program}{w:World}{K:Z0a}{mg:Str→Option Value}{base:Heap}{CF CW CN CT fF CA CB CM CQ:Addr}
def Z5j(l:List (Nat×Nat)):Bool:=(l.flatMap fr).any fun x=>decide ((18446744073709551615:Int)<x)
def spFrow(K:Z0a)(CT:Addr):Sp:=fun vs H Q E=>∃ (a:Addr)(ts:List Addr)(l:List (Nat×Nat)),vs=[.ref a]∧H a=some (.lst (ts.map V.ref))∧Tups H ts (l.map fr)∧l.length≤1000 ∧
 (Z5j l=false→∀ H' t,L2.Same H H'→H t=none→H' t=some (.lst (((((l.flatMap fr).length:Nat):Int)::l.flatMap fr).map V.int))→Q (.ref t) H')∧(Z5j l=true→∀ H',L2.Same H H'→E (.ref CT) none H')
theorem scFrow:Z2v ["fractions","numbers","fraction"] ["fractions"] (Z2r Z4m):=⟨rfl,rfl,rfl,by decide +kernel,rfl,by decide +kernel,by decide +kernel⟩
theorem Z5V:∀ l:List (Nat×Nat),(l.flatMap fr).length=2*l.length
 |[]=>rfl
 |x::l=>by rw [List.flatMap_cons,Z0x,Z5V l,Z0q];show 2+_=_;omega
theorem fr_at{H:Hp}{ts:List Addr}{am:List (Nat×Nat)}{i:Nat}{y:V}(hT:Tups H ts (am.map fr))(hi:(ts.map V.ref)[i]?=some y):∃ t x,y=.ref t∧ts[i]?=some t∧am[i]?=some x∧H t=some (.tup (fV x)):=by
 rw [Z0k]at hi
 cases e:ts[i]? with
 |none=>rw [e]at hi;cases hi
 |some t =>
  rw [e]at hi
  cases hi
  have hlt:=(Z0r.mp e).1
  have hla:i<am.length:=by have:=hT.1;rw [Z0b]at this;omega
  refine⟨t,am[i],rfl,rfl,Z0j hla,?_⟩
  exact hT.2 i t (fr am[i]) e (by rw [Z0k,Z0j hla];rfl)
theorem okFrow{f fA fR:Addr}{fd fdA fdR:FuncData}(F:Fun K "fraction_row" "fraction_row" Z4m f fd)(cM:∃ u,mg "MOST_TOLD" = some u∧RelV (.int 18446744073709551615) u)
  (GA:FnOk P w K mg base (CXF P w) 2 fA fdA ["most","numbers"] (Z9T K CT))(mA:mg "refuse_above" = some (.ref fA))(kA:PySem.W.keepIn K (.ref fA)=true)(bA:Binds K fdA ["most","numbers"] [])
  (GR:FnOk P w K mg base CX0 1 fR fdR ["numbers"] spRow)(mR:mg "row" = some (.ref fR))(kR:PySem.W.keepIn K (.ref fR)=true)(bR:Binds K fdR ["numbers"] []) :
  FnOk P w K mg base (CXF P w) 3 f fd ["fractions"] (spFrow K CT):=by
 refine okX F scFrow (fun vs H Q E h=>?_) (fun cdv A outer s H vs Q E hr h=>?_)
 ·obtain⟨a,ts,l,rfl,_⟩:=h
  rfl
 ·obtain⟨a,ts,l,rfl,ha,hT,hl,k1,k2⟩:=h
  have hr1:Room 1 _:=hr.mono (by decide)
  refine⟨_,Z2o (Z2w (i:=1) scFrow.nd rfl (Or.inl rfl) (Z3B Z2q))
   (Z2o (Z3A Z4N rfl (Z4W (pv 0)) (Z2H (i:=2) scFrow.nd rfl (Or.inl rfl))
     (Z2s (Z2K (pe_bm Z1e PySem.F.slot_list_extend PySem.F.type_list_extend ZaV (pv 1)
       (Z2l (Z3B (Z2l (pe_ix Z2W (pv 2) Z2t (fun _ _=>rfl)) (Z2l (pe_ix Z2W (pv 2) Z2t (fun _ _=>rfl)) Z2q))) Z2q)))))
   (Z2o (Z2K (Z2B GA hr rfl mA kA bA .nil Z2z (Z2l (pe_gc rfl cM) (Z2l (pv 1) Z2q))))
   (Z2s (Z2y (Z2B GR hr1 rfl mR kR bR .nil pass0 (Z2l (pv 1) Z2q)))))),?_⟩
  refine⟨Z0p _,fun n hn=>?_⟩
  have nn:H n=none:=hn
  have s0:L2.Same H (upd H n (.lst [])):=RD.Same.new hn
  refine⟨_,rfl,a,rfl,⟨_,SqL.of (s0 _ _ ha)⟩,Z5Q (K:=K) (a:=a) (xs:=ts.map V.ref) (fun i σ H'=>∃ v:Option V,σ=[some (.ref a),some (.ref n),v]∧L2.Same H H'∧H' n=some (.lst (((l.take i).flatMap fr).map V.int)))
   ⟨none,rfl,s0,Z2n⟩ (fun i σ H' _ ⟨_,_,s,_⟩=>SqL.of (s _ _ ha)) ?_ ?_⟩
  ·rintro i y σ H' hi ⟨v,rfl,s1,h1⟩
   obtain⟨t,x,rfl,e1,e2,e3⟩:=fr_at hT hi
   have ht:=s1 _ _ e3
   have hil:=(Z0r.mp e2).1
   refine⟨_,rfl,.inl ⟨rfl,_,SqL.of h1⟩,_,rfl,t,_,_,_,rfl,rfl,SqT.of ht,rfl,_,rfl,t,_,_,_,rfl,rfl,SqT.of ht,rfl,(by show 2≤sizeLine;decide),fun u hu=>?_⟩
   have nu:H' u=none:=hu
   have s2:L2.Same H' (upd H' u (.lst [.int (x.1:Int),.int (x.2:Int)])):=RD.Same.new hu
   refine⟨n,u,_,_,rfl,rfl,s2 _ _ h1,Z2n,?_,?_⟩
   ·rw [Z0b,Z5V,Z1k,sizeLine_eq]
    show _+2≤_
    omega
   ·refine⟨_,rfl,fun b o e=>?_,?_⟩
    ·rw [Z2m (Z2p e nn)];exact s2 _ _ (s1 _ _ e)
    ·rw [Z2n,Z1z,e2,List.flatMap_append,Z0z];rfl
  ·rintro σ H' ⟨v,rfl,s1,h1⟩
   rw [Z0b,hT.1,Z0b,Z1T]at h1
   refine⟨_,rfl,_,n,_,rfl,SqL.of h1,fun hf=>?_,fun hf=>k2 hf _ s1⟩
   refine⟨_,rfl,n,_,rfl,h1,?_,fun H2 t s2 nt ht=>?_⟩
   ·rw [Z0b,Z5V,sizeLine_eq];omega
   ·refine k1 hf H2 t (s1.trans s2) (s1.free nt) ?_
    rw [ht,Z0b];rfl
end
section
variable{P:Program}{w:World}{K:Z0a}{mg:Str→Option Value}{base:Heap}{CF CW CN CT fF:Addr}
def pr:List Nat→Option (List (Nat×Nat))
 |[]=>some []
 |[_]=>none
 |x::y::r=>if y=0 then none else(pr r).map (Fk.low (x,y)::·)
def prow(x:Nat×Nat):List Int:=[(x.1:Int),(x.2:Int)]
def spPair(K:Z0a)(CW:Addr):Sp:=fun vs H Q E=>∃ (a:Addr)(ns:List Nat),vs=[.ref a]∧SqL K H a (ns.map nV)∧(∀ n∈ns,n<2 ^ 64)∧ns.length≤1000 ∧
 match pr ns with
 |some l=>∀ H' t ts,L2.Same H H'→H t=none→H' t=some (.lst (ts.map V.ref))→Tups H' ts (l.map prow)→Q (.ref t) H'
 |none=>∀ H',L2.Same H H'→E (.ref CW) none H'
theorem scPair:Z2v ["numbers","fractions","k"] ["numbers"] (Z2r Z6k):=⟨rfl,rfl,rfl,by decide +kernel,rfl,by decide +kernel,by decide +kernel⟩
theorem pr_odd:∀ (ns:List Nat),ns.length % 2≠0→pr ns=none
 |[],h=>by simp at h
 |[_],_=>rfl
 |x::y::r,h=>by
  unfold pr
  split
  ·rfl
  ·rw [pr_odd r (by simp only [Z0q]at h;omega)]
   rfl
theorem pr_step{ns:List Nat}{i:Nat}(h:2*i+1<ns.length):pr (ns.drop (2*i))=if ns[2*i+1]'(by omega)=0 then none else(pr (ns.drop (2*(i+1)))).map (Fk.low (ns[2*i]'(by omega),ns[2*i+1]'(by omega))::·):=by
 rw [Z1y (show 2*i<ns.length by omega),Z1y (show 2*i+1<ns.length by omega)]
 rfl
theorem Z8Y(m:Nat):Builtin.Range.rangeSize 0 ((2*m:Nat):Int) 2=(m:Int):=by
 unfold Builtin.Range.rangeSize
 rw [if_pos (by decide)]
 split<;>omega
theorem Z4I{i:Int}(h0:0≤i)(h1:i≤4000):Builtin.Range.rangeFitsLong i=true:=by
 unfold Builtin.Range.rangeFitsLong
 rw [Z0B,decide_eq_true_iff,decide_eq_true_iff]
 omega
theorem ZaZ{m:Nat}(h:m≤1000):Builtin.Range.small 0 ((2*m:Nat):Int) 2=true:=by
 unfold Builtin.Range.small
 rw [Z8Y,Z4I (by omega) (by omega),Z4I (by omega) (by omega),Z4I (by omega) (by omega),Z4I (by omega) (by omega),if_pos (by decide),Z4I (by omega) (by omega),Bool.or_true]
 rfl
theorem okPair{f fL:Addr}{fd fdL:FuncData}(F:Fun K "paired" "paired" Z6k f fd)(xw:XP K CW)(mW:mg "WrongNumbers" = some (.ref CW))(hlen:mg "len" = none)(hran:mg "range" = none)
  (GL:FnOk P w K mg base CX0 2 fL fdL ["numerator","denominator"] spLow)(mL:mg "lowest" = some (.ref fL))(kL:PySem.W.keepIn K (.ref fL)=true)(bL:Binds K fdL ["numerator","denominator"] []) :
  FnOk P w K mg base (CXF P w) 3 f fd ["numbers"] (spPair K CW):=by
 refine okX F scPair (fun vs H Q E h=>?_) (fun cdv A outer s H vs Q E hr h=>?_)
 ·obtain⟨a,ns,rfl,_⟩:=h
  rfl
 ·obtain⟨a,ns,rfl,hS,hb,hln,k⟩:=h
  refine⟨_,Z2o (ps_if (Z2G op_ne (pe_op op_mod (Z2U Z2J (by rfl) hlen PySem.boot_len (Z2l (pv 0) Z2q)) Z2t) Z2t (Z2D _))
    (Z2s (Z4L xw rfl rfl rfl mW Z2Q)) Z2L)
   (Z2o (Z2w (i:=1) scPair.nd rfl (Or.inl rfl) (Z3B Z2q))
   (Z2o (Z3A Z4N rfl (Zbb rfl hran (Z2l Z2t (Z2l (Z2U Z2J (by rfl) hlen PySem.boot_len (Z2l (pv 0) Z2q)) (Z2l Z2t Z2q)))) (Z2H (i:=2) scPair.nd rfl (Or.inl rfl))
     (Z2o (ps_if (Z2G op_eq (pe_ix Z2Z (pv 0) (pe_op Z3p (pv 2) Z2t) (fun _ _=>rfl)) Z2t (Z2D _)) (Z2s (Z4L xw rfl rfl rfl mW Z2Q)) Z2L)
     (Z2s (Z2K (pe_bm Z1e Z1A Z1B Z4E (pv 1)
       (Z2l (Z2B GL hr rfl mL kL bL .nil pass0 (Z2l (pe_ix Z2Z (pv 0) (pv 2) (fun _ _=>rfl)) (Z2l (pe_ix Z2Z (pv 0) (pe_op Z3p (pv 2) Z2t) (fun _ _=>rfl)) Z2q))) Z2q))))))
   (Z2s (Z2y (pv 1))))),?_⟩
  refine⟨_,rfl,a,_,rfl,.inl hS,_,_,rfl,rfl,(by show(0:Int)<2;decide),rfl,_,rfl,ite2 (fun hc=>?_) (fun hc=>?_)⟩
  ·have ho:ns.length % 2≠0:=by
    intro z
    simp only [Z0b]at hc
    simp at hc
    omega
   rw [pr_odd ns ho]at k
   exact k H (Same.refl H)
  ·have he:ns.length % 2=0:=by
    rcases Nat.mod_two_eq_zero_or_one ns.length with z |z
    ·exact z
    ·exact absurd (show _=true by simp only [Z0b];simp;omega) hc
   refine⟨Z0p _,fun l hl=>?_⟩
   have nl:H l=none:=hl
   have sl:L2.Same H (upd H l (.lst [])):=RD.Same.new hl
   obtain⟨m,hm⟩:∃ m,ns.length=2*m:=⟨ns.length / 2,by omega⟩
   have gi:∀ {j:Nat}{x:V},(ns.map nV)[j]?=some x→True:=fun _=>trivial
   refine⟨_,rfl,a,_,rfl,.inl (sl.seq hS),0,(ns.length:Int),2,m,?_,?_,Zaz (lo:=0) (c:=2) (n:=m) (fun i σ H'=>∃ (v:Option V)(acc:List (Nat×Nat))(ts:List Addr),
    σ=[some (.ref a),some (.ref l),v]∧L2.Same H H'∧H' l=some (.lst (ts.map V.ref))∧Tups H' ts (acc.map prow)∧acc.length=i∧pr ns=(pr (ns.drop (2*i))).map (acc++·))
    ⟨none,[],[],rfl,sl,Z2n,Tups.nil,rfl,?_⟩ ?_ ?_⟩
   ·rw [Z0b]
   ·refine⟨by decide,by decide,?_,?_⟩
    ·rw [hm]
     exact ZaZ (by omega)
    ·rw [hm]
     exact Z8Y m
   ·rw [Nat.mul_zero,List.drop_zero]
    cases pr ns<;>rfl
   ·rintro i σ H' hi ⟨v,acc,ts,rfl,s1,h1,hT,ha,hp⟩
    have S1:=s1.seq hS
    have l1:2*i+1<ns.length:=by omega
    have l0:2*i<ns.length:=by omega
    rw [pr_step l1]at hp
    refine⟨_,rfl,_,rfl,_,_,rfl,rfl,a,_,_,nV ns[2*i+1],rfl,rfl,S1,?g1,rfl,_,rfl,ite2 (fun hc=>?_) (fun hc=>?_)⟩
    case g1 =>
     have e:((0:Int)+(i:Nat)*2+1)=((2*i+1:Nat):Int):=by push_cast;omega
     rw [e]
     exact Z3b (by rw [Z0k,Z0j l1];rfl)
    ·have z:ns[2*i+1]=0:=by
      simp [nV]at hc
      exact hc
     rw [if_pos z]at hp
     rw [hp]at k
     exact k H' s1
    ·have z:ns[2*i+1]≠0:=fun z=>hc (by simp [nV,z])
     rw [if_neg z]at hp
     have e0:((0:Int)+(i:Nat)*2)=((2*i:Nat):Int):=by push_cast;omega
     have e1:((0:Int)+(i:Nat)*2+1)=((2*i+1:Nat):Int):=by push_cast;omega
     refine⟨_,rfl,.inl ⟨rfl,_,SqL.of h1⟩,_,rfl,_,rfl,a,_,_,nV ns[2*i],rfl,rfl,S1,?g2,_,rfl,_,rfl,_,_,rfl,rfl,a,_,_,nV ns[2*i+1],rfl,rfl,S1,?g3,ns[2*i],ns[2*i+1],64,rfl,Z1d z,hb _ (Z0X l1),by decide,fun H2 t s2 nt ht=>?_⟩
     case g2=>rw [e0];exact Z3b (by rw [Z0k,Z0j l0];rfl)
     case g3=>rw [e1];exact Z3b (by rw [Z0k,Z0j l1];rfl)
     have h2:=s2 _ _ h1
     have tl:t≠l:=fun e=>by rw [e,h1]at nt;cases nt
     refine⟨l,_,_,rfl,rfl,h2,(by rw [Z0b,hT.1,Z0b,ha,sizeLine_eq];omega),?_⟩
     have s3:L2.Same H (upd H2 l (.lst (ts.map V.ref++[.ref t]))):=fun b o e=>by rw [Z2m (Z2p e nl)];exact s2 _ _ (s1 _ _ e)
     refine⟨_,acc++[Fk.low (ns[2*i],ns[2*i+1])],ts++[t],rfl,s3,?_,?_,by simp [ha],?_⟩
     ·rw [Z2n,Z0z];rfl
     ·rw [Z0z]
      refine Tups.snoc (hT.same fun b xs e=>?_) ?_
      ·have e2:=s2 _ _ e
       rw [Z2m (ne_of e2 h2 (by intro y;cases y))]
       exact e2
      ·rw [Z2m tl];exact ht
     ·rw [hp]
      cases pr (ns.drop (2*(i+1)))with
      |none=>rfl
      |some y=>simp
   ·rintro σ H' ⟨v,acc,ts,rfl,s1,h1,hT,ha,hp⟩
    rw [List.drop_eq_nil_of_le (by omega)]at hp
    have e:pr ([]:List Nat)=some []:=rfl
    rw [e]at hp
    simp only [Z1c,Z0F]at hp
    rw [hp]at k
    exact⟨_,rfl,k H' l ts s1 nl h1 hT⟩
end
theorem pr_eq:∀ (ns:List Nat),pr ns=(match FkS.fracsOf ns with |none=>none |some l=>if l.any (fun x=>x.2==0)=true then none else some (l.map Fk.low))
 |[]=>rfl
 |[_]=>rfl
 |x::y::r=>by
  have ih:=pr_eq r
  have e:FkS.fracsOf (x::y::r)=match FkS.fracsOf r with |some z=>some ((x,y)::z) |none=>none:=rfl
  rw [e]
  unfold pr
  rw [ih]
  cases FkS.fracsOf r with
  |none =>
   show(if y=0 then none else Option.map _ none)=none
   split<;>rfl
  |some l =>
   show(if y=0 then none else Option.map _ (if l.any (fun x=>x.2==0)=true then none else some (l.map Fk.low)))=if ((x,y)::l).any (fun x=>x.2==0)=true then none else some (((x,y)::l).map Fk.low)
   rw [Z1a]
   by_cases hy:y=0
   ·simp [hy]
   ·rw [if_neg hy]
    have:(y==0)=false:=by simp [hy]
    show _=if ((y==0) ||_)=true then _ else _
    rw [this,Bool.false_or]
    split<;>rfl
theorem pr_lt:∀ (ns:List Nat)(am:List (Nat×Nat)),pr ns=some am→(∀ n∈ns,n<2 ^ 64)→(∀ x∈am,x.1<2 ^ 64∧0<x.2∧x.2<2 ^ 64)∧2*am.length=ns.length
 |[],am,h,_=>by cases h;exact⟨fun x hx=>by simp at hx,rfl⟩
 |[_],am,h,_=>by cases h
 |x::y::r,am,h,hb=>by
  unfold pr at h
  split at h
  ·cases h
  ·rename_i hy
   cases e:pr r with
   |none=>rw [e]at h;cases h
   |some am' =>
    rw [e]at h
    cases h
    obtain⟨h1,h2⟩:=pr_lt r am' e fun n hn=>hb n (by simp [hn])
    refine⟨fun z hz=>?_,by simp only [Z0q];omega⟩
    rcases Z0e.mp hz with rfl |hz
    ·have hx:=hb x (by simp)
     have hy':=hb y (by simp)
     have yp:0<y:=Z1d hy
     exact⟨Z1n (Z1V _ _) hx,(Z5C (x:=(x,y)) yp).1,Z1n (Z1V _ _) hy'⟩
    ·exact h1 z hz
section
variable{P:Program}{w:World}{K:Z0a}{mg:Str→Option Value}{base:Heap}{CF CW CN CT fF CA CB CM CQ:Addr}
def Z9Y(K:Z0a):Sp:=fun vs H Q _=>∃ (t u:Addr)(x y:Nat×Nat),vs=[.ref t,.ref u]∧SqT K H t (fV x)∧SqT K H u (fV y)∧x.1<2 ^ 64∧y.1<2 ^ 64∧Q (.bl (Fk.before_ x y)) H
theorem scBelow:Z2v ["fraction","other"] ["fraction","other"] (Z2r Z5u):=⟨rfl,rfl,rfl,by decide +kernel,rfl,by decide +kernel,by decide +kernel⟩
theorem okBelow{f:Addr}{fd:FuncData}(F:Fun K "is_below" "is_below" Z5u f fd):FnOk P w K mg base CX0 1 f fd ["fraction","other"] (Z9Y K):=by
 refine F.ok scBelow (fun vs H Q E h=>?_) (fun cdv A outer s H vs Q E hr h=>?_)
 ·obtain⟨t,u,x,y,rfl,_⟩:=h
  rfl
 ·obtain⟨t,u,x,y,rfl,ht,hu,h1,h2,q⟩:=h
  refine⟨_,Z2s (Z2y (Z4e op_lt (pe_op Z3I (pe_ix Z2W (pv 0) Z2t (fun _ _=>rfl)) (pe_ix Z2W (pv 1) Z2t (fun _ _=>rfl))) (pe_op Z3I (pe_ix Z2W (pv 1) Z2t (fun _ _=>rfl)) (pe_ix Z2W (pv 0) Z2t (fun _ _=>rfl))) (Z2D _))),?_⟩
  refine⟨_,rfl,t,_,_,_,rfl,rfl,ht,rfl,_,rfl,u,_,_,_,rfl,rfl,hu,rfl,(x.1:Int),(y.2:Int),rfl,rfl,.inl ⟨by omega,by omega⟩,_,rfl,u,_,_,_,rfl,rfl,hu,rfl,_,rfl,t,_,_,_,rfl,rfl,ht,rfl,(y.1:Int),(x.2:Int),rfl,rfl,.inl ⟨by omega,by omega⟩,_,_,rfl,rfl,?_⟩
  have e:decide ((x.1:Int)*(y.2:Int)<(y.1:Int)*(x.2:Int))=Fk.before_ x y:=by
   unfold Fk.before_
   rw [←Z1g,←Z1g]
   exact decide_eq_decide.mpr Int.ofNat_lt
  show Q (.bl (decide _)) _
  rw [e]
  exact q
def Z5F(x y:Nat×Nat):Nat×Nat:=Fk.low (x.1*y.2-y.1*x.2,x.2*y.2)
def Zad(K:Z0a):Sp:=fun vs H Q _=>∃ (t u:Addr)(x y:Nat×Nat),vs=[.ref t,.ref u]∧SqT K H t (fV x)∧SqT K H u (fV y)∧x.1<2 ^ 64∧x.2<2 ^ 64∧0<x.2∧0<y.2∧y.2<2 ^ 128∧y.1*x.2≤x.1*y.2 ∧
 ∀ H' v,L2.Same H H'→H v=none→H' v=some (.tup (fV (Z5F x y)))→Q (.ref v) H'
theorem scMinus:Z2v ["fraction","other"] ["fraction","other"] (Z2r Z7b):=⟨rfl,rfl,rfl,by decide +kernel,rfl,by decide +kernel,by decide +kernel⟩
theorem okMinus{f fL:Addr}{fd fdL:FuncData}(F:Fun K "minus" "minus" Z7b f fd)(GL:FnOk P w K mg base CX0 2 fL fdL ["numerator","denominator"] spLow)(mL:mg "lowest" = some (.ref fL))(kL:PySem.W.keepIn K (.ref fL)=true)(bL:Binds K fdL ["numerator","denominator"] []) :
  FnOk P w K mg base CX0 3 f fd ["fraction","other"] (Zad K):=by
 refine F.ok scMinus (fun vs H Q E h=>?_) (fun cdv A outer s H vs Q E hr h=>?_)
 ·obtain⟨t,u,x,y,rfl,_⟩:=h
  rfl
 ·obtain⟨t,u,x,y,rfl,ht,hu,h1,h2,h3,h4,h5,h6,q⟩:=h
  refine⟨_,Z2s (Z2y (Z2B GL hr rfl mL kL bL .nil pass0 (Z2l (pe_op Z4j (pe_op Z3I (pe_ix Z2W (pv 0) Z2t (fun _ _=>rfl)) (pe_ix Z2W (pv 1) Z2t (fun _ _=>rfl))) (pe_op Z3I (pe_ix Z2W (pv 1) Z2t (fun _ _=>rfl)) (pe_ix Z2W (pv 0) Z2t (fun _ _=>rfl))))
   (Z2l (pe_op Z3I (pe_ix Z2W (pv 0) Z2t (fun _ _=>rfl)) (pe_ix Z2W (pv 1) Z2t (fun _ _=>rfl))) Z2q)))),?_⟩
  have hd:x.2*y.2<2 ^ 192:=by
   have a1:x.2*y.2≤2 ^ 64*y.2:=Z2j _ (by omega)
   have a2:2 ^ 64*y.2<2 ^ 64*2 ^ 128:=Nat.mul_lt_mul_of_pos_left h5 (by decide)
   have a3:(2:Nat) ^ 64*2 ^ 128=2 ^ 192:=by decide
   omega
  refine⟨_,rfl,t,_,_,_,rfl,rfl,ht,rfl,_,rfl,u,_,_,_,rfl,rfl,hu,rfl,(x.1:Int),(y.2:Int),rfl,rfl,.inl ⟨by omega,by omega⟩,_,rfl,u,_,_,_,rfl,rfl,hu,rfl,_,rfl,t,_,_,_,rfl,rfl,ht,rfl,(y.1:Int),(x.2:Int),rfl,rfl,.inr ⟨by omega,by omega⟩,_,_,rfl,rfl,
   _,rfl,t,_,_,_,rfl,rfl,ht,rfl,_,rfl,u,_,_,_,rfl,rfl,hu,rfl,(x.2:Int),(y.2:Int),rfl,rfl,.inl ⟨by omega,by omega⟩,x.1*y.2-y.1*x.2,x.2*y.2,192,?_,Z1s h3 h4,hd,by decide,fun H' v s nv hv=>q H' v s nv hv⟩
  rw [Int.natCast_sub h6,Z1g,Z1g,Z1g];rfl
abbrev gt(l:List (Nat×Nat))(j:Nat):Nat×Nat:=l.getD j (0,1)
def FstOk(l:List (Nat×Nat))(i m:Nat):Prop:=(i=0∧m=0)∨(m<i∧(∀ j,j<i→Fk.before_ (gt l j) (gt l m)=false)∧∀ j,j<m→Fk.before_ (gt l m) (gt l j)=true)
theorem fst_eq{l:List (Nat×Nat)}{m:Nat}(h:FstOk l l.length m):Fk.firstLeast l=m:=by
 rcases h with⟨h1,rfl⟩ |⟨h0,h1,h2⟩
 ·cases l with
  |nil=>rfl
  |cons x l=>cases h1
 ·unfold Fk.firstLeast
  have e:l.findIdx? (fun x=>l.all fun y=>!Fk.before_ y x)=some m:=by
   have ge:∀ j (hj:j<l.length),gt l j=l[j]:=fun j hj=>by
    unfold gt
    rw [Z0C,Z0j hj];rfl
   rw [List.findIdx?_eq_some_iff_getElem]
   refine⟨h0,?_,fun j hj hp=>?_⟩
   ·rw [Z0J]
    intro y hy
    obtain⟨j,hj,rfl⟩:=List.getElem_of_mem hy
    have:=h1 j hj
    rw [ge j hj,ge m h0]at this
    rw [this];rfl
   ·have hj':j<l.length:=by omega
    rw [Z0J]at hp
    have a:=hp l[m] (Z0X h0)
    have b:=h2 j hj
    rw [ge j hj',ge m h0]at b
    rw [b]at a
    cases a
  rw [e];rfl
theorem Zbc{a m b:Nat×Nat}(h1:Fk.before_ a m=true)(h2:Fk.before_ b m=false)(hb:0<b.2):Fk.before_ a b=true:=by
 unfold Fk.before_ at *
 have h1:=of_decide_eq_true h1
 have h2:=Nat.le_of_not_lt (of_decide_eq_false h2)
 refine decide_eq_true (Nat.lt_of_mul_lt_mul_right (a:=m.2) ?_)
 have k1:a.1*m.2*b.2<m.1*a.2*b.2:=Z1W h1 hb
 have k2:m.1*b.2*a.2≤b.1*m.2*a.2:=Z2j _ h2
 rw [Z1G a.1 b.2 m.2,Z1G b.1 a.2 m.2]
 rw [Z1G m.1 b.2 a.2]at k2
 exact Z0w k1 k2
theorem Z6a(a:Nat×Nat):Fk.before_ a a=false:=by
 unfold Fk.before_
 exact decide_eq_false (Z0v _)
theorem bef_asym{a m:Nat×Nat}(h:Fk.before_ a m=true):Fk.before_ m a=false:=by
 unfold Fk.before_ at *
 have:=of_decide_eq_true h
 exact decide_eq_false (by omega)
theorem Z8E{l:List (Nat×Nat)}{i m:Nat}(h:FstOk l i m)(hi:i<l.length)(hp:∀ x∈l,0<x.2) :
  FstOk l (i+1) (if Fk.before_ (gt l i) (gt l m)=true then i else m):=by
 have pos:∀ j,j<l.length→0<(gt l j).2:=fun j hj=>by
  have e:gt l j=l[j]:=by
   unfold gt
   rw [Z0C,Z0j hj];rfl
  rw [e];exact hp _ (Z0X hj)
 rcases h with⟨rfl,rfl⟩ |⟨h0,h1,h2⟩
 ·rw [Z6a,if_neg Z0t]
  refine .inr ⟨by omega,fun j hj=>?_,fun j hj=>by omega⟩
  have:j=0:=by omega
  rw [this];exact Z6a _
 ·by_cases hb:Fk.before_ (gt l i) (gt l m)=true
  ·rw [if_pos hb]
   have all:∀ j,j<i→Fk.before_ (gt l i) (gt l j)=true:=fun j hj=>Zbc hb (h1 j hj) (pos j (by omega))
   refine .inr ⟨by omega,fun j hj=>?_,all⟩
   by_cases z:j=i
   ·rw [z];exact Z6a _
   ·exact bef_asym (all j (by omega))
  ·rw [if_neg hb]
   refine .inr ⟨by omega,fun j hj=>?_,h2⟩
   by_cases z:j=i
   ·rw [z];exact Bool.eq_false_iff.mpr hb
   ·exact h1 j (by omega)
theorem gt_of{l:List (Nat×Nat)}{j:Nat}{x:Nat×Nat}(h:l[j]?=some x):gt l j=x:=by
 unfold gt
 rw [Z0C,h];rfl
def spFst(K:Z0a):Sp:=fun vs H Q _=>∃ (a:Addr)(ts:List Addr)(l:List (Nat×Nat)),vs=[.ref a]∧H a=some (.lst (ts.map V.ref))∧Tups H ts (l.map fr)∧(∀ x∈l,x.1<2 ^ 64∧0<x.2)∧∀ H',L2.Same H H'→Q (.int ((Fk.firstLeast l:Nat):Int)) H'
theorem scFst:Z2v ["fractions","least","k","fraction"] ["fractions"] (Z2r Z4y):=⟨rfl,rfl,rfl,by decide +kernel,rfl,by decide +kernel,by decide +kernel⟩
theorem okFst{f fB:Addr}{fd fdB:FuncData}(F:Fun K "first_least" "first_least" Z4y f fd)(henum:mg "enumerate" = none)
  (GB:FnOk P w K mg base CX0 1 fB fdB ["fraction","other"] (Z9Y K))(mB:mg "is_below" = some (.ref fB))(kB:PySem.W.keepIn K (.ref fB)=true)(bB:Binds K fdB ["fraction","other"] []) :
  FnOk P w K mg base CX0 2 f fd ["fractions"] (spFst K):=by
 refine F.ok scFst (fun vs H Q E h=>?_) (fun cdv A outer s H vs Q E hr h=>?_)
 ·obtain⟨a,ts,l,rfl,_⟩:=h
  rfl
 ·obtain⟨a,ts,l,rfl,ha,hT,hb,q⟩:=h
  refine⟨_,Z2o (Z2w (i:=1) scFst.nd rfl (Or.inl rfl) Z2t)
   (Z2o (Z3A PassesOwn.never rfl (Z6M rfl henum (Z2l (pv 0) Z2q)) (Z6C rfl (Z3i (Z2H (i:=2) scFst.nd rfl (Or.inl rfl)) (Z3i (Z2H (i:=3) scFst.nd rfl (Or.inl rfl)) Z4V)))
     (Z2s (ps_if (Z4Y (Z2B GB hr rfl mB kB bB .nil pass0 (Z2l (pv 3) (Z2l (pe_ix Z2Z (pv 0) (pv 1) (fun _ _=>rfl)) Z2q)))) (Z2s (Z2w (i:=1) scFst.nd rfl (Or.inl rfl) (pv 2))) Z2L)))
   (Z2s (Z2y (pv 1)))),?_⟩
  refine⟨_,rfl,a,_,rfl,SqL.of ha,Z5T (K:=K) (a:=a) (xs:=ts.map V.ref) (fun i σ H'=>∃ (v2 v3:Option V)(m:Nat),σ=[some (.ref a),some (.int (m:Int)),v2,v3]∧L2.Same H H'∧FstOk l i m)
   ⟨none,none,0,rfl,L2.Same.refl _,.inl ⟨rfl,rfl⟩⟩ (fun i σ H' _ ⟨_,_,_,_,s',_⟩=>SqL.of (s' _ _ ha)) ?_ ?_⟩
  ·rintro i y σ H1 U hi ⟨v2,v3,m,rfl,s1,hm⟩ hU
   obtain⟨t,x,rfl,e1,e2,e3⟩:=fr_at hT hi
   have s2:L2.Same H (upd H1 U (.tup [.int (i:Int),.ref t])):=s1.trans (RD.Same.new hU)
   have hil:=(Z0r.mp e2).1
   have hml:m<l.length:=by rcases hm with⟨_,h⟩ |⟨h,_⟩<;>omega
   have emx:l[m]?=some l[m]:=Z0j hml
   have etm:ts[m]?=some (ts[m]'(by have:=hT.1;rw [Z0b]at this;omega)):=Z0j _
   generalize l[m]=z at emx
   generalize ts[m]'(by have:=hT.1;rw [Z0b]at this;omega)=tm at etm
   have hz:H tm=some (.tup (fV z)):=hT.2 m tm (fr z) etm (by rw [Z0k,emx];rfl)
   have st:=Z8E hm hil fun x hx=>(hb x hx).2
   rw [gt_of e2,gt_of emx]at st
   refine⟨U,_,rfl,SqT.of Z2n,rfl,_,_,rfl,_,_,rfl,rfl,?_⟩
   refine⟨_,rfl,_,rfl,_,rfl,a,_,_,_,rfl,rfl,SqL.of (s2 _ _ ha),Z3b (by rw [Z0k,etm];rfl),t,tm,x,z,rfl,SqT.of (s2 _ _ e3),SqT.of (s2 _ _ hz),(hb x (Z0u e2)).1,(hb z (Z0u emx)).1,_,rfl,ite2 (fun hc=>?_) (fun hc=>?_)⟩
   ·rw [if_pos hc]at st
    exact⟨_,rfl,_,_,i,rfl,s2,st⟩
   ·rw [if_neg hc]at st
    exact⟨_,_,m,rfl,s2,st⟩
  ·rintro σ H' ⟨v2,v3,m,rfl,s1,hm⟩
   rw [Z0b,hT.1,Z0b]at hm
   refine⟨_,rfl,?_⟩
   have:=fst_eq hm
   rw [←this]
   exact q H' s1
end
end BK
end
section
namespace SP
open RD BK
def toB(z:Int):UInt8:=UInt8.ofNat z.toNat
def Byt(bs:List Int):Prop:=∀ x∈bs,0≤x∧x≤255
def bts(bs:List Int):List UInt8:=bs.map toB
theorem Z7O{z:Int}(h:0≤z∧z≤255):((toB z).toNat:Int)=z:=by
 unfold toB
 rw [UInt8.toNat_ofNat']
 omega
theorem toB_inj{x y:Int}(hx:0≤x∧x≤255)(hy:0≤y∧y≤255)(h:toB x=toB y):x=y:=by
 rw [←Z7O hx,←Z7O hy,h]
theorem Byt.drop{bs:List Int}(h:Byt bs)(n:Nat):Byt (bs.drop n):=fun x hx=>h x (Z2i hx)
theorem Byt.take{bs:List Int}(h:Byt bs)(n:Nat):Byt (bs.take n):=fun x hx=>h x (List.mem_of_mem_take hx)
theorem Z3N(bs:List Int):(bts bs).length=bs.length:=Z0b ..
theorem Z6Z(bs:List Int)(n:Nat):(bts bs).drop n=bts (bs.drop n):=(List.map_drop ..).symm
theorem Z8A(bs:List Int)(n:Nat):(bts bs).take n=bts (bs.take n):=(List.map_take ..).symm
theorem num_eq:∀ {l:List Int},Byt l→((Fk.num (bts l):Nat):Int)=numL l
 |[],_=>rfl
 |a::l,h=>by
  have ih:=num_eq (l:=l) fun x hx=>h x (Z0g _ hx)
  have ha:=Z7O (h a (Z0h ..))
  show(((toB a).toNat+256*Fk.num (bts l):Nat):Int)=a+256*numL l
  rw [←ih]
  omega
def tf(e:Int×Int):Fk.Fault:=⟨e.1.toNat,e.2.toNat⟩
theorem Z2T{bs:List Int}{p k:Nat}{lo hi:Int}{good:Nat→Bool}(hb:Byt bs)(hp:p≤bs.length)(hg:∀ v:Nat,good v=true↔lo≤(v:Int)∧(v:Int)≤hi) :
  Fk.numIn k good ((bts bs).drop p) p=match numM bs p k lo hi with
   |.error e=>.error (tf e)
   |.ok v=>.ok (v.toNat,(bts bs).drop (p+k),p+k):=by
 unfold Fk.numIn numM
 rw [Z0T,Z3N]
 by_cases h1:bs.length<p+k
 ·rw [if_pos h1,if_pos (by omega)]
  show _=Except.error (tf _)
  unfold tf
  simp only [Except.error.injEq,Fk.Fault.mk.injEq]
  omega
 ·rw [if_neg h1,if_neg (by omega)]
  have e:((Fk.num (((bts bs).drop p).take k):Nat):Int)=numL ((bs.drop p).take k):=by
   rw [Z6Z,Z8A]
   exact num_eq ((hb.drop p).take k)
  by_cases h2:numL ((bs.drop p).take k)<lo∨hi<numL ((bs.drop p).take k)
  ·rw [if_pos h2,if_neg (by rw [hg,e];omega)]
   show _=Except.error (tf _)
   unfold tf
   simp only [Except.error.injEq,Fk.Fault.mk.injEq]
   omega
  ·rw [if_neg h2,if_pos (by rw [hg,e];omega)]
   have e3:Fk.num (((bts bs).drop p).take k)=(numL ((bs.drop p).take k)).toNat:=by omega
   rw [e3,List.drop_drop]
theorem Z8r{bs ms:List Int}(hb:Byt bs)(hm:Byt ms):∀ (i:Nat),i≤ms.length→i≤bs.length→(∀ j<i,bs[j]?=ms[j]?) →
  (match (List.range' i (ms.length-i)).find? fun j=>(bts bs)[j]? != (bts ms)[j]? with
    |some j=>(.error ⟨if j<(bts bs).length then 1 else 5,min j (bts bs).length⟩:Except Fk.Fault (Fk.Bytes×Nat))
    |none=>.ok ((bts bs).drop ms.length,ms.length))=match markM bs i (ms.drop i)with
    |.error e=>.error (tf e)
    |.ok q=>.ok ((bts bs).drop q,q):=by
 intro i hi hib hj
 by_cases hlt:i<ms.length
 ·have e1:ms.length-i=(ms.length-(i+1))+1:=by omega
  rw [e1,List.range'_succ,Z1b,Z1y hlt]
  unfold markM
  have em:(bts ms)[i]?=some (toB ms[i]):=by unfold bts;rw [Z0k,Z0j hlt];rfl
  by_cases hend:i=bs.length
  ·rw [if_pos hend]
   have eb:(bts bs)[i]?=none:=by rw [Z1r,Z3N];omega
   rw [eb,em]
   simp only [bne_iff_ne,ne_eq,reduceCtorEq,not_false_eq_true]
   rw [show(none != some (toB ms[i]))=true from rfl]
   simp only [Z3N]
   rw [if_neg (by omega)]
   unfold tf
   simp only [Except.error.injEq,Fk.Fault.mk.injEq]
   omega
  ·rw [if_neg hend]
   have hl2:i<bs.length:=by omega
   have eb:(bts bs)[i]?=some (toB bs[i]):=by unfold bts;rw [Z0k,Z0j hl2];rfl
   have q1:=hb _ (Z0X hl2)
   have q2:=hm _ (Z0X hlt)
   rw [eb,em,Z0j hl2]
   by_cases hne:bs[i]=ms[i]
   ·rw [hne,if_neg (by simp)]
    rw [show(some (toB ms[i]) != some (toB ms[i]))=false by simp]
    refine Z8r hb hm (i+1) (by omega) (by omega) fun j hj'=>?_
    by_cases hji:j=i
    ·subst hji;rw [Z0j hl2,Z0j hlt,hne]
    ·exact hj j (by omega)
   ·rw [if_pos (by simpa using hne)]
    have hne2:(some (toB bs[i]) != some (toB ms[i]))=true:=by
     rw [bne_iff_ne]
     intro h
     exact hne (toB_inj q1 q2 (Option.some.inj h))
    rw [hne2]
    simp only [Z3N]
    rw [if_pos hl2]
    unfold tf
    simp only [Except.error.injEq,Fk.Fault.mk.injEq]
    omega
 ·have e1:ms.length-i=0:=by omega
  have e2:i=ms.length:=by omega
  subst e2
  rw [e1,List.drop_length]
  rfl
 termination_by i=>ms.length-i
theorem Z9W{bs ms:List Int}(hb:Byt bs)(hm:Byt ms):Fk.mark (bts ms) (bts bs)=match markM bs 0 ms with
   |.error e=>.error (tf e)
   |.ok q=>.ok ((bts bs).drop q,q):=by
 have h:=Z8r hb hm 0 (Z0p _) (Z0p _) (fun j hj=>absurd hj (Nat.not_lt_zero _))
 rw [List.drop_zero,Z1q]at h
 rw [←h]
 unfold Fk.mark
 rw [Z3N,List.range_eq_range']
 rfl
end SP
end
section
namespace SP
open RD BK EX
theorem Z8H{bs:List Int}(hb:Byt bs):∀ (k p:Nat),p≤bs.length →
  Fk.atomsIn k ((bts bs).drop p) p=match Z3f bs k p with
   |.error e=>.error (tf e)
   |.ok l=>.ok (l,(bts bs).drop (p+6*k),p+6*k)
 |0,p,hp=>rfl
 |k+1,p,hp=>by
  rw [Z5t]
  unfold atomM Fk.atomsIn
  rw [Z2T (lo:=1) (hi:=118) hb hp (fun v=>by rw [Z0B,decide_eq_true_iff,decide_eq_true_iff,show Fk.ELEMENTS=118 from rfl];omega)]
  cases e1:numM bs p 1 1 118 with
  |error e=>rfl
  |ok x =>
   obtain⟨q1,q2,q3,_⟩:=Z2x e1
   simp only [Fk.andThen]
   rw [Z2T (lo:=0) (hi:=500) hb q1 (fun v=>by rw [decide_eq_true_iff,show Fk.ISOTOPE=500 from rfl];omega)]
   cases e2:numM bs (p+1) 2 0 500 with
   |error e=>rfl
   |ok y =>
    obtain⟨r1,r2,r3,_⟩:=Z2x e2
    simp only []
    rw [Z2T (lo:=0) (hi:=8) hb r1 (fun v=>by rw [decide_eq_true_iff];omega),show p+1+2=p+3 from rfl]
    cases e3:numM bs (p+3) 1 0 8 with
    |error e=>rfl
    |ok c =>
     obtain⟨s1,s2,s3,_⟩:=Z2x e3
     simp only []
     rw [Z2T (lo:=0) (hi:=7) hb s1 (fun v=>by rw [decide_eq_true_iff];omega),show p+3+1=p+4 from rfl]
     cases e4:numM bs (p+4) 1 0 7 with
     |error e=>rfl
     |ok h =>
      obtain⟨t1,t2,t3,_⟩:=Z2x e4
      simp only []
      rw [Z2T (lo:=0) (hi:=2) hb t1 (fun v=>by rw [decide_eq_true_iff];omega),show p+4+1=p+5 from rfl]
      cases e5:numM bs (p+5) 1 0 2 with
      |error e=>rfl
      |ok s =>
       obtain⟨u1,u2,u3,_⟩:=Z2x e5
       simp only []
       rw [show p+5+1=p+6 from rfl,Z8H hb k (p+6) (by omega)]
       cases Z3f bs k (p+6)with
       |error e=>rfl
       |ok l =>
        simp only []
        rw [show p+6+6*k=p+6*(k+1) by omega,Z0K (by omega:0≤c)]
def Had(had:Option (Nat×Nat))(b:Int×Int):Prop:=(had=none∧b=(0,0))∨(had=some (b.1.toNat,b.2.toNat)∧0≤b.1∧0≤b.2)
theorem had_eq{had:Option (Nat×Nat)}{b:Int×Int}{x y:Int}:Had had b→0≤x→x+1≤y →
  (match had with |some (u,w)=>decide (u<x.toNat) ||(u==x.toNat&&decide (w<y.toNat)) |none=>true) = !lexLe [x,y] [b.1,b.2]:=by
 intro h hx hy
 rcases h with⟨rfl,rfl⟩ |⟨rfl,h1,h2⟩
 ·have:¬ lexLe [x,y] [0,0]=true:=by rw [BK.Zbu];omega
  simp only [Bool.not_eq_true]at this
  rw [this];rfl
 ·have e:(decide (b.1.toNat<x.toNat) ||(b.1.toNat==x.toNat&&decide (b.2.toNat<y.toNat)))=true↔b.1<x∨(b.1=x∧b.2<y):=by
   rw [Bool.or_eq_true,Z0B,decide_eq_true_iff,decide_eq_true_iff,beq_iff_eq];omega
  show(decide (b.1.toNat<x.toNat) ||(b.1.toNat==x.toNat&&decide (b.2.toNat<y.toNat)))=_
  cases h3:lexLe [x,y] [b.1,b.2]with
  |true =>
   rw [BK.Zbu]at h3
   have:¬ (decide (b.1.toNat<x.toNat) ||(b.1.toNat==x.toNat&&decide (b.2.toNat<y.toNat)))=true:=by rw [e];omega
   simpa using this
  |false =>
   have h4:¬ lexLe [x,y] [b.1,b.2]=true:=by rw [h3];decide
   rw [BK.Zbu]at h4
   show _=true
   rw [e];omega
theorem Z9y{bs:List Int}(hb:Byt bs)(n:Nat):∀ (k p:Nat)(had:Option (Nat×Nat))(b:Int×Int),p≤bs.length→Had had b →
  Fk.bondsIn n k had ((bts bs).drop p) p=match Z3e bs (n:Int) k p b with
   |.error e=>.error (tf e)
   |.ok l=>.ok (l,(bts bs).drop (p+4*k),p+4*k)
 |0,p,had,b,hp,hh=>rfl
 |k+1,p,had,b,hp,hh=>by
  rw [Z5v]
  unfold bondM Fk.bondsIn
  rw [Z2T (lo:=0) (hi:=(n:Int)-1) hb hp (fun v=>by rw [decide_eq_true_iff];omega)]
  cases e1:numM bs p 1 0 ((n:Int)-1)with
  |error e=>rfl
  |ok x =>
   obtain⟨q1,q2,q3,_⟩:=Z2x e1
   simp only [Fk.andThen]
   rw [Z2T (lo:=x+1) (hi:=(n:Int)-1) hb q1 (fun v=>by rw [Z0B,decide_eq_true_iff,decide_eq_true_iff];omega)]
   cases e2:numM bs (p+1) 1 (x+1) ((n:Int)-1)with
   |error e=>rfl
   |ok y =>
    obtain⟨r1,r2,r3,_⟩:=Z2x e2
    simp only []
    generalize hc:Fk.need _ 3 p=g
    have hg:g=Fk.need (!lexLe [x,y] [b.1,b.2]) 3 p:=by rw [←hc];exact congrArg (fun c=>Fk.need c 3 p) (had_eq hh q2 r2)
    rw [hg]
    unfold Fk.need
    cases e3:lexLe [x,y] [b.1,b.2]with
    |true =>
     rw [if_neg (by decide)]
     unfold tf
     simp
    |false =>
     rw [if_pos (by decide)]
     simp only []
     rw [Z2T (lo:=1) (hi:=3) hb r1 (fun v=>by rw [Z0B,decide_eq_true_iff,decide_eq_true_iff];omega),show p+1+1=p+2 from rfl]
     cases e4:numM bs (p+2) 1 1 3 with
     |error e=>rfl
     |ok o =>
      obtain⟨s1,s2,s3,_⟩:=Z2x e4
      simp only []
      rw [Z2T (lo:=0) (hi:=2) hb s1 (fun v=>by rw [decide_eq_true_iff];omega),show p+2+1=p+3 from rfl]
      cases e5:numM bs (p+3) 1 0 2 with
      |error e=>rfl
      |ok z =>
       obtain⟨t1,t2,t3,_⟩:=Z2x e5
       simp only []
       rw [show p+3+1=p+4 from rfl]
       rw [Z9y hb n k (p+4) (some (x.toNat,y.toNat)) ((x.toNat:Int),(y.toNat:Int)) (by omega) (.inr ⟨by simp;omega,by show 0≤((x.toNat:Nat):Int);omega,by show 0≤((y.toNat:Nat):Int);omega⟩)]
       simp only [if_neg (show ¬ (false=true) by decide)]
       cases Z3e bs (n:Int) k (p+4) ((x.toNat:Int),(y.toNat:Int))with
       |error e=>rfl
       |ok l =>
        simp only []
        rw [show p+4+4*k=p+4*(k+1) by omega]
theorem Z9J{bs:List Int}(hb:Byt bs):Fk.judgeMol (bts bs)=match molM bs with
   |.error e=>.error (tf e)
   |.ok M=>.ok M:=by
 unfold Fk.judgeMol molM Z4o
 rw [show Fk.MOLMARK=bts [70,75,77,49]from rfl,Z9W hb (by intro x hx;simp at hx;omega)]
 cases e1:markM bs 0 [70,75,77,49]with
 |error e=>rfl
 |ok p =>
  have hp:=Z5n (Z0p _) e1
  simp only [Fk.andThen]
  rw [Z2T (lo:=0) (hi:=128) hb hp (fun v=>by rw [decide_eq_true_iff,show Fk.ATOMS=128 from rfl];omega)]
  cases e2:numM bs p 1 0 128 with
  |error e=>rfl
  |ok n =>
   obtain⟨q1,q2,q3,_⟩:=Z2x e2
   simp only []
   rw [Z2T (lo:=0) (hi:=192) hb q1 (fun v=>by rw [decide_eq_true_iff,show Fk.BONDS=192 from rfl];omega)]
   cases e3:numM bs (p+1) 1 0 192 with
   |error e=>rfl
   |ok m =>
    obtain⟨r1,r2,r3,_⟩:=Z2x e3
    simp only []
    rw [show p+1+1=p+2 from rfl,Z8H hb n.toNat (p+2) (by omega)]
    cases e4:Z3f bs n.toNat (p+2)with
    |error e=>rfl
    |ok as =>
     simp only []
     have a4:=Z6n e4 (by omega)
     rw [Z9y hb n.toNat m.toNat (p+2+6*n.toNat) none (0,0) (by omega) (.inl ⟨rfl,rfl⟩),Z0K q2]
     cases e5:Z3e bs n m.toNat (p+2+6*n.toNat) (0,0)with
     |error e=>rfl
     |ok ds =>
      simp only [Fk.need]
      have hl:((bts bs).drop (p+2+6*n.toNat+4*m.toNat)).isEmpty=true↔¬ p+2+6*n.toNat+4*m.toNat<bs.length:=by
       rw [List.isEmpty_iff,List.drop_eq_nil_iff,Z3N];omega
      by_cases hlt:p+2+6*n.toNat+4*m.toNat<bs.length
      ·rw [if_pos hlt,if_neg (by rw [hl];omega)]
       unfold tf
       simp only [Except.error.injEq,Fk.Fault.mk.injEq]
       omega
      ·rw [if_neg hlt,if_pos (hl.mpr hlt)]
       simp only []
       cases e6:(List.range (Fk.Mol.n ⟨as,ds⟩)).find? (fun v=>(Fk.Mol.atom ⟨as,ds⟩ v).hand != 0&&!Fk.Mol.handed ⟨as,ds⟩ v)with
       |some v =>
        simp only []
        unfold tf
        simp only [Except.error.injEq,Fk.Fault.mk.injEq]
        omega
       |none =>
        simp only []
        cases e7:(List.range ds.length).find? (fun j=>(ds[j]?.map Fk.Bond.side).getD 0 != 0&&!Fk.Mol.sided ⟨as,ds⟩ j)with
        |some v =>
         simp only []
         unfold tf
         simp only [Except.error.injEq,Fk.Fault.mk.injEq]
         omega
        |none=>rfl
theorem Zar{bs:List Int}(hb:Byt bs):SumNeutral.bytes bs=some (bts bs):=by
 unfold SumNeutral.bytes NeutralIO.bytes
 rw [if_pos]
 ·rfl
 ·rw [Z0J]
  intro x hx
  have:=hb x hx
  simp only [Z0B,decide_eq_true_iff]
  omega
theorem Z6W{bs:List Int}:∀ {ms:List Int}{p:Nat}{e:Int×Int},markM bs p ms=.error e→0≤e.1∧0≤e.2
 |[],p,e,h=>by unfold markM at h;cases h
 |m::ms,p,e,h=>by
  unfold markM at h
  split at h
  ·cases h;simp
  ·split at h
   ·cases h;simp
   ·exact Z6W h
theorem Z3h{bs:List Int}{p k:Nat}{lo hi:Int}{e:Int×Int}(h:numM bs p k lo hi=.error e):0≤e.1∧0≤e.2:=by
 unfold numM at h
 split at h
 ·cases h;simp
 ·split at h
  ·cases h;simp
  ·cases h
theorem atomM_nn{bs:List Int}{p:Nat}{e:Int×Int}(h:atomM bs p=.error e):0≤e.1∧0≤e.2:=by
 unfold atomM at h
 split at h
 ·cases h;rename_i h;exact Z3h h
 ·split at h
  ·cases h;rename_i h;exact Z3h h
  ·split at h
   ·cases h;rename_i h;exact Z3h h
   ·split at h
    ·cases h;rename_i h;exact Z3h h
    ·split at h
     ·cases h;rename_i h;exact Z3h h
     ·cases h
theorem Z8m{bs:List Int}:∀ {k p:Nat}{e:Int×Int},Z3f bs k p=.error e→0≤e.1∧0≤e.2
 |0,p,e,h=>by cases h
 |k+1,p,e,h=>by
  rw [Z5t]at h
  split at h
  ·cases h;rename_i h;exact atomM_nn h
  ·split at h
   ·cases h;rename_i h;exact Z8m h
   ·cases h
theorem bondM_nn{bs:List Int}{n:Int}{p:Nat}{b:Int×Int}{e:Int×Int}(h:bondM bs n p b=.error e):0≤e.1∧0≤e.2:=by
 unfold bondM at h
 split at h
 ·cases h;rename_i h;exact Z3h h
 ·split at h
  ·cases h;rename_i h;exact Z3h h
  ·split at h
   ·cases h;simp
   ·split at h
    ·cases h;rename_i h;exact Z3h h
    ·split at h
     ·cases h;rename_i h;exact Z3h h
     ·cases h
theorem Z8n{bs:List Int}{n:Int}:∀ {k p:Nat}{b:Int×Int}{e:Int×Int},Z3e bs n k p b=.error e→0≤e.1∧0≤e.2
 |0,p,b,e,h=>by cases h
 |k+1,p,b,e,h=>by
  rw [Z5v]at h
  split at h
  ·cases h;rename_i h;exact bondM_nn h
  ·split at h
   ·cases h;rename_i h;exact Z8n h
   ·cases h
theorem Zbf{bs:List Int}{e:Int×Int}(h:Z4o bs=.error e):0≤e.1∧0≤e.2:=by
 unfold Z4o at h
 split at h
 ·cases h;rename_i h;exact Z6W h
 ·split at h
  ·cases h;rename_i h;exact Z3h h
  ·split at h
   ·cases h;rename_i h;exact Z3h h
   ·split at h
    ·cases h;rename_i h;exact Z8m h
    ·split at h
     ·cases h;rename_i h;exact Z8n h
     ·split at h
      ·cases h;simp;omega
      ·cases h
theorem Z9R{bs:List Int}{e:Int×Int}(h:molM bs=.error e):0≤e.1∧0≤e.2:=by
 unfold molM at h
 split at h
 ·cases h;rename_i h;exact Zbf h
 ·split at h
  ·cases h;simp;omega
  ·split at h
   ·cases h;simp;omega
   ·cases h
theorem num2(b:Fk.Bytes)(p:Nat):Fk.numIn 2 (fun _=>true) b p=Fk.numIn 2 (fun v=>decide (v≤65535)) b p:=by
 unfold Fk.numIn
 by_cases h:b.length<2
 ·rw [if_pos h,if_pos h]
 ·rw [if_neg h,if_neg h]
  match b,h with
  |[],h=>simp at h
  |[_],h=>simp at h
  |x::y::l,_ =>
   have hx:=x.toNat_lt
   have hy:=y.toNat_lt
   have e:Fk.num (List.take 2 (x::y::l))=x.toNat+256*(y.toNat+256*0):=rfl
   rw [e,if_pos rfl,if_pos (decide_eq_true (by omega))]
theorem mem_eq{bs:List Int}(hb:Byt bs){p:Nat}(hp:p≤bs.length):Fk.molIn ((bts bs).drop p) p=match memM bs p with
   |.error e=>.error (tf e)
   |.ok x=>.ok (x.1,(bts bs).drop x.2,x.2):=by
 unfold Fk.molIn memM
 rw [num2,Z2T (lo:=0) (hi:=65535) hb hp (fun v=>by rw [decide_eq_true_iff];omega)]
 cases e1:numM bs p 2 0 65535 with
 |error e=>rfl
 |ok n =>
  obtain⟨q1,q2,q3,_⟩:=Z2x e1
  simp only [Fk.andThen,Fk.need]
  rw [Z0T,Z3N,Z0T,Z3N]
  by_cases hl:bs.length<p+2+n.toNat
  ·rw [if_pos hl,if_neg (by rw [decide_eq_true_iff];omega)]
   unfold tf
   simp only [Except.error.injEq,Fk.Fault.mk.injEq]
   omega
  ·rw [if_neg hl,if_pos (by rw [decide_eq_true_iff];omega)]
   simp only []
   rw [Z6Z,Z8A,Z9J ((hb.drop _).take _)]
   cases e2:molM ((bs.drop (p+2)).take n.toNat)with
   |error e =>
    have:=Z9R e2
    simp only []
    unfold tf
    simp only [Except.error.injEq,Fk.Fault.mk.injEq]
    omega
   |ok M =>
    simp only []
    rw [←Z6Z,List.drop_drop]
theorem Z7Q{bs:List Int}(hb:Byt bs):∀ (k p:Nat),p≤bs.length→Fk.molsIn k ((bts bs).drop p) p=match memsM bs k p with
   |.error e=>.error (tf e)
   |.ok y=>.ok (y.1,(bts bs).drop y.2,y.2)
 |0,p,hp=>rfl
 |k+1,p,hp=>by
  rw [Z3L]
  unfold Fk.molsIn
  rw [mem_eq hb hp]
  cases e:memM bs p with
  |error e'=>rfl
  |ok x =>
   simp only [Fk.andThen]
   rw [Z7Q hb k x.2 (Z6H e)]
   cases memsM bs k x.2 with
   |error e'=>rfl
   |ok y=>rfl
theorem ZaC{bs:List Int}(hb:Byt bs):Fk.judgeEq (bts bs)=match eqM bs with
   |.error e=>.error (tf e)
   |.ok E=>.ok E:=by
 unfold Fk.judgeEq eqM
 rw [show Fk.EQMARK=bts [70,75,81,49]from rfl,Z9W hb (by intro x hx;simp at hx;omega)]
 cases e1:markM bs 0 [70,75,81,49]with
 |error e=>rfl
 |ok p =>
  have hp:=Z5n (Z0p _) e1
  simp only [Fk.andThen]
  rw [Z2T (lo:=1) (hi:=8) hb hp (fun v=>by rw [Z0B,decide_eq_true_iff,decide_eq_true_iff,show Fk.SIDE=8 from rfl];omega)]
  cases e2:numM bs p 1 1 8 with
  |error e=>rfl
  |ok n =>
   obtain⟨q1,q2,q3,_⟩:=Z2x e2
   simp only []
   rw [Z2T (lo:=1) (hi:=8) hb q1 (fun v=>by rw [Z0B,decide_eq_true_iff,decide_eq_true_iff,show Fk.SIDE=8 from rfl];omega)]
   cases e3:numM bs (p+1) 1 1 8 with
   |error e=>rfl
   |ok m =>
    obtain⟨r1,r2,r3,_⟩:=Z2x e3
    simp only []
    rw [show p+1+1=p+2 from rfl,Z7Q hb n.toNat (p+2) (by omega)]
    cases e4:memsM bs n.toNat (p+2)with
    |error e=>rfl
    |ok x =>
     have a4:=Z8B (by omega) e4
     simp only []
     rw [Z7Q hb m.toNat x.2 a4.2]
     cases e5:memsM bs m.toNat x.2 with
     |error e=>rfl
     |ok y =>
      simp only [Fk.need]
      have hl:((bts bs).drop y.2).isEmpty=true↔¬ y.2<bs.length:=by
       rw [List.isEmpty_iff,List.drop_eq_nil_iff,Z3N];omega
      by_cases hlt:y.2<bs.length
      ·rw [if_pos hlt,if_neg (by rw [hl];omega)]
       unfold tf
       simp
      ·rw [if_neg hlt,if_pos (hl.mpr hlt)]
theorem memM_nn{bs:List Int}{p:Nat}{e:Int×Int}(h:memM bs p=.error e):0≤e.1∧0≤e.2:=by
 unfold memM at h
 split at h
 ·cases h;rename_i h;exact Z3h h
 ·split at h
  ·cases h
   exact⟨by show(0:Int)≤5;decide,by show(0:Int)≤((bs.length:Nat):Int);omega⟩
  ·split at h
   ·rename_i e' he
    cases h
    have:=Z9R he
    exact⟨by show(0:Int)≤16+e'.1;omega,by show(0:Int)≤((p+2:Nat):Int)+e'.2;omega⟩
   ·cases h
theorem Z6S{bs:List Int}:∀ {k p:Nat}{e:Int×Int},memsM bs k p=.error e→0≤e.1∧0≤e.2
 |0,p,e,h=>by cases h
 |k+1,p,e,h=>by
  rw [Z3L]at h
  cases e1:memM bs p with
  |error e'=>rw [e1]at h;cases h;exact memM_nn e1
  |ok x =>
   rw [e1]at h
   dsimp only at h
   cases e2:memsM bs k x.2 with
   |error e'=>rw [e2]at h;cases h;exact Z6S e2
   |ok y=>rw [e2]at h;cases h
theorem eqM_nn{bs:List Int}{e:Int×Int}(h:eqM bs=.error e):0≤e.1∧0≤e.2:=by
 unfold eqM at h
 split at h
 ·cases h;rename_i h;exact Z6W h
 ·split at h
  ·cases h;rename_i h;exact Z3h h
  ·split at h
   ·cases h;rename_i h;exact Z3h h
   ·split at h
    ·cases h;rename_i h;exact Z6S h
    ·split at h
     ·cases h;rename_i h;exact Z6S h
     ·split at h
      ·cases h;simp
      ·cases h
end SP
namespace BK
open PySem PySem.Spec PyProof.Rows L2 EX RD LM
section
variable{P:Program}{w:World}{K:Z0a}{mg:Str→Option Value}{base:Heap}{CF CR CW CN CT fF CA CB CM CQ:Addr}
def spTl{ι:Type}(CF CW CN CT:Addr)(pre:ι→List V→Hp→Prop)(ans:ι→List Int)(n:Nat):Sp:=fun vs H Q E=>vs.length=n∧∃ x,pre x vs H ∧
 (∀ H' t xs,L2.Same H H'→H t=none→H' t=some (.lst (xs.map V.int))→ans x=0::xs→Q (.ref t) H')∧∀ cls d H',Z8R CF CW CN CT (ans x) cls d H'→E cls d H'
theorem sq_tbl{K:Z0a}{H:Hp}{PT a:Addr}{t1 t2:Array Value}{xs:List V}(hP:H PT=none)(h:SqL K H a xs):SqL K (upd (upd H PT (.tbl t1)) PT (.tbl t2)) a xs:=by
 have ne:∀ o,H a=some o→a≠PT:=fun o e z=>by rw [z,hP]at e;cases e
 rcases h with(h |⟨o,h⟩) |h
 ·exact .inl (.inl (by rw [Z2m (ne _ h),Z2m (ne _ h)];exact h))
 ·exact .inl (.inr ⟨o,by rw [Z2m (ne _ h),Z2m (ne _ h)];exact h⟩)
 ·exact .inr h
end
end BK
end
section
namespace SP
open RD BK EX
theorem mapN:∀ (c:List Nat),(c.map fun n:Nat=>(n:Int)).mapM (m:=Option) SumNeutral.nat=some c
 |[]=>rfl
 |a::c=>by
  rw [Z0D,List.mapM_cons,mapN c]
  have:SumNeutral.nat (a:Int)=some a:=by
   unfold SumNeutral.nat
   rw [if_neg (by omega)]
   simp
  rw [this]
  rfl
theorem Zby{q:Fk.Equation}{c:List Nat}:q.numbers c=true↔NumOk q c:=by
 unfold Fk.Equation.numbers NumOk Fk.Equation.all
 rw [Z0B,beq_iff_eq,Z0x,Z0J]
 refine and_congr_right fun _=>forall_congr' fun x=>forall_congr' fun _=>?_
 rw [decide_eq_true_iff]
 omega
theorem Z6x:∀ l:List (Nat×Nat),SumNeutral.ints (Fk.flatFracs l)=l.flatMap fr
 |[]=>rfl
 |x::l=>by
  have:=Z6x l
  unfold SumNeutral.ints Fk.flatFracs at *
  rw [List.flatMap_cons,List.flatMap_cons,Z0z,this]
  rfl
theorem fit_told(l:List (Nat×Nat)):SumNeutral.told (FkS.fit 64 (Fk.flatFracs l))=if Z5j l=true then[-6]else 0::(((l.flatMap fr).length:Nat):Int)::l.flatMap fr:=by
 have e:((Fk.flatFracs l).any fun x=>decide (2 ^ 64≤x))=Z5j l:=by
  unfold Z5j
  rw [←Z6x]
  unfold SumNeutral.ints
  rw [List.any_map]
  congr 1
  funext x
  have:(2:Nat) ^ 64=18446744073709551616:=by decide
  rw [this]
  show _=decide ((18446744073709551615:Int)<(x:Int))
  exact decide_eq_decide.mpr (by omega)
 unfold FkS.fit
 rw [e]
 by_cases h:Z5j l=true
 ·rw [if_pos h,if_pos h];rfl
 ·rw [if_neg h,if_neg h]
  show 0::(((SumNeutral.ints (Fk.flatFracs l)).length:Nat):Int)::SumNeutral.ints (Fk.flatFracs l)=_
  rw [Z6x]
theorem over_low{a b:Nat}(hb:0<b)(n:Nat):overN (Fk.low (a,b)) n=Fk.low (a,b*n):=by
 unfold overN Fk.low
 have g0:0<Nat.gcd a b:=Z1o _ hb
 obtain⟨a',ha⟩:=Nat.gcd_dvd_left a b
 obtain⟨b',hb'⟩:=Z1R a b
 generalize Nat.gcd a b=g at *
 subst ha
 subst hb'
 show(_ ,_)=(_ ,_)
 rw [Nat.mul_div_cancel_left _ g0,Nat.mul_div_cancel_left _ g0,Nat.mul_assoc,Nat.gcd_mul_left,Z1X _ _ g0,Z1X _ _ g0]
theorem made_eq(u:Nat×Nat):Fk.madeBy u=Z2X u:=by
 funext n
 unfold Fk.madeBy Z2X
 rw [Nat.mul_comm]
end SP
namespace BK
open PySem PySem.Spec PyProof.Rows L2 EX RD LM
section
variable{K:Z0a}
theorem nV_map{l:List Int}(h:∀ x∈l,0≤x):(l.map Int.toNat).map nV=l.map V.int:=by
 rw [Z1E]
 refine Z1F fun x hx=>?_
 show V.int ((x.toNat:Nat):Int)=V.int x
 rw [Z0K (h x hx)]
theorem sq_num{H:Hp}{PT a:Addr}{t1 t2:Array Value}{l:List Int}(h:∀ x∈l,0≤x)(hP:H PT=none)(hs:SqL K H a (l.map V.int)):SqL K (upd (upd H PT (.tbl t1)) PT (.tbl t2)) a ((l.map Int.toNat).map nV):=by
 rw [nV_map h]
 exact sq_tbl hP hs
theorem Zbz{l:List Int}(h:∀ x∈l,0≤x):((l.map Int.toNat).map fun n:Nat=>(n:Int))=l:=by
 rw [Z1E]
 refine(Z1F fun x hx=>?_).trans (List.map_id l)
 show((x.toNat:Nat):Int)=x
 exact Z0K (h x hx)
theorem toNat_lt{l:List Int}(h:∀ x∈l,0≤x∧x≤18446744073709551615):∀ n∈l.map Int.toNat,n<2 ^ 64:=by
 intro n hn
 obtain⟨x,hx,rfl⟩:=Z0H.mp hn
 have:=h x hx
 have e:(2:Nat) ^ 64=18446744073709551616:=by decide
 rw [e]
 omega
end
section
variable{P:Program}{w:World}{K:Z0a}{mg:Str→Option Value}{base:Heap}{CF CW CN CT fF CA CB CM CQ:Addr}
theorem Z9b{bs:List Int}:∀ {k p:Nat}{x:List Fk.Mol×Nat},memsM bs k p=.ok x→x.1.length=k
 |0,p,x,h=>by cases h;rfl
 |k+1,p,x,h=>by
  rw [Z3L]at h
  cases e:memM bs p with
  |error e'=>rw [e]at h;cases h
  |ok y =>
   rw [e]at h
   dsimp only at h
   cases e2:memsM bs k y.2 with
   |error e'=>rw [e2]at h;cases h
   |ok z =>
    rw [e2]at h
    cases h
    rw [Z0q,Z9b e2]
theorem eq_left{bs:List Int}{E:Fk.Equation}(h:eqM bs=.ok E):0<E.left.length:=by
 unfold eqM at h
 split at h
 ·cases h
 ·split at h
  ·cases h
  ·rename_i l e2
   split at h
   ·cases h
   ·split at h
    ·cases h
    ·rename_i x e4
     split at h
     ·cases h
     ·split at h
      ·cases h
      ·cases h
       obtain⟨_,q2,_⟩:=Z2x e2
       have:=Z9b e4
       show 0<x.1.length
       omega
theorem cut_from(xs:List V)(k:Nat)(h:k≤xs.length):cutV xs (some (k:Int)) none=xs.drop k:=by
 have e1:HT.sIx xs.length 0 (some (k:Int))=k:=by
  simp only [HT.sIx]
  rw [if_neg (by omega)]
  omega
 have e2:HT.sIx xs.length xs.length none=xs.length:=by simp [HT.sIx]
 unfold cutV
 rw [e1,e2]
 exact Z1Y (by rw [Z0T];omega)
theorem fst_ok{l:List (Nat×Nat)}(hp:∀ x∈l,0<x.2):FstOk l l.length (Fk.firstLeast l):=by
 have:∀ i,i≤l.length→∃ m,FstOk l i m:=by
  intro i
  induction i with
  |zero=>exact fun _=>⟨0,.inl ⟨rfl,rfl⟩⟩
  |succ i ih =>
   intro h
   obtain⟨m,hm⟩:=ih (by omega)
   exact⟨_,Z8E hm (by omega) hp⟩
 obtain⟨m,hm⟩:=this _ (Z0d _)
 rw [fst_eq hm]
 exact hm
theorem Z7N{H1 H3:Hp}{D v:Addr}{us:List Addr}{R:List (Nat×Nat)}{i:Nat}{z:Nat×Nat}(hD:H1 D=none)(s:L2.Same H1 H3)(hD3:H3 D=some (.lst (us.map V.ref)))(hT:Tups H3 us ((R.take i).map fr))(hz:R[i]?=some z)(hv:H3 v=some (.tup (fV z)))(hR:R.length≤1000) :
  ∃ acc,H3 D=some (.lst acc)∧acc.length<sizeLine∧(L2.Same H1 (upd H3 D (.lst (acc++[.ref v])))∧∃ us',upd H3 D (.lst (acc++[.ref v])) D=some (.lst (us'.map V.ref))∧Tups (upd H3 D (.lst (acc++[.ref v]))) us' ((R.take (i+1)).map fr)):=by
 refine⟨_,hD3,?_,fun b o e=>?_,us++[v],by rw [Z2n,Z0z];rfl,?_⟩
 ·rw [Z0b,hT.1,Z0b,Z1k,sizeLine_eq]
  omega
 ·rw [Z2m (Z2p e hD)];exact s _ _ e
 ·rw [Z1z,hz,Z0z]
  refine Tups.snoc (hT.same fun b xs e=>?_) ?_
  ·rw [Z2m (ne_of e hD3 (by intro z;cases z))];exact e
  ·rw [Z2m (ne_of hv hD3 (by intro z;cases z))];exact hv
theorem Z8Q{H:Hp}{ts us:List Addr}{ls ms:List (List Int)}(h1:Tups H ts ls)(h2:Tups H us ms):Tups H (ts++us) (ls++ms):=by
 refine⟨by rw [Z0x,Z0x,h1.1,h2.1],fun j t m a b=>?_⟩
 by_cases hj:j<ts.length
 ·rw [Z0S hj]at a
  rw [Z0S (by rw [←h1.1];exact hj)]at b
  exact h1.2 j t m a b
 ·rw [Z1l (by omega)]at a
  rw [Z1l (by rw [←h1.1];omega),←h1.1]at b
  exact h2.2 _ t m a b
def Z2E(c:List Nat)(f:List (Nat×Nat)):List (Nat×Nat):=(f.zip c).map fun x=>overN x.1 x.2
def mostL(n:Nat)(c:List Nat)(f:List (Nat×Nat)):List (Nat×Nat) :=
 gt (Z2E c f) (Fk.firstLeast (Z2E c f))::(Fk.firstLeast (Z2E c f),1)::(((f.zip c).map fun x=>Z5F x.1 (Z2X (gt (Z2E c f) (Fk.firstLeast (Z2E c f))) x.2))++(c.drop n).map (Z2X (gt (Z2E c f) (Fk.firstLeast (Z2E c f)))))
def spMost(K:Z0a)(CW CA CB CM CQ:Addr):Sp:=fun vs H Q E=>∃ (er ll rl a m:Addr)(ls rs ts:List Addr)(q:Fk.Equation)(c:List Nat)(f:List (Nat×Nat)),vs=[.ref er,.ref a,.ref m]∧EqAt CQ CM CA CB H er ll rl ls rs q∧SqL K H a (c.map nV) ∧
 H m=some (.lst (ts.map V.ref))∧Tups H ts (f.map fr)∧NumOk q c∧(∀ n∈c,n<2 ^ 64)∧c.length≤100∧(∀ x∈f,x.1<2 ^ 64∧0<x.2∧x.2<2 ^ 64)∧0<q.left.length ∧
 (f.length=q.left.length→∀ H' l us,L2.Same H H'→H l=none→H' l=some (.lst (us.map V.ref))→Tups H' us ((mostL q.left.length c f).map fr)→Q (.ref l) H')∧(f.length≠q.left.length→E (.ref CW) none H)
theorem scMost:Z2v ["equation","numbers","amounts","count","reaches","out","far","left","made","amount","number"] ["equation","numbers","amounts"] (Z2r Z3c):=⟨rfl,rfl,rfl,by decide +kernel,rfl,by decide +kernel,by decide +kernel⟩
theorem blkM1:BlkOk ["equation","numbers","amounts","count","reaches","out","far","left","made","amount","number"] (Z2r Z3c) (lcAt 2 (Z2F Z3c)) [("amount",9),("number",10)]:=⟨rfl,by decide +kernel,by decide +kernel,by decide +kernel,by decide +kernel⟩
theorem blkM2:BlkOk ["equation","numbers","amounts","count","reaches","out","far","left","made","amount","number"] (Z2r Z3c) (lcAt 5 (Z2F Z3c)) [("amount",9),("number",10)]:=⟨rfl,by decide +kernel,by decide +kernel,by decide +kernel,by decide +kernel⟩
theorem blkM3:BlkOk ["equation","numbers","amounts","count","reaches","out","far","left","made","amount","number"] (Z2r Z3c) (lcAt 6 (Z2F Z3c)) [("number",10)]:=⟨rfl,by decide +kernel,by decide +kernel,by decide +kernel,by decide +kernel⟩
theorem Z6E{x:Nat×Nat}(h:0<x.2):(Fk.low x).1*Nat.gcd x.1 x.2=x.1∧(Fk.low x).2*Nat.gcd x.1 x.2=x.2:=by
 unfold Fk.low
 exact⟨Nat.div_mul_cancel (Nat.gcd_dvd_left _ _),Nat.div_mul_cancel (Z1R _ _)⟩
theorem used_le{X x:Nat×Nat}{n:Nat}(hX:0<X.2)(hx:0<x.2)(hn:0<n)(h:Fk.before_ (overN x n) X=false):(Z2X X n).1*x.2≤x.1*(Z2X X n).2:=by
 have h:=Nat.le_of_not_lt (of_decide_eq_false (show decide ((overN x n).1*X.2<X.1*(overN x n).2)=false from h))
 unfold Z2X
 unfold overN at h
 obtain⟨a1,a2⟩:=Z6E (x:=(X.1*n,X.2)) hX
 obtain⟨b1,b2⟩:=Z6E (x:=(x.1,x.2*n)) (Z1s hx hn)
 have g1:0<Nat.gcd (X.1*n) X.2:=Z1o _ hX
 generalize Nat.gcd (X.1*n) X.2=g at a1 a2 g1
 generalize Nat.gcd x.1 (x.2*n)=k at b1 b2
 generalize Fk.low (X.1*n,X.2)=y at *
 generalize Fk.low (x.1,x.2*n)=r at *
 have a1:y.1*g=X.1*n:=a1
 have a2:y.2*g=X.2:=a2
 have b1:r.1*k=x.1:=b1
 have b2:r.2*k=x.2*n:=b2
 have h2:=Z2j k h
 refine Nat.le_of_mul_le_mul_right (c:=g) ?_ g1
 have e1:y.1*x.2*g=X.1*r.2*k:=by
  rw [Z1G,a1,Nat.mul_assoc X.1 r.2 k,b2,Nat.mul_assoc,Nat.mul_comm n x.2]
 have e2:x.1*y.2*g=r.1*X.2*k:=by
  rw [Nat.mul_assoc,a2,Z1G,b1]
 rw [e1,e2]
 exact h2
end
section
variable{P:Program}{w:World}{K:Z0a}{mg:Str→Option Value}{base:Heap}{CF CW CN CT fF CA CB CM CQ:Addr}
set_option maxHeartbeats 1000000 in
theorem okMost{f fO fT fM fF':Addr}{fd fdO fdT fdM fdF:FuncData}(F:Fun K "most_row" "most_row" Z3c f fd)(T:TQ K CQ)(xw:XP K CW)(mW:mg "WrongNumbers" = some (.ref CW))(hlen:mg "len" = none)(hzip:mg "zip" = none)
  (GO:FnOk P w K mg base CX0 3 fO fdO ["fraction","number"] (spFr K overN))(mO:mg "over" = some (.ref fO))(kO:PySem.W.keepIn K (.ref fO)=true)(bO:Binds K fdO ["fraction","number"] [])
  (GT:FnOk P w K mg base CX0 3 fT fdT ["fraction","number"] (spFr K Z2X))(mT:mg "times" = some (.ref fT))(kT:PySem.W.keepIn K (.ref fT)=true)(bT:Binds K fdT ["fraction","number"] [])
  (GM:FnOk P w K mg base CX0 3 fM fdM ["fraction","other"] (Zad K))(mM:mg "minus" = some (.ref fM))(kM:PySem.W.keepIn K (.ref fM)=true)(bM:Binds K fdM ["fraction","other"] [])
  (GF:FnOk P w K mg base CX0 2 fF' fdF ["fractions"] (spFst K))(mF:mg "first_least" = some (.ref fF'))(kF:PySem.W.keepIn K (.ref fF')=true)(bF:Binds K fdF ["fractions"] []) :
  FnOk P w K mg base (CXF P w) 4 f fd ["equation","numbers","amounts"] (spMost K CW CA CB CM CQ):=by
 refine okX F scMost (fun vs H Q E h=>?_) (fun cdv A outer s H vs Q E hr h=>?_)
 ·obtain⟨er,ll,rl,a,m,ls,rs,ts,q,c,f,rfl,_⟩:=h
  rfl
 ·obtain⟨er,ll,rl,a,m,ls,rs,ts,q,c,f,rfl,hq,ha,hm,hT,hn,hc,hcl,hf,hl0,k1,k2⟩:=h
  obtain⟨de,he⟩:=hq.top
  have hr2:Room 2 _:=hr.mono (by decide)
  refine⟨_,Z2o (Z2w (i:=3) scMost.nd rfl (Or.inl rfl) (Z2U Z2J (by rfl) hlen PySem.boot_len (Z2l (Z2u (pv 0) rfl) Z2q)))
   (Z2o (ps_if (Z2G op_ne (Z2U Z2J (by rfl) hlen PySem.boot_len (Z2l (pv 2) Z2q)) (pv 3) (Z2D _)) (Z2s (Z4L xw rfl rfl rfl mW Z2Q)) Z2L)
   (Z2o (Z5o (i:=4) rfl scMost.nd rfl rfl (Z4g rfl rfl rfl rfl) (pi_zip rfl hzip (Z2l (pv 2) (Z2l (pv 1) Z2q))) blkM1
     (fun s H C cl fp=>Zap (n:=2) K rfl rfl (Z3i (Z2H (i:=9) scMost.nd rfl (Or.inl rfl)) (Z3i (Z2H (i:=10) scMost.nd rfl (Or.inl rfl)) Z4V))) (fun s H C cl fp=>Z4f)
     (fun s H C cl fp=>Z2B GO hr rfl mO kO bO .nil pass0 (Z2l (pv 9) (Z2l (pv 10) Z2q))))
   (Z2o (Z2w (i:=5) scMost.nd rfl (Or.inl rfl) (Z2B GF hr2 rfl mF kF bF .nil pass0 (Z2l (pv 4) Z2q)))
   (Z2o (Z2w (i:=6) scMost.nd rfl (Or.inr rfl) (pe_ix Z2Z (pv 4) (pv 5) (fun _ _=>rfl)))
   (Z2o (Z5o (i:=7) rfl scMost.nd rfl rfl (Z4g rfl rfl rfl rfl) (pi_zip rfl hzip (Z2l (pv 2) (Z2l (pv 1) Z2q))) blkM2
     (fun s H C cl fp=>Zap (n:=2) K rfl rfl (Z3i (Z2H (i:=9) scMost.nd rfl (Or.inl rfl)) (Z3i (Z2H (i:=10) scMost.nd rfl (Or.inl rfl)) Z4V))) (fun s H C cl fp=>Z4f)
     (fun s H C cl fp=>Z2B GM hr rfl mM kM bM .nil pass0 (Z2l (pv 9) (Z2l (Z2B GT hr rfl mT kT bT .nil pass0 (Z2l (pv 6) (Z2l (pv 10) Z2q))) Z2q))))
   (Z2o (Z5o (i:=8) rfl scMost.nd rfl rfl (Z4g rfl rfl rfl rfl) (Z4W (Z9h Zaj (pv 1) (Z7J (pv 3)) po_none)) blkM3
     (fun s H C cl fp=>Z2H (i:=10) scMost.nd rfl (Or.inl rfl)) (fun s H C cl fp=>Z4f)
     (fun s H C cl fp=>Z2B GT hr rfl mT kT bT .nil pass0 (Z2l (pv 6) (Z2l (pv 10) Z2q))))
   (Z2s (Z2y (pe_op Z7A (pe_op Z7A (Z3B (Z2l (pv 6) (Z2l (Z4l (Z2l (pv 5) (Z2l Z2t Z2q))) Z2q))) (pv 7)) (pv 8)))))))))),?_⟩
  refine⟨_,rfl,er,CQ,de,_,_,rfl,he,T.cl,T.nl,Z8I _ _,ll,_,rfl,.inl (SqL.of hq.lel),_,rfl,m,_,rfl,.inl (SqL.of hm),_,rfl,rfl,_,rfl,ite2 (fun hc1=>?_) (fun hc1=>?_)⟩
  ·refine k2 fun z=>?_
   rw [Z0b,Z0b,hT.1,Z0b,hq.les.1,z]at hc1
   simp at hc1
  have hfl:f.length=q.left.length:=by
   rw [Z0b,Z0b,hT.1,Z0b,hq.les.1]at hc1
   by_cases z:f.length=q.left.length
   ·exact z
   ·exact absurd (by simp;omega) hc1
  have hk:=k1 hfl
  unfold mostL at hk
  have ecl:((ls.map V.ref).length:Int)=(q.left.length:Int):=by rw [Z0b,hq.les.1]
  rw [ecl]
  have hcn:c.length=q.left.length+q.right.length:=hn.1
  have hRl:(Z2E c f).length=f.length:=by
   unfold Z2E
   rw [Z0b,Z1H];omega
  have numAt:∀ {i:Nat}{y:V},(c.map nV)[i]?=some y→∃ n,y=nV n∧c[i]?=some n∧n<2 ^ 64∧0<n:=fun{i y} h=>by
   rw [Z0k]at h
   cases e:c[i]? with
   |none=>rw [e]at h;cases h
   |some n =>
    rw [e]at h
    cases h
    exact⟨n,rfl,rfl,hc n (Z0u e),Z1d (hn.2 n (Z0u e))⟩
  have mul128:∀ {x n:Nat},x<2 ^ 64→n<2 ^ 64→x*n<2 ^ 128:=fun{x n} h1 h2=>by
   have h3:x*n≤x*2 ^ 64:=Z2k _ (by omega)
   have h4:x*2 ^ 64<2 ^ 64*2 ^ 64:=Z1W h1 (by decide)
   have h5:(2:Nat) ^ 64*2 ^ 64=2 ^ 128:=by decide
   omega
  have zipAt:∀ {i:Nat}{x:Nat×Nat}{n:Nat},f[i]?=some x→c[i]?=some n→(f.zip c)[i]?=some (x,n):=fun h1 h2=>List.getElem?_zip_eq_some.mpr ⟨h1,h2⟩
  have hR:∀ r∈Z2E c f,r.1<2 ^ 64∧0<r.2∧r.2<2 ^ 128:=fun r hr'=>by
   unfold Z2E at hr'
   obtain⟨⟨x,n⟩,hx,rfl⟩:=Z0H.mp hr'
   have hx1:=hf x (Z0P hx).1
   have hn1:=(Z0P hx).2
   have n0:=Z1d (hn.2 n hn1)
   have u:=Z5C (x:=(x.1,x.2*n)) (Z1s hx1.2.1 n0)
   exact⟨Z1n (Z1V _ _) hx1.1,u.1,Z1n u.2 (mul128 hx1.2.2 (hc n hn1))⟩
  have hfo:=fst_ok fun x hx=>(hR x hx).2.1
  have hol:Fk.firstLeast (Z2E c f)<(Z2E c f).length:=by
   rcases hfo with⟨h,_⟩ |⟨h,_⟩
   ·omega
   ·exact h
  have hmin:∀ j,j<(Z2E c f).length→Fk.before_ (gt (Z2E c f) j) (gt (Z2E c f) (Fk.firstLeast (Z2E c f)))=false:=by
   rcases hfo with⟨h,_⟩ |⟨_,h,_⟩
   ·omega
   ·exact h
  have eR:∀ {i:Nat}{x:Nat×Nat}{n:Nat},f[i]?=some x→c[i]?=some n→(Z2E c f)[i]?=some (overN x n):=fun h1 h2=>by
   unfold Z2E
   rw [Z0k,zipAt h1 h2];rfl
  generalize ho:Fk.firstLeast (Z2E c f)=o at *
  have eX:(Z2E c f)[o]?=some (gt (Z2E c f) o):=by
   have:(Z2E c f)[o]?=some (Z2E c f)[o]:=Z0j hol
   rw [this,gt_of this]
  generalize hX:gt (Z2E c f) o=X at *
  have hX1:=hR X (Z0u eX)
  generalize hRR:Z2E c f=R at *
  refine⟨_,rfl,_,rfl,m,a,_,_,rfl,SqL.of hm,ha,fun D hD=>lc_zip (K:=K) (a:=m) (b:=a) (xs:=ts.map V.ref) (ys:=c.map nV) (n:=R.length) (fun i H2=>L2.Same H H2∧∃ us,H2 D=some (.lst (us.map V.ref))∧Tups H2 us ((R.take i).map fr))
   ⟨RD.Same.new hD,[],Z2n,Tups.nil⟩ (by rw [Z0b,Z0b,hT.1,Z0b];omega) (fun i H2 h=>⟨SqL.of (h.1 _ _ hm),h.1.seq ha⟩) ?_ ?_⟩
  ·rintro i x y H2 U hx hy ⟨s2,us,hD2,hT2⟩ hU
   obtain⟨t,fx,rfl,e1,e2,e3⟩:=fr_at hT hx
   obtain⟨n,rfl,e4,n1,n0⟩:=numAt hy
   have hfx:=hf fx (Z0u e2)
   have sU:L2.Same H2 (upd H2 U (.tup [.ref t,nV n])):=RD.Same.new hU
   refine⟨U,_,rfl,SqT.of Z2n,rfl,_,_,rfl,_,_,rfl,rfl,rfl,_,rfl,_,rfl,t,fx,n,128,rfl,SqT.of (sU _ _ (s2 _ _ e3)),n1,n0,hfx.2.1,mul128 hfx.2.2 n1,by decide,fun H3 v s3 nv hv=>?_⟩
   have s4:=sU.trans s3
   exact Z7N hD (s2.trans s4) (s4 _ _ hD2) (hT2.same fun b xs e=>s4 _ _ e) (eR e2 e4) hv (by omega)
  ·rintro H1 ⟨s1,us,hD1,hT1⟩
   rw [Z1Y (Z0d _)]at hT1
   refine⟨_,rfl,D,us,R,rfl,hD1,hT1,fun x hx=>⟨(hR x hx).1,(hR x hx).2.1⟩,fun H2 s2=>?_⟩
   have nD:H D=none:=hD
   have luo:o<us.length:=by have:=hT1.1;rw [Z0b]at this;omega
   have euo:us[o]?=some us[o]:=Z0j luo
   generalize us[o]=tf at euo
   have hX0:H1 tf=some (.tup (fV X)):=hT1.2 o tf (fr X) euo (by rw [Z0k,eX];rfl)
   have s12:=s1.trans s2
   refine⟨_,rfl,_,rfl,D,_,_,.ref tf,rfl,rfl,SqL.of (s2 _ _ hD1),by rw [ho];exact Z3b (by rw [Z0k,euo];rfl),?_⟩
   have hX2:=s2 _ _ hX0
   refine⟨_,rfl,_,rfl,m,a,_,_,rfl,SqL.of (s12 _ _ hm),s12.seq ha,fun D2 hD2'=>lc_zip (K:=K) (a:=m) (b:=a) (xs:=ts.map V.ref) (ys:=c.map nV) (n:=((f.zip c).map fun x=>Z5F x.1 (Z2X X x.2)).length) (fun i H3=>L2.Same H2 H3∧∃ us,H3 D2=some (.lst (us.map V.ref))∧Tups H3 us ((((f.zip c).map fun x=>Z5F x.1 (Z2X X x.2)).take i).map fr))
    ⟨RD.Same.new hD2',[],Z2n,Tups.nil⟩ (by rw [Z0b,Z0b,hT.1,Z0b,Z0b,Z1H]) (fun i H3 h=>⟨SqL.of (h.1 _ _ (s12 _ _ hm)),(s12.trans h.1).seq ha⟩) ?_ ?_⟩
   ·rintro i x y H3 U hx hy ⟨s3,us3,hD3,hT3⟩ hU
    obtain⟨t,fx,rfl,e1,e2,e3⟩:=fr_at hT hx
    obtain⟨n,rfl,e4,n1,n0⟩:=numAt hy
    have hfx:=hf fx (Z0u e2)
    have sU:L2.Same H3 (upd H3 U (.tup [.ref t,nV n])):=RD.Same.new hU
    have b2:X.2*n<2 ^ 192:=by
     have h1:X.2*n≤X.2*2 ^ 64:=Z2k _ (by omega)
     have h2:X.2*2 ^ 64<2 ^ 128*2 ^ 64:=Z1W hX1.2.2 (by decide)
     have h3:(2:Nat) ^ 128*2 ^ 64=2 ^ 192:=by decide
     omega
    have yp:=Z5C (x:=(X.1*n,X.2)) hX1.2.1
    have hle:(Z2X X n).1*fx.2≤fx.1*(Z2X X n).2:=used_le hX1.2.1 hfx.2.1 n0 (by
     have:=hmin i (Z0r.mp (eR e2 e4)).1
     rw [gt_of (eR e2 e4)]at this
     exact this)
    refine⟨U,_,rfl,SqT.of Z2n,rfl,_,_,rfl,_,_,rfl,rfl,rfl,_,rfl,_,rfl,_,rfl,tf,X,n,192,rfl,SqT.of (sU _ _ (s3 _ _ hX2)),n1,n0,hX1.2.1,b2,by decide,fun H4 v s4 nv hv=>?_⟩
    have s5:=sU.trans s4
    refine⟨t,v,fx,Z2X X n,rfl,SqT.of (s5 _ _ (s3 _ _ (s12 _ _ e3))),SqT.of hv,hfx.1,hfx.2.2,hfx.2.1,yp.1,Z1n yp.2 hX1.2.2,hle,fun H5 u s6 nu hu=>?_⟩
    have s7:=s5.trans s6
    exact Z7N hD2' (s3.trans s7) (s7 _ _ hD3) (hT3.same fun b xs e=>s7 _ _ e) (by rw [Z0k,zipAt e2 e4];rfl) hu (by rw [Z0b,Z1H];omega)
   ·rintro H3 ⟨s3,us3,hD3,hT3⟩
    rw [Z1Y (Z0d _)]at hT3
    have s13:=s12.trans s3
    have hcut:cutV (c.map nV) (some (q.left.length:Int)) none=(c.drop q.left.length).map nV:=by
     rw [cut_from _ _ (by rw [Z0b];omega),←List.map_drop]
    refine⟨_,rfl,_,rfl,_,rfl,a,_,rfl,s13.seq ha,fun p hp=>?_⟩
    rw [hcut]
    have sp:L2.Same H3 (upd H3 p (.lst ((c.drop q.left.length).map nV))):=RD.Same.new hp
    refine⟨p,rfl,⟨_,SqL.of Z2n⟩,fun D3 hD3'=>Z9O (K:=K) (a:=p) (xs:=(c.drop q.left.length).map nV) (fun i H4=>L2.Same (upd H3 p (.lst ((c.drop q.left.length).map nV))) H4∧∃ us,H4 D3=some (.lst (us.map V.ref))∧Tups H4 us ((((c.drop q.left.length).map (Z2X X)).take i).map fr))
     ⟨RD.Same.new hD3',[],Z2n,Tups.nil⟩ (fun i H4 _ h=>SqL.of (h.1 _ _ Z2n)) ?_ ?_⟩
    ·rintro i y H4 hy ⟨s4,us4,hD4,hT4⟩
     rw [Z0k]at hy
     cases en:(c.drop q.left.length)[i]? with
     |none=>rw [en]at hy;cases hy
     |some n =>
      rw [en]at hy
      cases hy
      have mem:n∈c:=Z2i (Z0u en)
      have n1:=hc n mem
      have n0:=Z1d (hn.2 n mem)
      have b2:X.2*n<2 ^ 192:=by
       have h1:X.2*n≤X.2*2 ^ 64:=Z2k _ (by omega)
       have h2:X.2*2 ^ 64<2 ^ 128*2 ^ 64:=Z1W hX1.2.2 (by decide)
       have h3:(2:Nat) ^ 128*2 ^ 64=2 ^ 192:=by decide
       omega
      refine⟨rfl,_,rfl,_,rfl,tf,X,n,192,rfl,SqT.of (s4 _ _ (sp _ _ (s3 _ _ hX2))),n1,n0,hX1.2.1,b2,by decide,fun H5 v s5 nv hv=>?_⟩
      exact Z7N hD3' (s4.trans s5) (s5 _ _ hD4) (hT4.same fun b xs e=>s5 _ _ e) (by rw [Z0k,en];rfl) hv (by rw [Z0b,Z0T];omega)
    ·rintro H4 ⟨s4,us4,hD4,hT4⟩
     rw [Z0b,←Z0b (f:=Z2X X),Z1Y (Z0d _)]at hT4
     have s14:=s13.trans (sp.trans s4)
     have hD2f:=(sp.trans s4) _ _ hD3
     have hTf:=hT3.same fun b xs e=>(sp.trans s4) _ _ e
     have hXf:=(sp.trans s4) _ _ (s3 _ _ hX2)
     have l3:us3.length≤100:=by
      have:=hT3.1
      rw [Z0b,Z0b,Z1H]at this
      omega
     have l4:us4.length≤100:=by
      have:=hT4.1
      rw [Z0b,Z0b,Z0T]at this
      omega
     refine⟨_,rfl,_,rfl,(by show 2≤sizeLine;decide),fun t2 ht2=>⟨(by show 2≤sizeLine;decide),fun l0 hl0=>?_⟩⟩
     have sa:L2.Same H4 (upd H4 t2 (.tup [.int ((Fk.firstLeast R:Nat):Int),.int 1])):=RD.Same.new ht2
     generalize hHa:upd H4 t2 (.tup [.int ((Fk.firstLeast R:Nat):Int),.int 1])=Ha at *
     have ht2a:Ha t2=some (.tup (fV (o,1))):=by rw [←hHa,Z2n,ho];rfl
     have sb:L2.Same Ha (upd Ha l0 (.lst [.ref tf,.ref t2])):=RD.Same.new hl0
     refine⟨_,rfl,l0,D2,_,_,rfl,rfl,Z2n,sb _ _ (sa _ _ hD2f),(by rw [Z0b,sizeLine_eq];show 2+_≤_;omega),fun l1 hl1=>?_⟩
     have sc':L2.Same (upd Ha l0 (.lst [.ref tf,.ref t2])) (upd (upd Ha l0 (.lst [.ref tf,.ref t2])) l1 (.lst ([.ref tf,.ref t2]++us3.map V.ref))):=RD.Same.new hl1
     refine⟨_,rfl,l1,D3,_,_,rfl,rfl,Z2n,sc' _ _ (sb _ _ (sa _ _ hD4)),(by rw [Z0x,Z0b,Z0b,sizeLine_eq];show 2+_+_≤_;omega),fun l2 hl2=>?_⟩
     have s5:=(sa.trans sb).trans sc'
     have s6:=s5.trans (RD.Same.new (o:=.lst ([.ref tf,.ref t2]++us3.map V.ref++us4.map V.ref)) hl2)
     refine hk _ l2 ([tf,t2]++us3++us4) (s14.trans s6) ((s14.trans s5).free hl2) (by rw [Z2n,Z0z,Z0z];rfl) ?_
     rw [Z0D,Z0D,Z0z]
     have n0:Tups (upd (upd (upd Ha l0 (.lst [.ref tf,.ref t2])) l1 (.lst ([.ref tf,.ref t2]++us3.map V.ref))) l2 (.lst ([.ref tf,.ref t2]++us3.map V.ref++us4.map V.ref))) [tf,t2] [fr X,fr (o,1)]:=by
      refine Tups.snoc (ts:=[tf]) (ls:=[fr X]) (Tups.snoc (ts:=[]) (ls:=[]) Tups.nil ?_) ?_
      ·exact s6 _ _ hXf
      ·exact(RD.Same.new hl2) _ _ (sc' _ _ (sb _ _ ht2a))
     exact Z8Q (Z8Q n0 (hTf.same fun b xs e=>s6 _ _ e)) (hT4.same fun b xs e=>s6 _ _ e)
end
abbrev Mx:=List Int×List Nat×List Nat
section
variable{P:Program}{w:World}{K:Z0a}{mg:Str→Option Value}{base:Heap}{CF CR CW CN CT fF CA CB CM CQ:Addr}
def preM(K:Z0a)(x:Mx)(vs:List V)(H:Hp):Prop:=∃ a b d,vs=[.ref a,.ref b,.ref d]∧SqL K H a (x.1.map V.int)∧SqL K H b (x.2.1.map nV)∧SqL K H d (x.2.2.map nV)∧(∀ z∈x.1,0≤z∧z≤255)∧(∀ n∈x.2.1,n<2 ^ 64)∧(∀ n∈x.2.2,n<2 ^ 64)∧x.2.2.length≤1000
theorem ZaT{x:Mx}{vs:List V}{H H':Hp}(s:L2.Same H H')(h:preM K x vs H):preM K x vs H':=by
 obtain⟨a,b,d,e,h1,h2,h3,h4⟩:=h
 exact⟨a,b,d,e,s.seq h1,s.seq h2,s.seq h3,h4⟩
open Classical in
noncomputable def mostA(x:Mx):List Int:=match eqM x.1 with
 |.error e=>[-5,0,e.1,e.2]
 |.ok E=>if NumOk E x.2.1 then match pr x.2.2 with
   |none=>[-1]
   |some am=>if am.length=E.left.length then
     if Z5j (mostL E.left.length x.2.1 am)=true then[-6]else 0::((((mostL E.left.length x.2.1 am).flatMap fr).length:Nat):Int)::(mostL E.left.length x.2.1 am).flatMap fr
    else[-1]
  else[-1]
theorem Z8i(n:Nat)(c:List Nat)(f:List (Nat×Nat)):(mostL n c f).length≤2+2*c.length:=by
 unfold mostL
 rw [Z0q,Z0q,Z0x,Z0b,Z0b,Z1H,Z0T]
 omega
theorem scTe:Z2v ["sides","numbers","fractions","read"] ["sides","numbers","fractions"] (Z2r Z5d):=⟨rfl,rfl,rfl,by decide +kernel,rfl,by decide +kernel,by decide +kernel⟩
theorem okTell{f f1 f2 f3 f4 f5:Addr}{fd fd1 fd2 fd3 fd4 fd5:FuncData}(F:Fun K "tell_most" "tell_most" Z5d f fd)
  (G1:FnOk P w K mg base (CXQ false P w) 13 f1 fd1 ["form"] (spEq K CF CA CB CM CQ))(m1:mg "read_equation" = some (.ref f1))(k1:PySem.W.keepIn K (.ref f1)=true)(b1:Binds K fd1 ["form"] [])
  (G2:FnOk P w K mg base (CXQ false P w) 2 f2 fd2 ["equation","numbers"] (Z9j K CW CA CB CM CQ))(m2:mg "refuse_numbers" = some (.ref f2))(k2:PySem.W.keepIn K (.ref f2)=true)(b2:Binds K fd2 ["equation","numbers"] [])
  (G3:FnOk P w K mg base (CXQ false P w) 3 f3 fd3 ["numbers"] (spPair K CW))(m3:mg "paired" = some (.ref f3))(k3:PySem.W.keepIn K (.ref f3)=true)(b3:Binds K fd3 ["numbers"] [])
  (G4:FnOk P w K mg base (CXQ false P w) 4 f4 fd4 ["equation","numbers","amounts"] (spMost K CW CA CB CM CQ))(m4:mg "most_row" = some (.ref f4))(k4:PySem.W.keepIn K (.ref f4)=true)(b4:Binds K fd4 ["equation","numbers","amounts"] [])
  (G5:FnOk P w K mg base (CXQ false P w) 3 f5 fd5 ["fractions"] (spFrow K CT))(m5:mg "fraction_row" = some (.ref f5))(k5:PySem.W.keepIn K (.ref f5)=true)(b5:Binds K fd5 ["fractions"] []) :
  FnOk P w K mg base (CXQ false P w) 14 f fd ["sides","numbers","fractions"] (spTl CF CW CN CT (preM K) mostA 3):=by
 refine okX F scTe (fun vs H Q E h=>h.1) (fun cdv A outer s H vs Q E hr h=>?_)
 obtain⟨_,x,⟨a,b,d,rfl,hA,hB,hD,hb,hc64,hd64,hdl⟩,kk1,kk2⟩:=h
 have hr2:Room 2 _:=hr.mono (by decide)
 have hr3:Room 3 _:=hr.mono (by decide)
 have hr4:Room 4 _:=hr.mono (by decide)
 refine⟨_,Z2o (Z2w (i:=3) scTe.nd rfl (Or.inl rfl) (Z2B G1 hr rfl m1 k1 b1 .nil Z2z (Z2l (pv 0) Z2q)))
  (Z2o (Z2K (Z2B G2 hr2 rfl m2 k2 b2 .nil Z2z (Z2l (pv 3) (Z2l (pv 1) Z2q))))
  (Z2s (Z2y (Z2B G5 hr3 rfl m5 k5 b5 .nil Z2z (Z2l (Z2B G4 hr4 rfl m4 k4 b4 .nil Z2z (Z2l (pv 3) (Z2l (pv 1) (Z2l (Z2B G3 hr3 rfl m3 k3 b3 .nil Z2z (Z2l (pv 2) Z2q)) Z2q)))) Z2q))))),?_⟩
 unfold mostA at kk1 kk2
 refine⟨_,rfl,a,x.1,rfl,hA,hb,?_⟩
 cases e1:eqM x.1 with
 |error e =>
  rw [e1]at kk2
  exact fun H' dx s1 hd=>kk2 _ _ _ (.inl ⟨rfl,dx,e.1,e.2,0,rfl,hd,rfl⟩)
 |ok E' =>
  rw [e1]at kk1 kk2
  dsimp only at kk1 kk2
  intro H1 er ll rl ls rs s1 q hl8 hr8
  refine⟨_,rfl,_,rfl,er,ll,rl,b,ls,rs,E',x.2.1,rfl,q,s1.seq hB,fun hn=>?_,fun hn=>?_⟩
  ·rw [if_pos hn]at kk1 kk2
   refine⟨_,rfl,_,rfl,_,rfl,d,x.2.2,rfl,s1.seq hD,hd64,hdl,?_⟩
   cases e2:pr x.2.2 with
   |none =>
    rw [e2]at kk2
    exact fun H' s'=>kk2 _ _ _ (.inr (.inl ⟨rfl,rfl⟩))
   |some am =>
    rw [e2]at kk1 kk2
    dsimp only at kk1 kk2
    intro H2 t ts s2 nt ht hT
    obtain⟨pb,pl⟩:=pr_lt _ _ e2 hd64
    refine⟨er,ll,rl,b,t,ls,rs,ts,E',x.2.1,am,rfl,q.same s2,(s1.trans s2).seq hB,ht,hT,hn,hc64,by have:=hn.1;omega,pb,eq_left e1,fun hj H3 l us s3 nl hl hT3=>?_,fun hj=>?_⟩
    ·rw [if_pos hj]at kk1 kk2
     refine⟨l,us,_,rfl,hl,hT3,?_,fun ho H4 v s4 nv hv=>?_,fun ho H4 s4=>?_⟩
     ·have:=Z8i E'.left.length x.2.1 am
      have:=hn.1
      omega
     ·rw [if_neg (by rw [ho];exact Z0t)]at kk1
      have s5:=(s1.trans s2).trans s3
      exact kk1 H4 v _ (s5.trans s4) (s5.free nv) hv rfl
     ·rw [if_pos ho]at kk2
      exact kk2 _ _ _ (.inr (.inr (.inr ⟨rfl,rfl⟩)))
    ·rw [if_neg hj]at kk2
     exact kk2 _ _ _ (.inr (.inl ⟨rfl,rfl⟩))
  ·rw [if_neg hn]at kk2
   exact kk2 _ _ _ (.inr (.inl ⟨rfl,rfl⟩))
theorem Zbx{x:Mx}(h:x.2.1.length≤100):(mostA x).length≤sizeLine:=by
 unfold mostA
 split
 ·show 4≤sizeLine;decide
 ·split
  ·split
   ·show 1≤sizeLine;decide
   ·split
    ·split
     ·show 1≤sizeLine;decide
     ·rename_i E _ _ _ am _ _ _
      rw [Z0q,Z0q,Z5V,sizeLine_eq]
      have:=Z8i E.left.length x.2.1 am
      omega
    ·show 1≤sizeLine;decide
  ·show 1≤sizeLine;decide
end
end BK
namespace SP
open RD BK EX
theorem Zbm{k:Nat}(hk:0<k)(a b:Nat):Fk.low (k*a,k*b)=Fk.low (a,b):=by
 unfold Fk.low
 show(_,_)=(_,_)
 rw [Nat.gcd_mul_left,Z1X _ _ hk,Z1X _ _ hk]
theorem left_low{X x:Nat×Nat}{n:Nat}(hX:0<X.2)(hx:0<x.2):Fk.leftOf X (x,n)=Z5F (Fk.low x) (Z2X X n):=by
 unfold Fk.leftOf Z5F Z2X
 obtain⟨a1,a2⟩:=Z6E (x:=(X.1*n,X.2)) hX
 obtain⟨b1,b2⟩:=Z6E (x:=x) hx
 have g1:0<Nat.gcd (X.1*n) X.2:=Z1o _ hX
 have g2:0<Nat.gcd x.1 x.2:=Z1o _ hx
 generalize Fk.low (X.1*n,X.2)=y at *
 generalize Fk.low x=r at *
 have a1:y.1*Nat.gcd (X.1*n) X.2=X.1*n:=a1
 have a2:y.2*Nat.gcd (X.1*n) X.2=X.2:=a2
 generalize Nat.gcd (X.1*n) X.2=g at a1 a2 g1
 generalize Nat.gcd x.1 x.2=k at b1 b2 g2
 show Fk.low (x.1*X.2-n*X.1*x.2,x.2*X.2)=_
 rw [←Zbm (Z1s g1 g2) (r.1*y.2-y.1*r.2) (r.2*y.2),Nat.mul_sub]
 have e1:g*k*(r.1*y.2)=x.1*X.2:=by rw [←a2,←b1];ac_rfl
 have e2:g*k*(y.1*r.2)=n*X.1*x.2:=by rw [Nat.mul_comm n X.1,←a1,←b2];ac_rfl
 have e3:g*k*(r.2*y.2)=x.2*X.2:=by rw [←a2,←b2];ac_rfl
 rw [e1,e2,e3]
theorem Zbj{l:List (Nat×Nat)}{c:List Nat}(h:∀ x∈l,0<x.2):(l.zip c).map Fk.over=Z2E c (l.map Fk.low):=by
 unfold Z2E
 rw [List.zip_map_left,Z1E]
 refine Z1F fun x hx=>?_
 have:=h x.1 (Z0P hx).1
 show Fk.low (x.1.1,x.1.2*x.2)=overN (Fk.low x.1) x.2
 exact(over_low this x.2).symm
theorem gt_pos{l:List (Nat×Nat)}(h:∀ x∈l,0<x.2)(j:Nat):0<(gt l j).2:=by
 unfold gt
 rw [Z0C]
 cases e:l[j]? with
 |none=>exact Nat.one_pos
 |some x=>exact h x (Z0u e)
theorem mostL_eq{E:Fk.Equation}{l:List (Nat×Nat)}{c:List Nat}(h:∀ x∈l,0<x.2)(hc:∀ n∈c,n≠0):E.most c l=mostL E.left.length c (l.map Fk.low):=by
 unfold Fk.Equation.most Fk.goes Fk.runsOut mostL
 simp only []
 rw [Zbj h]
 have hX:0<(gt (Z2E c (l.map Fk.low)) (Fk.firstLeast (Z2E c (l.map Fk.low)))).2:=gt_pos (fun x hx=>by
  unfold Z2E at hx
  obtain⟨⟨y,n⟩,hy,rfl⟩:=Z0H.mp hx
  obtain⟨z,hz,rfl⟩:=Z0H.mp (Z0P hy).1
  exact(Z5C (Z1s (Z5C (h z hz)).1 (Z1d (hc n (Z0P hy).2)))).1) _
 unfold gt at *
 generalize (Z2E c (l.map Fk.low)).getD (Fk.firstLeast (Z2E c (l.map Fk.low))) (0,1)=X at *
 rw [List.zip_map_left,Z1E,made_eq]
 congr 3
 refine Z1F fun x hx=>?_
 exact left_low hX (h x.1 (Z0P hx).1)
theorem ZbA{x:Mx}(h1:Byt x.1):PyYqfkea.most x.1 (x.2.1.map fun n:Nat=>(n:Int)) (x.2.2.map fun n:Nat=>(n:Int))=mostA x:=by
 unfold PyYqfkea.most SumNeutral.f
 have hc:SumNeutral.callOf [[10],x.1,x.2.1.map fun n:Nat=>(n:Int),x.2.2.map fun n:Nat=>(n:Int)]=some (.most (bts x.1) x.2.1 x.2.2):=by
  show((SumNeutral.bytes x.1).bind fun p=>((x.2.1.map fun n:Nat=>(n:Int)).mapM SumNeutral.nat).bind fun c=>((x.2.2.map fun n:Nat=>(n:Int)).mapM SumNeutral.nat).bind fun f=>some (FkS.Call.most p c f))=_
  rw [Zar h1,mapN,mapN];rfl
 rw [hc]
 simp only [FkS.answer,FkS.numbered]
 rw [ZaC h1]
 unfold mostA
 cases e:eqM x.1 with
 |error e' =>
  have:=eqM_nn e
  simp only [FkS.judged,SumNeutral.told,tf]
  simp only [List.cons.injEq,true_and,and_true]
  omega
 |ok E =>
  simp only [FkS.judged]
  by_cases hn:NumOk E x.2.1
  ·rw [if_pos hn,if_pos (Zby.mpr hn),pr_eq]
   cases e2:FkS.fracsOf x.2.2 with
   |none=>rfl
   |some l =>
    dsimp only
    by_cases hz:l.any (fun x=>x.2==0)=true
    ·rw [if_pos hz,if_neg (fun z=>?_)]
     ·rfl
     ·obtain⟨y,hy,e⟩:=Z1S.mp hz
      have:=Z0J.mp z.2 y hy
      simp at e this
      omega
    ·rw [if_neg hz]
     have hp:∀ y∈l,0<y.2:=fun y hy=>by
      rcases Nat.eq_zero_or_pos y.2 with z |z
      ·exact absurd (Z1S.mpr ⟨y,hy,by simp [z]⟩) hz
      ·exact z
     have ha:(l.all fun y=>decide (1≤y.2))=true:=Z0J.mpr fun y hy=>decide_eq_true (hp y hy)
     dsimp only
     rw [Z0b]
     by_cases hl:l.length=E.left.length
     ·rw [if_pos hl,if_pos ⟨hl,ha⟩,fit_told,mostL_eq hp hn.2]
     ·rw [if_neg hl,if_neg (fun z=>hl z.1)];rfl
  ·rw [if_neg hn,if_neg (fun z=>hn (Zby.mp z))];rfl
end SP
namespace BK
open PySem PySem.Spec PyProof.Rows L2 EX RD LM
section
variable{P:Program}{w:World}{K:Z0a}{mg:Str→Option Value}{base:Heap}{CF CR CW CN CT fF CA CB CM:Addr}
def mostF(x:Mx):List Int:=PyYqfkea.most x.1 (x.2.1.map fun n:Nat=>(n:Int)) (x.2.2.map fun n:Nat=>(n:Int))
theorem dsMost:Z9r Z3y ["sides","numbers","fractions"] ["sides","numbers","fractions"] [0,1,2]:=⟨⟨rfl,rfl,rfl,by decide +kernel,rfl,by decide +kernel,by decide +kernel⟩,⟨rfl,rfl,rfl,by decide +kernel,by decide +kernel⟩,⟨_,_,_,rfl⟩,fun _=>rfl,by decide +kernel,
 fun j y h=>match j,h with |0,h=>⟨0,rfl,h⟩ |1,h=>⟨1,rfl,h⟩ |2,h=>⟨2,rfl,h⟩ |j+3,h=>by simp at h,rfl,by decide +kernel,rfl,fun _ _ _ _ _=>rfl⟩
theorem okLam{f fB:Addr}{fd fdB:FuncData}{qual:Str}{cl:List (Str×Addr)}{cd:Value}{vs:List V}(L:Lam base f fd qual (Z4U Z3y) (Z5I Z3y) (Z3C Z3y) cl cd ["sides","numbers","fractions"] vs)
  (GB:FnOk P w K mg base (CXQ false P w) 14 fB fdB ["sides","numbers","fractions"] (spTl CF CW CN CT (preM K) mostA 3))(mB:mg "tell_most" = some (.ref fB))(kB:PySem.W.keepIn K (.ref fB)=true)(bB:Binds K fdB ["sides","numbers","fractions"] []) :
  FnOk P w K mg base (CXQ false P w) 15 f fd [] (spL CF CW CN CT (preM K) mostF vs):=by
 refine okL L dsMost.ls (fun vs H Q E h=>by rw [h.1];rfl) fun A outer s H Q E hr h=>?_
 obtain⟨_,x,⟨a,b,d,rfl,hx⟩,k1,k2⟩:=h
 have e:mostF x=mostA x:=SP.ZbA (x:=x) hx.2.2.2.1
 exact⟨_,Z2B GB hr rfl mB kB bB .nil ZaH (Z2l (pv 0) (Z2l (pv 1) (Z2l (pv 2) Z2q))),⟨_,rfl,_,rfl,_,rfl,rfl,x,⟨a,b,d,rfl,hx⟩,fun H' t xs s n h q=>k1 H' t xs s n h (e.trans q),fun cls d H' r=>k2 cls d H' (by rw [e];exact r)⟩⟩
end
end BK
end
section
namespace BK
open PySem PySem.Spec PyProof.Rows L2 EX RD LM
open PySem.W (Codec)
abbrev XGf(K:Z0a)(x:Str)(st:Stmt):Prop:=∃ f fd,PySem.W.nsIn K mainGlobals x=some (some (.ref f))∧Fun K x x st f fd
abbrev XMf(K:Z0a)(C:Addr)(x q:Str)(st:Stmt):Prop:=∃ f fd,PySem.W.findIn K (.ref C) x=some (some (.ref f))∧PySem.W.isFn K (.ref f)=true∧Fun K x q st f fd
abbrev XCl(K:Z0a)(x:Str)(C:Addr):Prop:=PySem.W.nsIn K mainGlobals x=some (some (.ref C))∧(PySem.W.plainGet K C Str.empty=true∧PySem.W.hasDictIn K C=true∧PySem.W.plainOver K C=true∧PySem.W.findIn K (.ref C) "__setattr__" = some (some (.builtin "object.__setattr__")))∧PySem.W.makesIn K C=true∧PySem.W.keepIn K (.ref C)=true
abbrev XCi(K:Z0a)(x:Str)(n:Int):Prop:=∃ t,PySem.W.nsIn K mainGlobals x=some (some (.int n t))
theorem XCi.v{K:Z0a}{h:Heap}{mg:Str→Option Value}{x:Str}{n:Int}(X:K.In h)(G:h.Ns mainGlobals mg)(c:XCi K x n):∃ u,mg x=some u∧RelV (.int n) u:=let ⟨t,c⟩:=c;⟨_,Z0i X G c,t,rfl⟩
theorem gk{K:Z0a}{x:Str}{st:Stmt}(f:Addr)(m:Str)(t:Tok)(c:Addr)(h:(PySem.W.nsIn K mainGlobals x,K.lookup f,PySem.W.codeIn K (.ref c) x,PySem.W.keepIn K (.ref f))=(some (some (.ref f)),some ⟨.type "function",none,.func (PySem.W.fnOf x x (Z3m st) (Z2F st) (Z2r st) .none .none .none (.str m t) none (.ref c) .none),#[]⟩,true,true)):XGf K x st :=
 ⟨f,_,congrArg Prod.fst h,⟨⟨_,_,_,_,_,_,_,_,_,rfl,congrArg (·.2.1) h,congrArg (·.2.2.1) h⟩,congrArg (·.2.2.2) h⟩⟩
theorem mk{K:Z0a}{C:Addr}{x q:Str}{st:Stmt}(f:Addr)(m:Str)(t:Tok)(c:Addr)(h:(PySem.W.findIn K (.ref C) x,K.lookup f,PySem.W.codeIn K (.ref c) q,PySem.W.keepIn K (.ref f),PySem.W.isFn K (.ref f))=(some (some (.ref f)),some ⟨.type "function",none,.func (PySem.W.fnOf x q (Z3m st) (Z2F st) (Z2r st) .none .none .none (.str m t) none (.ref c) .none),#[]⟩,true,true,true)):XMf K C x q st :=
 ⟨f,_,congrArg Prod.fst h,congrArg (·.2.2.2.2) h,⟨⟨_,_,_,_,_,_,_,_,_,rfl,congrArg (·.2.1) h,congrArg (·.2.2.1) h⟩,congrArg (·.2.2.2.1) h⟩⟩
theorem ck{K:Z0a}{C:Addr}{x:Str}(h:(PySem.W.nsIn K mainGlobals x,(PySem.W.plainGet K C Str.empty&&PySem.W.hasDictIn K C&&PySem.W.plainOver K C&&PySem.W.makesIn K C&&PySem.W.keepIn K (.ref C)),PySem.W.findIn K (.ref C) "__setattr__")=(some (some (.ref C)),true,some (some (.builtin "object.__setattr__")))):XCl K x C:=by
 have a:=congrArg (fun x=>x.2.1) h
 simp only [Z0B]at a
 exact⟨congrArg Prod.fst h,⟨a.1.1.1.1,a.1.1.1.2,a.1.1.2,congrArg (·.2.2) h⟩,a.1.2,a.2⟩
theorem n1{α:Type}{p:List α→Prop}(h:∀ a,p [a])(us:List α)(e:us.length=1):p us:=match us,e with |[a],_=>h a
theorem n2{α:Type}{p:List α→Prop}(h:∀ a b,p [a,b])(us:List α)(e:us.length=2):p us:=match us,e with |[a,b],_=>h a b
theorem n3{α:Type}{p:List α→Prop}(h:∀ a b c,p [a,b,c])(us:List α)(e:us.length=3):p us:=match us,e with |[a,b,c],_=>h a b c
theorem n4{α:Type}{p:List α→Prop}(h:∀ a b c d,p [a,b,c,d])(us:List α)(e:us.length=4):p us:=match us,e with |[a,b,c,d],_=>h a b c d
theorem n5{α:Type}{p:List α→Prop}(h:∀ a b c d e,p [a,b,c,d,e])(us:List α)(e:us.length=5):p us:=match us,e with |[a,b,c,d,e],_=>h a b c d e
theorem n6{α:Type}{p:List α→Prop}(h:∀ a b c d e f,p [a,b,c,d,e,f])(us:List α)(e:us.length=6):p us:=match us,e with |[a,b,c,d,e,f],_=>h a b c d e f
theorem sw_all(env:Env)(p1 p2 p3 p4:Pos)(f:Str):swapsWith (.Name f p3) (some (.Attribute (.Name "self" p1) f p2)) p4.line env=pure false:=by rfl
theorem noX(f:Str)(h:f = "rule"∨f = "place"∨f = "which"):typeLookup (.type "Exception") f=pure none:=by
 rcases h with rfl |rfl |rfl
 ·rw [typeLookup_type,builtinLookup_eq_fast];kernel_rfl
 ·rw [typeLookup_type,builtinLookup_eq_fast];kernel_rfl
 ·rw [typeLookup_type,builtinLookup_eq_fast];kernel_rfl
theorem scFI:Z2v ["self","rule","place","which"] ["self","rule","place","which"] (Z2r Z3t):=⟨rfl,rfl,rfl,by decide +kernel,rfl,by decide +kernel,by decide +kernel⟩
theorem bodyFI:Z6Y "rule" "place" "which" (Z2F Z3t):=⟨_,_,_,_,_,_,_,_,_,_,_,_,rfl⟩
set_option maxHeartbeats 0 in
theorem all_mk{P:Program}{w:World}{K:Z0a}{h:Heap}{mg:Str→Option Value}{fa c0 PT yab yai yaf yaj yac yak yaa yad yae yal yam yag yaP yaA yaB yaC yaD:Addr}(X:K.In h)(G:h.Ns mainGlobals mg)(hfa:mg "most" = some (.ref fa))
  {ybU ybV:Str}{yah:Addr}{ybW:List Value}{ybX:List Str}{ybY:List Value}{ybZ:Bool}{yca:Option Bool}{ycb:Option Addr}{ycc ycd yce ycf ycg:Option Value}
  {ych yci:Str}{yau:Addr}{ycj:List Value}{yck:List Str}{ycl:List Value}{ycm:Bool}{ycn:Option Bool}{yco:Option Addr}{ycp ycq ycr ycs yct:Option Value}
  {ycu ycv:Str}{yav:Addr}{ycw:List Value}{ycx:List Str}{ycy:List Value}{ycz:Bool}{ycA:Option Bool}{ycB:Option Addr}{ycC ycD ycE ycF ycG:Option Value}
  {ycH ycI:Str}{yaw:Addr}{ycJ:List Value}{ycK:List Str}{ycL:List Value}{ycM:Bool}{ycN:Option Bool}{ycO:Option Addr}{ycP ycQ ycR ycS ycT:Option Value}
  {ycU ycV:Option Addr}{ycW:Array (Option Value)}{ycX ycY ycZ yda yaQ ydb:Value}
  {ydc:Option Addr}{ydd:Nat}{yde:Array (Option Value)}{yaR:Tok}
  {ydf yaS:Option Addr}{ydg:Array (Option Value)}{ydh yaT yaU yaV yaE yaW:Value}
  {ydi:Option Addr}{ydj:Nat}{ydk:Array (Option Value)}{ydl ydm ydn ydo:Tok}
  {ydp:Option Addr}{ydq:Nat}{ydr:Array (Option Value)}{yds ydt:Tok}
  {ydu:Option Addr}{ydv:Nat}{ydw:Array (Option Value)}{ydx ydy ydz ydA:Tok}
  (yex:PySem.W.nsIn K mainGlobals "Fault" = some (some (.ref yab)))
  (yey:K.lookup yab=some (excClassObj ybU ybV yab yah ybW bmX true ybX ybY ybZ yca ycb ycc ycd yce ycf ycg "Exception.__new__"))
  (yez:PySem.W.nsOkIn K yah=true)
  (yeA:PySem.W.keepIn K (.ref yab)=true)
  (yeB:PySem.W.nsIn K yah "__init__" = some (some (.ref yag)))
  (yeC:PySem.W.nsIn K yah "__setattr__" = some none)
  (yeD:PySem.W.nsIn K yah "__getattribute__" = some none)
  (yeE:PySem.W.nsIn K yah "__getattr__" = some none)
  (yeF:PySem.W.nsIn K yah "rule" = some none)
  (ydB:PySem.W.findIn K (.ref yab) "rule" = some none)
  (yeG:PySem.W.nsIn K yah "place" = some none)
  (ydC:PySem.W.findIn K (.ref yab) "place" = some none)
  (yeH:PySem.W.nsIn K yah "which" = some none)
  (yeI:PySem.W.findIn K (.ref yab) "which" = some none)
  (yeJ:PySem.W.findIn K (.ref yab) "__getattribute__" = some (some (.builtin "BaseException.__getattribute__")))
  (yeK:PySem.W.findIn K (.ref yab) "__getattr__" = some none)
  (yeL:PySem.W.hasDictIn K yab=true)
  (yeM:PySem.W.mroIn K yab (.type "BaseException")=some true)
  (yeN:PySem.W.nsIn K mainGlobals "WrongNumbers" = some (some (.ref yai)))
  (yeO:K.lookup yai=some (excClassObj ych yci yai yau ycj bmX true yck ycl ycm ycn yco ycp ycq ycr ycs yct "Exception.__new__"))
  (yeP:PySem.W.nsOkIn K yau=true)
  (yeQ:PySem.W.keepIn K (.ref yai)=true)
  (yeR:PySem.W.nsIn K yau "__init__" = some none)
  (yeS:PySem.W.nsIn K mainGlobals "NotThere" = some (some (.ref yaf)))
  (yeT:K.lookup yaf=some (excClassObj ycu ycv yaf yav ycw bmX true ycx ycy ycz ycA ycB ycC ycD ycE ycF ycG "Exception.__new__"))
  (yeU:PySem.W.nsOkIn K yav=true)
  (yeV:PySem.W.keepIn K (.ref yaf)=true)
  (yeW:PySem.W.nsIn K yav "__init__" = some none)
  (yeX:PySem.W.nsIn K mainGlobals "TooGreat" = some (some (.ref yaj)))
  (yeY:K.lookup yaj=some (excClassObj ycH ycI yaj yaw ycJ bmX true ycK ycL ycM ycN ycO ycP ycQ ycR ycS ycT "Exception.__new__"))
  (yeZ:PySem.W.nsOkIn K yaw=true)
  (yfa:PySem.W.keepIn K (.ref yaj)=true)
  (yfb:PySem.W.nsIn K yaw "__init__" = some none)
  (yfc:yai≠yab)
  (yfd:yaf≠yab)
  (yfe:yaf≠yai)
  (yff:yaj≠yab)
  (yfg:yaj≠yai)
  (yfh:yaj≠yaf)
  (yan:XCl K "Reader" yac)
  (yfi:NoAttr K yac "form")
  (yfj:NoAttr K yac "place")
  (yao:XCl K "Way" yak)
  (yfk:NoAttr K yak "bond")
  (yfl:NoAttr K yak "other")
  (yfm:NoAttr K yak "rooms")
  (yap:XCl K "Search" yaa)
  (yfn:NoAttr K yaa "ways")
  (yfo:NoAttr K yaa "cut")
  (yfp:NoAttr K yaa "bases")
  (yfq:NoAttr K yaa "came_by")
  (yfr:NoAttr K yaa "came_from")
  (yfs:NoAttr K yaa "turns")
  (yft:NoAttr K yaa "waiting")
  (yaq:XCl K "Atom" yad)
  (yfu:NoAttr K yad "element")
  (yfv:NoAttr K yad "isotope")
  (yfw:NoAttr K yad "charge")
  (yfx:NoAttr K yad "hydrogens")
  (yfy:NoAttr K yad "hand")
  (yar:XCl K "Bond" yae)
  (yfz:NoAttr K yae "a")
  (yfA:NoAttr K yae "b")
  (yfB:NoAttr K yae "order")
  (yfC:NoAttr K yae "side")
  (yas:XCl K "Molecule" yal)
  (yfD:NoAttr K yal "atoms")
  (yfE:NoAttr K yal "bonds")
  (yat:XCl K "Equation" yam)
  (yfF:NoAttr K yam "left")
  (yfG:NoAttr K yam "right")
  (yfH:PySem.W.findIn K (.ref yab) "__init__" = some (some (.ref yag)))
  (ydD:PySem.W.isFn K (.ref yag)=true)
  (yfI:K.lookup yag=some ⟨ycX,ycU,.func (PySem.W.fnOf "__init__" "Fault.__init__" (Z3m Z3t) (Z2F Z3t) (Z2r Z3t) (.ref yaP) ycY ycZ yda ycV yaQ ydb),ycW⟩)
  (ydE:K.lookup yaP=some ⟨.type "tuple",ydc,.seq #[.int 0 yaR] ydd,yde⟩)
  (yfJ:PySem.W.codeIn K yaQ "Fault.__init__" = true)
  (yfK:PySem.W.keepIn K (.ref yag)=true)
  (yfL:XGf K "common_divisor" Z3Q)
  (yfM:XGf K "lowest" Z6m)
  (yfN:XGf K "is_below" Z5u)
  (yfO:XGf K "minus" Z7b)
  (yfP:XGf K "times" Z7c)
  (yfQ:XGf K "over" Z7P)
  (yfR:XGf K "paired" Z6k)
  (yfS:XGf K "refuse_above" Z4i)
  (yfT:XGf K "most_row" Z3c)
  (yfU:XGf K "first_least" Z4y)
  (yfV:XGf K "refuse_numbers" Z3S)
  (yfW:XMf K yac "__init__" "Reader.__init__" Z4A)
  (yfX:XMf K yac "expect_mark" "Reader.expect_mark" Z3z)
  (yfY:XMf K yac "take" "Reader.take" Z4z)
  (yfZ:XMf K yac "number" "Reader.number" Z4a)
  (yga:XMf K yac "finish" "Reader.finish" Z4c)
  (ygb:XMf K yak "__init__" "Way.__init__" Z5w)
  (ygc:XMf K yaa "__init__" "Search.__init__" Z4w)
  (ygd:XMf K yaa "reach" "Search.reach" Z4p)
  (yge:XMf K yaa "allow" "Search.allow" Z4k)
  (ygf:XMf K yaa "comes_back" "Search.comes_back" Z3F)
  (ygg:XMf K yaa "goes_on" "Search.goes_on" Z3R)
  (ygh:XMf K yaa "closes" "Search.closes" Z4b)
  (ygi:XMf K yaa "base_of" "Search.base_of" Z3P)
  (ygj:XMf K yaa "base_before" "Search.base_before" Z3v)
  (ygk:XMf K yaa "meeting_of" "Search.meeting_of" Z3G)
  (ygl:XMf K yaa "fold" "Search.fold" Z4B)
  (ygm:XMf K yaa "allow_both" "Search.allow_both" Z3D)
  (ygn:XGf K "ways_at" Z4r)
  (ygo:XGf K "is_fixed_double" Z3J)
  (ygp:XGf K "can_go" Z6l)
  (ygq:XMf K yad "__init__" "Atom.__init__" Z5m)
  (ygr:XMf K yae "__init__" "Bond.__init__" Z4Z)
  (ygs:XMf K yal "__init__" "Molecule.__init__" Z4d)
  (ygt:XGf K "read_molecule" Z3Y)
  (ygu:XGf K "read_parts" Z3H)
  (ygv:XGf K "read_atom" Z5h)
  (ygw:XGf K "read_bond" Z5a)
  (ygx:XGf K "neighbour_counts" Z2Y)
  (ygy:XGf K "refuse_wrong_hands" Z3x)
  (ygz:XGf K "may_have_hand" Z3W)
  (ygA:XGf K "refuse_wrong_sides" Z3w)
  (ygB:XGf K "may_have_side" Z3Z)
  (ygC:XGf K "may_end_a_side" Z3O)
  (ygD:XMf K yam "__init__" "Equation.__init__" Z3X)
  (ygE:XGf K "read_equation" Z2P)
  (ygF:XGf K "read_member" Z4s)
  (yaX:PySem.W.nsIn K mainGlobals "most" = some (some (.ref yaA)))
  (ydF:K.lookup yaA=some ⟨ydh,ydf,.func (PySem.W.fnOf "most" "most" (Z3m Z3y) (Z2F Z3y) (Z2r Z3y) .none yaT yaU yaV yaS yaE yaW),ydg⟩)
  (ygG:PySem.W.codeIn K yaE "most" = true)
  (ygH:PySem.W.keepIn K (.ref yaA)=true)
  (ygI:XGf K "tell_most" Z5d)
  (ygJ:XGf K "answer" Z6A)
  (ygK:XGf K "row" Z8y)
  (ygL:XGf K "fraction_row" Z4m)
  (ygM:XCi K "MOST_TOLD" 18446744073709551615)
  (ygN:XCi K "WRONG_MARK" 1)
  (ygO:XCi K "OUT_OF_BOUNDS" 2)
  (ygP:XCi K "NOT_BEHIND" 3)
  (ygQ:XCi K "WRONG_HAND" 4)
  (ygR:XCi K "ENDS_EARLY" 5)
  (ygS:XCi K "WRONG_SIDE" 6)
  (ygT:XCi K "LEFT_OVER" 7)
  (ygU:XCi K "MOST_ELEMENT" 118)
  (ygV:XCi K "MOST_ISOTOPE" 500)
  (ygW:XCi K "UP" 1)
  (ygX:XCi K "DOWN" (-1))
  (ygY:XCi K "MIDDLE" (-1))
  (ygZ:XCi K "MOST_ATOMS" 128)
  (yha:XCi K "MOST_BONDS" 192)
  (yhb:XCi K "MOST_CHARGE" 4)
  (yhc:XCi K "MOST_HYDROGENS" 7)
  (yhd:XCi K "MOST_HAND" 2)
  (yhe:XCi K "MOST_ORDER" 3)
  (yhf:XCi K "MOST_SIDE" 2)
  (yhg:XCi K "HEAD_SIZE" 6)
  (yhh:XCi K "ATOM_SIZE" 6)
  (yhi:XCi K "BOND_SIZE" 4)
  (yhj:XCi K "MOST_ON_A_SIDE" 8)
  (yhk:XCi K "MOST_SIZE" 65535)
  (yhl:XCi K "WITHIN_MOLECULE" 16)
  (yhm:XCi K "ANSWERED" 0)
  (yhn:XCi K "WRONG_NUMBERS" (-1))
  (yho:XCi K "NOT_THERE" (-2))
  (yhp:XCi K "FAULTY_FORM" (-5))
  (yhq:XCi K "TOO_GREAT" (-6))
  (yhr:PySem.W.nsIn K mainGlobals "MARK_molecules" = some (some (.ref yaB)))
  (yhs:K.lookup yaB=some ⟨.type "tuple",ydi,.seq #[.int 70 ydl,.int 75 ydm,.int 77 ydn,.int 49 ydo] ydj,ydk⟩)
  (yht:PySem.W.nsIn K mainGlobals "BEFORE_ALL" = some (some (.ref yaC)))
  (yhu:K.lookup yaC=some ⟨.type "tuple",ydp,.seq #[.int 0 yds,.int 0 ydt] ydq,ydr⟩)
  (yhv:PySem.W.nsIn K mainGlobals "MARK_equations" = some (some (.ref yaD)))
  (yhw:K.lookup yaD=some ⟨.type "tuple",ydu,.seq #[.int 70 ydx,.int 75 ydy,.int 81 ydz,.int 49 ydA] ydv,ydw⟩)
  (yhx:PySem.W.nsIn K mainGlobals "enumerate" = some none)
  (yhy:PySem.W.nsIn K mainGlobals "len" = some none)
  (yhz:PySem.W.nsIn K mainGlobals "range" = some none)
  (yhA:PySem.W.nsIn K mainGlobals "reversed" = some none)
  (yhB:PySem.W.nsIn K mainGlobals "zip" = some none)
  (ht:PySem.W.tabIn K "most" = some (c0,PT))
  : ∃ (fd:FuncData)(c PT:Addr),PySem.W.tabIn K "most" = some (c,PT)∧(∀ (s:Shared)(us:List Value),us.length=(["sides","numbers","fractions"]:List Str).length→BindsTo s fd ⟨us,[]⟩ ((["sides","numbers","fractions"]:List Str).zip us)) ∧
   ∀ base:Heap,K.In base→base.Ns mainGlobals mg→PySem.W.CodeHd base c PT→base.BuiltinsAt mg PT→FnOk P w K mg base CX0 17 fa fd ["sides","numbers","fractions"] (spD PT [0,1,2] (preM K) mostF):=by
 have e:=hfa.symm.trans (Z0i X G yaX)
 cases e
 have ymv:Meth K yab "__init__" yag:=⟨yfH,ydD,yfK⟩
 obtain⟨ymw,ymx,yhC,yaY⟩:=yfL
 have yhD:=yaY.kp
 have yhE:=yaY.binds (ps:=["a","b"]) fun _ _ _ _ _ _=>n2 fun _ _=>rfl
 have yhF:=Z0i X G yhC
 obtain⟨ymy,ymz,yhG,yaZ⟩:=yfM
 have yaF:=yaZ.kp
 have yaG:=yaZ.binds (ps:=["numerator","denominator"]) fun _ _ _ _ _ _=>n2 fun _ _=>rfl
 have yaH:=Z0i X G yhG
 obtain⟨ymA,ymB,yhH,yba⟩:=yfN
 have yhI:=yba.kp
 have yhJ:=yba.binds (ps:=["fraction","other"]) fun _ _ _ _ _ _=>n2 fun _ _=>rfl
 have yhK:=Z0i X G yhH
 obtain⟨ymC,ymD,yhL,ybb⟩:=yfO
 have yhM:=ybb.kp
 have yhN:=ybb.binds (ps:=["fraction","other"]) fun _ _ _ _ _ _=>n2 fun _ _=>rfl
 have yhO:=Z0i X G yhL
 obtain⟨ymE,ymF,yhP,ybc⟩:=yfP
 have yhQ:=ybc.kp
 have yhR:=ybc.binds (ps:=["fraction","number"]) fun _ _ _ _ _ _=>n2 fun _ _=>rfl
 have yhS:=Z0i X G yhP
 obtain⟨ymG,ymH,yhT,ybd⟩:=yfQ
 have yhU:=ybd.kp
 have yhV:=ybd.binds (ps:=["fraction","number"]) fun _ _ _ _ _ _=>n2 fun _ _=>rfl
 have yhW:=Z0i X G yhT
 obtain⟨ymI,ymJ,yhX,ybe⟩:=yfR
 have yhY:=ybe.kp
 have yhZ:=ybe.binds (ps:=["numbers"]) fun _ _ _ _ _ _=>n1 fun _=>rfl
 have yia:=Z0i X G yhX
 obtain⟨ymK,ymL,yib,ybf⟩:=yfS
 have yic:=ybf.kp
 have yid:=ybf.binds (ps:=["most","numbers"]) fun _ _ _ _ _ _=>n2 fun _ _=>rfl
 have yie:=Z0i X G yib
 obtain⟨ymM,ymN,yif,ybg⟩:=yfT
 have yig:=ybg.kp
 have yih:=ybg.binds (ps:=["equation","numbers","amounts"]) fun _ _ _ _ _ _=>n3 fun _ _ _=>rfl
 have yii:=Z0i X G yif
 obtain⟨ymO,ymP,yij,ybh⟩:=yfU
 have yik:=ybh.kp
 have yil:=ybh.binds (ps:=["fractions"]) fun _ _ _ _ _ _=>n1 fun _=>rfl
 have yim:=Z0i X G yij
 obtain⟨ymQ,ymR,yin,ybi⟩:=yfV
 have yio:=ybi.kp
 have yip:=ybi.binds (ps:=["equation","numbers"]) fun _ _ _ _ _ _=>n2 fun _ _=>rfl
 have yiq:=Z0i X G yin
 obtain⟨ydG,ymS,ydH,ydI,yaI⟩:=yfW
 have yir:=yaI.kp
 have ydJ:=yaI.binds (ps:=["self","form"]) fun _ _ _ _ _ _=>n2 fun _ _=>rfl
 have ymT:Meth K yac "__init__" ydG:=⟨ydH,ydI,yir⟩
 obtain⟨yis,ymU,yit,yiu,yaJ⟩:=yfX
 have yiv:=yaJ.kp
 have ydK:=yaJ.binds (ps:=["self","mark"]) fun _ _ _ _ _ _=>n2 fun _ _=>rfl
 have ydL:Meth K yac "expect_mark" yis:=⟨yit,yiu,yiv⟩
 obtain⟨yiw,ymV,yix,yiy,yaK⟩:=yfY
 have yiz:=yaK.kp
 have ydM:=yaK.binds (ps:=["self","size"]) fun _ _ _ _ _ _=>n2 fun _ _=>rfl
 have ydN:Meth K yac "take" yiw:=⟨yix,yiy,yiz⟩
 obtain⟨yiA,ymW,yiB,yiC,ybj⟩:=yfZ
 have yiD:=ybj.kp
 have yax:=ybj.binds (ps:=["self","size","least","most"]) fun _ _ _ _ _ _=>n4 fun _ _ _ _=>rfl
 have yay:Meth K yac "number" yiA:=⟨yiB,yiC,yiD⟩
 obtain⟨yiE,ymX,yiF,yiG,yaL⟩:=yga
 have yiH:=yaL.kp
 have ydO:=yaL.binds (ps:=["self"]) fun _ _ _ _ _ _=>n1 fun _=>rfl
 have ydP:Meth K yac "finish" yiE:=⟨yiF,yiG,yiH⟩
 obtain⟨ydQ,ymY,ydR,ydS,ybk⟩:=ygb
 have yiI:=ybk.kp
 have yiJ:=ybk.binds (ps:=["self","bond","other","order"]) fun _ _ _ _ _ _=>n4 fun _ _ _ _=>rfl
 have ymZ:Meth K yak "__init__" ydQ:=⟨ydR,ydS,yiI⟩
 obtain⟨ydT,yna,ydU,ydV,ybl⟩:=ygc
 have yiK:=ybl.kp
 have yiL:=ybl.binds (ps:=["self","ways","cut"]) fun _ _ _ _ _ _=>n3 fun _ _ _=>rfl
 have ynb:Meth K yaa "__init__" ydT:=⟨ydU,ydV,yiK⟩
 obtain⟨yiM,ync,yiN,yiO,ybm⟩:=ygd
 have yiP:=ybm.kp
 have ydW:=ybm.binds (ps:=["self","atom","before","bond","turn"]) fun _ _ _ _ _ _=>n5 fun _ _ _ _ _=>rfl
 have ydX:Meth K yaa "reach" yiM:=⟨yiN,yiO,yiP⟩
 obtain⟨yiQ,ynd,yiR,yiS,ybn⟩:=yge
 have yiT:=ybn.kp
 have ydY:=ybn.binds (ps:=["self","atom","turn"]) fun _ _ _ _ _ _=>n3 fun _ _ _=>rfl
 have ydZ:Meth K yaa "allow" yiQ:=⟨yiR,yiS,yiT⟩
 obtain⟨yiU,yne,yiV,yiW,ybo⟩:=ygf
 have yiX:=ybo.kp
 have yiY:=ybo.binds (ps:=["self"]) fun _ _ _ _ _ _=>n1 fun _=>rfl
 have yiZ:Meth K yaa "comes_back" yiU:=⟨yiV,yiW,yiX⟩
 obtain⟨yja,ynf,yjb,yjc,ybp⟩:=ygg
 have yjd:=ybp.kp
 have yje:=ybp.binds (ps:=["self","atom","turn"]) fun _ _ _ _ _ _=>n3 fun _ _ _=>rfl
 have yjf:Meth K yaa "goes_on" yja:=⟨yjb,yjc,yjd⟩
 obtain⟨yjg,yng,yjh,yji,ybq⟩:=ygh
 have yjj:=ybq.kp
 have yjk:=ybq.binds (ps:=["self","atom","turn","way"]) fun _ _ _ _ _ _=>n4 fun _ _ _ _=>rfl
 have yjl:Meth K yaa "closes" yjg:=⟨yjh,yji,yjj⟩
 obtain⟨yjm,ynh,yjn,yjo,ybr⟩:=ygi
 have yjp:=ybr.kp
 have yea:=ybr.binds (ps:=["self","atom"]) fun _ _ _ _ _ _=>n2 fun _ _=>rfl
 have yeb:Meth K yaa "base_of" yjm:=⟨yjn,yjo,yjp⟩
 obtain⟨yjq,yni,yjr,yjs,ybs⟩:=ygj
 have yjt:=ybs.kp
 have yec:=ybs.binds (ps:=["self","base"]) fun _ _ _ _ _ _=>n2 fun _ _=>rfl
 have yed:Meth K yaa "base_before" yjq:=⟨yjr,yjs,yjt⟩
 obtain⟨yju,ynj,yjv,yjw,ybt⟩:=ygk
 have yjx:=ybt.kp
 have yjy:=ybt.binds (ps:=["self","base","other"]) fun _ _ _ _ _ _=>n3 fun _ _ _=>rfl
 have yjz:Meth K yaa "meeting_of" yju:=⟨yjv,yjw,yjx⟩
 obtain⟨yjA,ynk,yjB,yjC,ybu⟩:=ygl
 have yjD:=ybu.kp
 have yjE:=ybu.binds (ps:=["self","base","meeting"]) fun _ _ _ _ _ _=>n3 fun _ _ _=>rfl
 have yjF:Meth K yaa "fold" yjA:=⟨yjB,yjC,yjD⟩
 obtain⟨yjG,ynl,yjH,yjI,ybv⟩:=ygm
 have yjJ:=ybv.kp
 have yee:=ybv.binds (ps:=["self","atom"]) fun _ _ _ _ _ _=>n2 fun _ _=>rfl
 have yef:Meth K yaa "allow_both" yjG:=⟨yjH,yjI,yjJ⟩
 obtain⟨ynm,ynn,yjK,ybw⟩:=ygn
 have yjL:=ybw.kp
 have yjM:=ybw.binds (ps:=["count","bonds"]) fun _ _ _ _ _ _=>n2 fun _ _=>rfl
 have yjN:=Z0i X G yjK
 obtain⟨yno,ynp,yjO,ybx⟩:=ygo
 have yjP:=ybx.kp
 have yjQ:=ybx.binds (ps:=["ways","bonds","number"]) fun _ _ _ _ _ _=>n3 fun _ _ _=>rfl
 have yjR:=Z0i X G yjO
 obtain⟨ynq,ynr,yjS,yby⟩:=ygp
 have yjT:=yby.kp
 have yjU:=yby.binds (ps:=["ways","bonds","number","turn"]) fun _ _ _ _ _ _=>n4 fun _ _ _ _=>rfl
 have yjV:=Z0i X G yjS
 obtain⟨yeg,yns,yeh,yei,ybz⟩:=ygq
 have yjW:=ybz.kp
 have yjX:=ybz.binds (ps:=["self","element","isotope","charge","hydrogens","hand"]) fun _ _ _ _ _ _=>n6 fun _ _ _ _ _ _=>rfl
 have ynt:Meth K yad "__init__" yeg:=⟨yeh,yei,yjW⟩
 obtain⟨yej,ynu,yek,yel,ybA⟩:=ygr
 have yjY:=ybA.kp
 have yjZ:=ybA.binds (ps:=["self","a","b","order","side"]) fun _ _ _ _ _ _=>n5 fun _ _ _ _ _=>rfl
 have ynv:Meth K yae "__init__" yej:=⟨yek,yel,yjY⟩
 obtain⟨yem,ynw,yen,yeo,ybB⟩:=ygs
 have yka:=ybB.kp
 have ykb:=ybB.binds (ps:=["self","atoms","bonds"]) fun _ _ _ _ _ _=>n3 fun _ _ _=>rfl
 have ynx:Meth K yal "__init__" yem:=⟨yen,yeo,yka⟩
 obtain⟨yny,ynz,ykc,ybC⟩:=ygt
 have ykd:=ybC.kp
 have yke:=ybC.binds (ps:=["form"]) fun _ _ _ _ _ _=>n1 fun _=>rfl
 have ykf:=Z0i X G ykc
 obtain⟨ynA,ynB,ykg,ybD⟩:=ygu
 have ykh:=ybD.kp
 have yki:=ybD.binds (ps:=["form"]) fun _ _ _ _ _ _=>n1 fun _=>rfl
 have ykj:=Z0i X G ykg
 obtain⟨ynC,ynD,ykk,ybE⟩:=ygv
 have ykl:=ybE.kp
 have ykm:=ybE.binds (ps:=["reader"]) fun _ _ _ _ _ _=>n1 fun _=>rfl
 have ykn:=Z0i X G ykk
 obtain⟨ynE,ynF,yko,ybF⟩:=ygw
 have ykp:=ybF.kp
 have ykq:=ybF.binds (ps:=["reader","atom_count","before"]) fun _ _ _ _ _ _=>n3 fun _ _ _=>rfl
 have ykr:=Z0i X G yko
 obtain⟨ynG,ynH,yks,ybG⟩:=ygx
 have ykt:=ybG.kp
 have yku:=ybG.binds (ps:=["molecule"]) fun _ _ _ _ _ _=>n1 fun _=>rfl
 have ykv:=Z0i X G yks
 obtain⟨ynI,ynJ,ykw,ybH⟩:=ygy
 have ykx:=ybH.kp
 have yky:=ybH.binds (ps:=["molecule","neighbours"]) fun _ _ _ _ _ _=>n2 fun _ _=>rfl
 have ykz:=Z0i X G ykw
 obtain⟨ynK,ynL,ykA,ybI⟩:=ygz
 have ykB:=ybI.kp
 have ykC:=ybI.binds (ps:=["atom","neighbours"]) fun _ _ _ _ _ _=>n2 fun _ _=>rfl
 have ykD:=Z0i X G ykA
 obtain⟨ynM,ynN,ykE,ybJ⟩:=ygA
 have ykF:=ybJ.kp
 have ykG:=ybJ.binds (ps:=["molecule","neighbours"]) fun _ _ _ _ _ _=>n2 fun _ _=>rfl
 have ykH:=Z0i X G ykE
 obtain⟨ynO,ynP,ykI,ybK⟩:=ygB
 have ykJ:=ybK.kp
 have ykK:=ybK.binds (ps:=["molecule","k","neighbours","ways"]) fun _ _ _ _ _ _=>n4 fun _ _ _ _=>rfl
 have ykL:=Z0i X G ykI
 obtain⟨ynQ,ynR,ykM,ybL⟩:=ygC
 have ykN:=ybL.kp
 have ykO:=ybL.binds (ps:=["atom","others"]) fun _ _ _ _ _ _=>n2 fun _ _=>rfl
 have ykP:=Z0i X G ykM
 obtain⟨yep,ynS,yeq,yer,ybM⟩:=ygD
 have ykQ:=ybM.kp
 have ykR:=ybM.binds (ps:=["self","left","right"]) fun _ _ _ _ _ _=>n3 fun _ _ _=>rfl
 have ynT:Meth K yam "__init__" yep:=⟨yeq,yer,ykQ⟩
 obtain⟨ynU,ynV,ykS,ybN⟩:=ygE
 have ykT:=ybN.kp
 have ykU:=ybN.binds (ps:=["form"]) fun _ _ _ _ _ _=>n1 fun _=>rfl
 have ykV:=Z0i X G ykS
 obtain⟨ynW,ynX,ykW,ybO⟩:=ygF
 have ykX:=ybO.kp
 have ykY:=ybO.binds (ps:=["reader"]) fun _ _ _ _ _ _=>n1 fun _=>rfl
 have ykZ:=Z0i X G ykW
 have yes:=fun_mk (st:=Z3y) ydF ygG ygH
 have ynY:=yes.binds (ps:=["sides","numbers","fractions"]) fun _ _ _ _ _ _=>n3 fun _ _ _=>rfl
 have ynZ:=Z0i X G yaX
 obtain⟨yoa,yob,yla,ybP⟩:=ygI
 have ylb:=ybP.kp
 have ylc:=ybP.binds (ps:=["sides","numbers","fractions"]) fun _ _ _ _ _ _=>n3 fun _ _ _=>rfl
 have yld:=Z0i X G yla
 obtain⟨yoc,yod,yle,ybQ⟩:=ygJ
 have ylf:=ybQ.kp
 have ylg:=ybQ.binds (ps:=["tell"]) fun _ _ _ _ _ _=>n1 fun _=>rfl
 have ylh:=Z0i X G yle
 obtain⟨yoe,yof,yli,ybR⟩:=ygK
 have ylj:=ybR.kp
 have ylk:=ybR.binds (ps:=["numbers"]) fun _ _ _ _ _ _=>n1 fun _=>rfl
 have yll:=Z0i X G yli
 obtain⟨yog,yoh,ylm,ybS⟩:=ygL
 have yln:=ybS.kp
 have ylo:=ybS.binds (ps:=["fractions"]) fun _ _ _ _ _ _=>n1 fun _=>rfl
 have ylp:=Z0i X G ylm
 have ylq:=ygM.v X G
 have ylr:=ygN.v X G
 have yls:=ygO.v X G
 have ylt:=ygP.v X G
 have ylu:=ygQ.v X G
 have ylv:=ygR.v X G
 have ylw:=ygS.v X G
 have ylx:=ygT.v X G
 have yly:=ygU.v X G
 have ylz:=ygV.v X G
 have v_UP:=ygW.v X G
 have ylA:=ygX.v X G
 have ylB:=ygY.v X G
 have ylC:=ygZ.v X G
 have ylD:=yha.v X G
 have ylE:=yhb.v X G
 have ylF:=yhc.v X G
 have ylG:=yhd.v X G
 have ylH:=yhe.v X G
 have ylI:=yhf.v X G
 have ylJ:=yhg.v X G
 have ylK:=yhh.v X G
 have ylL:=yhi.v X G
 have ylM:=yhj.v X G
 have ylN:=yhk.v X G
 have ylO:=yhl.v X G
 have ylP:=yhm.v X G
 have ylQ:=yhn.v X G
 have ylR:=yho.v X G
 have ylS:=yhp.v X G
 have ylT:=yhq.v X G
 have ylU:∃ a,mg "MARK_molecules" = some (.ref a)∧∀ H,SqT K H a (([70,75,77,49]:List Int).map V.int):=⟨yaB,Z0i X G yhr,fun H=>.inr ⟨_,_,_,yhs,rfl,rfl,(by show 4≤sizeLine;decide),.cons ⟨_,rfl⟩ (.cons ⟨_,rfl⟩ (.cons ⟨_,rfl⟩ (.cons ⟨_,rfl⟩ (.nil))))⟩⟩
 have ylV:∃ a,mg "BEFORE_ALL" = some (.ref a)∧∀ H,SqT K H a (([0,0]:List Int).map V.int):=⟨yaC,Z0i X G yht,fun H=>.inr ⟨_,_,_,yhu,rfl,rfl,(by show 2≤sizeLine;decide),.cons ⟨_,rfl⟩ (.cons ⟨_,rfl⟩ (.nil))⟩⟩
 have ylW:∃ a,mg "MARK_equations" = some (.ref a)∧∀ H,SqT K H a (([70,75,81,49]:List Int).map V.int):=⟨yaD,Z0i X G yhv,fun H=>.inr ⟨_,_,_,yhw,rfl,rfl,(by show 4≤sizeLine;decide),.cons ⟨_,rfl⟩ (.cons ⟨_,rfl⟩ (.cons ⟨_,rfl⟩ (.cons ⟨_,rfl⟩ (.nil))))⟩⟩
 have ybT:=Z0R X G yhx
 have yaz:=Z0R X G yhy
 have yaM:=Z0R X G yhz
 have ylX:=Z0R X G yhA
 have ylY:=Z0R X G yhB
 have ylZ:Cls K yac:=⟨yan.2.1.1,yan.2.1.2.1,yan.2.1.2.2.1,yan.2.1.2.2.2⟩
 have yma:=Z0i X G yan.1
 have yet:Mk K yac ydG:=⟨yan.2.2.1,ydH,ydI,yan.2.2.2⟩
 have ymb:Cls K yak:=⟨yao.2.1.1,yao.2.1.2.1,yao.2.1.2.2.1,yao.2.1.2.2.2⟩
 have ymc:=Z0i X G yao.1
 have ymd:Mk K yak ydQ:=⟨yao.2.2.1,ydR,ydS,yao.2.2.2⟩
 have yme:Cls K yaa:=⟨yap.2.1.1,yap.2.1.2.1,yap.2.1.2.2.1,yap.2.1.2.2.2⟩
 have ymf:=Z0i X G yap.1
 have ymg:Mk K yaa ydT:=⟨yap.2.2.1,ydU,ydV,yap.2.2.2⟩
 have ymh:Cls K yad:=⟨yaq.2.1.1,yaq.2.1.2.1,yaq.2.1.2.2.1,yaq.2.1.2.2.2⟩
 have ymi:=Z0i X G yaq.1
 have ymj:Mk K yad yeg:=⟨yaq.2.2.1,yeh,yei,yaq.2.2.2⟩
 have ymk:Cls K yae:=⟨yar.2.1.1,yar.2.1.2.1,yar.2.1.2.2.1,yar.2.1.2.2.2⟩
 have yml:=Z0i X G yar.1
 have ymm:Mk K yae yej:=⟨yar.2.2.1,yek,yel,yar.2.2.2⟩
 have ymn:Cls K yal:=⟨yas.2.1.1,yas.2.1.2.1,yas.2.1.2.2.1,yas.2.1.2.2.2⟩
 have ymo:=Z0i X G yas.1
 have ymp:Mk K yal yem:=⟨yas.2.2.1,yen,yeo,yas.2.2.2⟩
 have ymq:Cls K yam:=⟨yat.2.1.1,yat.2.1.2.1,yat.2.1.2.2.1,yat.2.1.2.2.2⟩
 have ymr:=Z0i X G yat.1
 have yms:Mk K yam yep:=⟨yat.2.2.1,yeq,yer,yat.2.2.2⟩
 have yeu:=Z0i X G yex
 have xc:XC K yab yag ["rule","place","which"]:=⟨⟨_,_,yah,_,_,_,_,_,_,_,_,_,_,_,yey,yez,yeB,yeC,yeD,yeE,fun f hf=>by
  simp only [Z0e,Z0y,or_false]at hf
  rcases hf with rfl |rfl |rfl
  ·exact yeF
  ·exact yeG
  ·exact yeH⟩,fun f hf=>noX f (by simpa using hf),ydD,yeA⟩
 have xin:XInit K yab yag "rule" "place" "which" 0:=⟨xc,⟨_,Z3t,_,_,yaR,⟨_,_,_,_,_,_,_,_,_,rfl,yfI,yfJ⟩,scFI,
  fun s us X hl=>match us,(show us.length=4 by simpa using hl)with |[_,_,_,_],_=>PySem.W.binds_K X rfl ydE rfl rfl rfl,
  fun s us X hl=>match us,(show us.length=3 by simpa using hl)with |[_,_,_],_=>PySem.W.binds_K X rfl ydE rfl rfl rfl,bodyFI,fun x hx=>by
  simp only [Z0e,Z0y,or_false]at hx
  rcases hx with rfl |rfl |rfl |rfl<;>rfl⟩,sw_all,by decide,by decide,by decide⟩
 have xg:XG K yab:=⟨yeJ,yeK,yeL,yeM⟩
 have yaN:=Z0i X G yeN
 have yaO:XP K yai:=⟨⟨_,_,yau,_,_,_,_,_,_,_,_,_,_,_,yeO,yeP,yeR⟩,yeQ⟩
 have ymt:=Z0i X G yeS
 have ymu:XP K yaf:=⟨⟨_,_,yav,_,_,_,_,_,_,_,_,_,_,_,yeT,yeU,yeW⟩,yeV⟩
 have yev:=Z0i X G yeX
 have yew:XP K yaj:=⟨⟨_,_,yaw,_,_,_,_,_,_,_,_,_,_,_,yeY,yeZ,yfb⟩,yfa⟩
 have TA:TA4 K mg yab yai yaf yaj yag:=⟨xc,yaO,ymu,yew,yeu,yaN,ymt,yev,yfc,yfd,yff,yfe,yfg,yfh,xg,ydB,ydC,yeI,ylP,ylQ,ylR,ylS,ylT⟩
 refine⟨PySem.W.fnOf "most" "most" (Z3m Z3y) (Z2F Z3y) (Z2r Z3y) .none yaT yaU yaV yaS yaE yaW,c0,PT,ht,fun s us hu=>match us,hu with |[_,_,_],_=>.of_eq rfl,fun base hKb hGb hC hB=>?_⟩
 have T:TR K mg yab yac yag:=⟨xin,ylZ,yfi,yfj,yeu,yma,yaz,ylX,ylr,yls,ylv,ylx⟩
 have B:TM K mg:=⟨yaM,ybT,ylU,ylV,yly,ylz,ylC,ylD,ylE,ylF,ylG,ylH,ylI,ylt,ylu,ylw,ylJ,ylK,ylL⟩
 have TAt:TA_ K yad:=⟨ymh,yfu,yfv,yfw,yfx,yfy⟩
 have TBo:TBd K yae:=⟨ymk,yfz,yfA,yfB,yfC⟩
 have TMl:TMo K yal:=⟨ymn,yfD,yfE⟩
 have TSe:TS7 K mg yaa:=⟨yme,yfn,yfo,yfp,yfq,yfr,yfs,yft,v_UP,ylA,ylB⟩
 have TWa:TW K yak:=⟨ymb,yfk,yfl,yfm⟩
 refine okD yes (code_tab ht yaX ydF) dsMost hC hB ylh ylf ylg (fun base f fd cl cd vs hK hG L=>?_) rfl
 have GN:=okNum (P:=P) (w:=w) (base:=base) ybj T (okTake yaK T) ydN ydM
 have GPa:=okParts (P:=P) (w:=w) (base:=base) ybD T B TBo yet (okRI yaI T) ydJ (okMark yaJ T) ydL ydK GN yay yax
  (okFin yaL T) ydP ydO (okAtom ybE T B GN yay yax ymj ymi (okAI ybz TAt) yjX) ykn ykl ykm
  (okBnd ybF T B GN yay yax ymm yml (okBI ybA TBo) yjZ) ykr ykp ykq ymp ymo (okMI ybB TMl) ykb
 have Gal:=okAllow (P:=P) (w:=w) (base:=base) ybn TSe
 have Gbt:=okBoth (P:=P) (w:=w) (base:=base) ybv TSe Gal ydZ ydY
 have Gre:=okReach (P:=P) (w:=w) (base:=base) ybm TSe Gal ydZ ydY
 have Gba:=okBase (P:=P) (w:=w) (base:=base) ybr TSe
 have Gbe:=okBef (P:=P) (w:=w) (base:=base) ybs TSe Gba yeb yea
 have Gme:=okMeet (P:=P) (w:=w) (base:=base) ybt TSe Gbe yed yec
 have Gfo:=okFold (P:=P) (w:=w) (base:=base) ybu TSe Gbe yed yec Gbt yef yee
 have Gcl:=okClose (P:=P) (w:=w) (base:=base) ybq TSe TWa Gre ydX ydW Gba yeb yea Gme yjz yjy Gfo yjF yjE Gbt yef yee
 have Ggo:=okGoes (P:=P) (w:=w) (base:=base) ybp TSe TWa Gcl yjl yjk
 have Gbk:=okBack (P:=P) (w:=w) (base:=base) ybo TSe Ggo yjf yje
 have Gcg:=okGo (P:=P) (w:=w) (base:=base) yby TSe TBo ymg ymf (okSI ybl TSe) yiL Gre ydX ydW Gbk yiZ yiY
 have Gfx:=okFix (P:=P) (w:=w) (base:=base) ybx TSe Gcg yjV yjT yjU
 have Gwa:=okWays (P:=P) (w:=w) (base:=base) ybw TBo ymd ymc yaM ybT (okWI ybk TSe TWa) yiJ
 have Gsd:=okSide (P:=P) (w:=w) (base:=base) ybK TMl TAt TBo (okEnd ybL TAt) ykP ykN ykO Gfx yjR yjP yjQ
 have Gss:=okSides (P:=P) (w:=w) (base:=base) ybJ T B TMl TBo Gsd ykL ykJ ykK Gwa yjN yjL yjM
 have Ghs:=okHands (P:=P) (w:=w) (base:=base) (CB:=yae) ybH T B TMl TAt (okHand ybI TAt) ykD ykB ykC
 have Gmo:=okMol (P:=P) (w:=w) (base:=base) ybC GPa ykj ykh yki (okNb ybG TMl TBo) ykv ykt yku Ghs ykz ykx yky Gss ykH ykF ykG
 have TQq:TQ K yam:=⟨ymq,yfF,yfG⟩
 have Gme':=okMem (P:=P) (w:=w) (base:=base) ybO T xg ydB ydC ylN ylO (weakX GN) yay yax (weakX (okTake yaK T)) ydN ydM Gmo ykf ykd yke
 have Geq:=okEq (P:=P) (w:=w) (base:=base) ybN T yaM ylW ylM yet (okRI yaI T) ydJ (weakX (okMark yaJ T)) ydL ydK (weakX GN) yay yax
  (weakX (okFin yaL T)) ydP ydO Gme' ykZ ykX ykY yms ymr (okQI ybM TQq) ykR
 have Glo:=okLow (P:=P) (w:=w) (base:=base) yaZ (okGcd yaY) yhF yhD yhE
 have Gmo':=okMost (P:=P) (w:=w) (base:=base) (CA:=yad) (CB:=yae) (CM:=yal) ybg TQq yaO yaN yaz ylY (okOver ybd Glo yaH yaF yaG) yhW yhU yhV (okTimes ybc Glo yaH yaF yaG) yhS yhQ yhR (okMinus ybb Glo yaH yaF yaG) yhO yhM yhN
  (okFst ybh ybT (okBelow yba) yhK yhI yhJ) yim yik yil
 have Gfr:=okFrow (P:=P) (w:=w) (base:=base) ybS ylq (okAbove ybf yew yev) yie yic yid (okRow ybR yaz) yll ylj ylk
 have Gte:=okTell (P:=P) (w:=w) (base:=base) (CN:=yaf) ybP Geq ykV ykT ykU (weakX (okRefuse ybi TQq yaO yaN yaz)) yiq yio yip
  (weakX (okPair ybe yaO yaN yaz yaM Glo yaH yaF yaG)) yia yhY yhZ (weakX Gmo') yii yig yih (weakX Gfr) ylp yln ylo
 exact okAns ybQ TA (okLam L Gte yld ylb ylc) (fnAt_lam L) (bind_lam dsMost L) (fun _ _ _=>ZaT)
end BK
open PySem PySem.W PyProof.Rows
set_option maxRecDepth 100000 in
set_option maxHeartbeats 0 in
theorem PySem.Challenge.cw_wholeamounts_s10_most_holds : PySem.Challenge.rw_wholeamounts_s10_most.Holds := by
 refine PySem.W.holds_os (r:=PySem.Challenge.rw_wholeamounts_s10_most) (q:=BK.qV) (loose:=BK.lO) (Xt:=BK.XT) (XP:=PySem.W.XL BK.qV []) (Yf:=BK.HK.obs) (Ya:=BK.HK.val) (YP:=BK.HK.says) (N:=8642) BK.left BK.HK.of BK.HK.keeps (fun s e=>PySem.W.xl_of s (Z1h.mp e).1) PySem.W.XL.keeps (by rfl) (by rfl) (by rfl)
  (fun s e=>PySem.W.recFacts_of (Z1h.mp e).2) PySem.W.os_shapes (by decide +kernel) (by decide +kernel) ⟨rfl,rfl,rfl,rfl,rfl,by decide +kernel⟩ ⟨[.list [],.list [],.list []],by decide +kernel,by decide +kernel⟩ ?hc
 refine LM.Zbv (r:=PySem.Challenge.rw_wholeamounts_s10_most) (k:=17) (K:=HD.KF) (CX:=L2.CX0) (ps:=["sides","numbers","fractions"]) (sp:=fun K PT=>BK.spD PT [0,1,2] (BK.preM K) BK.mostF) (by decide +kernel) rfl rfl ⟨rfl,by decide,by decide⟩ ?R (fun w h Y=>PySem.W.kIn_of Y) ?T ?F ?S (fun _ _ _ _ z=>z)
 case R=>first |rfl |kernel_rfl |decide +kernel
 case T=>intro w;first |rfl |kernel_rfl |decide +kernel
 case F =>
  intro w mg fa h Y KX G hmg
  open BK in
  exact BK.all_mk (fa:=fa) (c0:=500) (PT:=496) (yab:=32) (ybU:="Fault") (ybV:="Fault") (yah:=31) (ybW:=[(.type "Exception")]) (ybX:=[]) (ybY:=[]) (ybZ:=false) (yca:=none) (ycb:=none) (ycc:=(some (.ref 15))) (ycd:=none) (yce:=(some (.str "Fault" 189))) (ycf:=(some (.str "Fault" 197))) (ycg:=(some (.bool true))) (yai:=45) (ych:="WrongNumbers") (yci:="WrongNumbers") (yau:=44) (ycj:=[(.type "Exception")]) (yck:=[]) (ycl:=[]) (ycm:=false) (ycn:=none) (yco:=none) (ycp:=(some (.ref 36))) (ycq:=none) (ycr:=(some (.str "WrongNumbers" 223))) (ycs:=(some (.str "WrongNumbers" 231))) (yct:=(some (.bool true))) (yaf:=58) (ycu:="NotThere") (ycv:="NotThere") (yav:=57) (ycw:=[(.type "Exception")]) (ycx:=[]) (ycy:=[]) (ycz:=false) (ycA:=none) (ycB:=none) (ycC:=(some (.ref 49))) (ycD:=none) (ycE:=(some (.str "NotThere" 243))) (ycF:=(some (.str "NotThere" 251))) (ycG:=(some (.bool true))) (yaj:=71) (ycH:="TooGreat") (ycI:="TooGreat") (yaw:=70) (ycJ:=[(.type "Exception")]) (ycK:=[]) (ycL:=[]) (ycM:=false) (ycN:=none) (ycO:=none) (ycP:=(some (.ref 62))) (ycQ:=none) (ycR:=(some (.str "TooGreat" 263))) (ycS:=(some (.str "TooGreat" 271))) (ycT:=(some (.bool true))) (yac:=194) (yak:=215) (yaa:=306) (yad:=348) (yae:=369) (yal:=390) (yam:=478) (yag:=29) (ycU:=none) (ycV:=none) (ycW:=#[]) (ycX:=(.type "function")) (ycY:=.none) (ycZ:=.none) (yda:=(.str "wholeamounts.refusals" 187)) (yaQ:=(.ref 28)) (ydb:=.none) (yaP:=22) (ydc:=none) (ydd:=0) (yde:=#[]) (yaR:=201) (yaA:=501) (ydf:=none) (yaS:=none) (ydg:=#[]) (ydh:=(.type "function")) (yaT:=.none) (yaU:=.none) (yaV:=(.str "wholeamounts.desk" 965)) (yaE:=(.ref 500)) (yaW:=.none) (yaB:=330) (ydi:=none) (ydj:=0) (ydk:=#[]) (ydl:=676) (ydm:=677) (ydn:=678) (ydo:=679) (yaC:=331) (ydp:=none) (ydq:=0) (ydr:=#[]) (yds:=701) (ydt:=702) (yaD:=461) (ydu:=none) (ydv:=0) (ydw:=#[]) (ydx:=906) (ydy:=907) (ydz:=908) (ydA:=909) KX G hmg (by kernel_rfl) (by kernel_rfl) (by kernel_rfl) (by kernel_rfl) (by kernel_rfl) (by kernel_rfl) (by kernel_rfl) (by kernel_rfl) (by kernel_rfl) (show _=_ by kernel_rfl) (by kernel_rfl) (show _=_ by kernel_rfl) (by kernel_rfl) (show _=_ by kernel_rfl) (by kernel_rfl) (by kernel_rfl) (by kernel_rfl) (by kernel_rfl) (by kernel_rfl) (by kernel_rfl) (by kernel_rfl) (by kernel_rfl) (by kernel_rfl) (by kernel_rfl) (by kernel_rfl) (by kernel_rfl) (by kernel_rfl) (by kernel_rfl) (by kernel_rfl) (by kernel_rfl) (by kernel_rfl) (by kernel_rfl) (by kernel_rfl) (by decide) (by decide) (by decide) (by decide) (by decide) (by decide) (ck (by kernel_rfl)) (show _=_ by kernel_rfl) (show _=_ by kernel_rfl) (ck (by kernel_rfl)) (show _=_ by kernel_rfl) (show _=_ by kernel_rfl) (show _=_ by kernel_rfl) (ck (by kernel_rfl)) (show _=_ by kernel_rfl) (show _=_ by kernel_rfl) (show _=_ by kernel_rfl) (show _=_ by kernel_rfl) (show _=_ by kernel_rfl) (show _=_ by kernel_rfl) (show _=_ by kernel_rfl) (ck (by kernel_rfl)) (show _=_ by kernel_rfl) (show _=_ by kernel_rfl) (show _=_ by kernel_rfl) (show _=_ by kernel_rfl) (show _=_ by kernel_rfl) (ck (by kernel_rfl)) (show _=_ by kernel_rfl) (show _=_ by kernel_rfl) (show _=_ by kernel_rfl) (show _=_ by kernel_rfl) (ck (by kernel_rfl)) (show _=_ by kernel_rfl) (show _=_ by kernel_rfl) (ck (by kernel_rfl)) (show _=_ by kernel_rfl) (show _=_ by kernel_rfl) (by kernel_rfl) (by kernel_rfl) (by kernel_rfl) (by kernel_rfl) (by kernel_rfl) (by kernel_rfl) (gk 81 "wholeamounts.terms" 283 80 (by kernel_rfl)) (gk 88 "wholeamounts.terms" 283 87 (by kernel_rfl)) (gk 95 "wholeamounts.terms" 283 94 (by kernel_rfl)) (gk 102 "wholeamounts.terms" 283 101 (by kernel_rfl)) (gk 109 "wholeamounts.terms" 283 108 (by kernel_rfl)) (gk 116 "wholeamounts.terms" 283 115 (by kernel_rfl)) (gk 123 "wholeamounts.terms" 283 122 (by kernel_rfl)) (gk 130 "wholeamounts.terms" 283 129 (by kernel_rfl)) (gk 135 "wholeamounts.amounts" 355 134 (by kernel_rfl)) (gk 142 "wholeamounts.amounts" 355 141 (by kernel_rfl)) (gk 149 "wholeamounts.balance" 373 148 (by kernel_rfl)) (mk 163 "wholeamounts.reading" 383 162 (by kernel_rfl)) (mk 170 "wholeamounts.reading" 383 169 (by kernel_rfl)) (mk 177 "wholeamounts.reading" 383 176 (by kernel_rfl)) (mk 184 "wholeamounts.reading" 383 183 (by kernel_rfl)) (mk 191 "wholeamounts.reading" 383 190 (by kernel_rfl)) (mk 212 "wholeamounts.redrawing" 472 211 (by kernel_rfl)) (mk 233 "wholeamounts.redrawing" 472 232 (by kernel_rfl)) (mk 240 "wholeamounts.redrawing" 472 239 (by kernel_rfl)) (mk 247 "wholeamounts.redrawing" 472 246 (by kernel_rfl)) (mk 254 "wholeamounts.redrawing" 472 253 (by kernel_rfl)) (mk 261 "wholeamounts.redrawing" 472 260 (by kernel_rfl)) (mk 268 "wholeamounts.redrawing" 472 267 (by kernel_rfl)) (mk 275 "wholeamounts.redrawing" 472 274 (by kernel_rfl)) (mk 282 "wholeamounts.redrawing" 472 281 (by kernel_rfl)) (mk 289 "wholeamounts.redrawing" 472 288 (by kernel_rfl)) (mk 296 "wholeamounts.redrawing" 472 295 (by kernel_rfl)) (mk 303 "wholeamounts.redrawing" 472 302 (by kernel_rfl)) (gk 315 "wholeamounts.redrawing" 472 314 (by kernel_rfl)) (gk 322 "wholeamounts.redrawing" 472 321 (by kernel_rfl)) (gk 329 "wholeamounts.redrawing" 472 328 (by kernel_rfl)) (mk 345 "wholeamounts.molecules" 674 344 (by kernel_rfl)) (mk 366 "wholeamounts.molecules" 674 365 (by kernel_rfl)) (mk 387 "wholeamounts.molecules" 674 386 (by kernel_rfl)) (gk 401 "wholeamounts.molecules" 674 400 (by kernel_rfl)) (gk 406 "wholeamounts.molecules" 674 405 (by kernel_rfl)) (gk 413 "wholeamounts.molecules" 674 412 (by kernel_rfl)) (gk 420 "wholeamounts.molecules" 674 419 (by kernel_rfl)) (gk 425 "wholeamounts.molecules" 674 424 (by kernel_rfl)) (gk 432 "wholeamounts.molecules" 674 431 (by kernel_rfl)) (gk 439 "wholeamounts.molecules" 674 438 (by kernel_rfl)) (gk 446 "wholeamounts.molecules" 674 445 (by kernel_rfl)) (gk 453 "wholeamounts.molecules" 674 452 (by kernel_rfl)) (gk 460 "wholeamounts.molecules" 674 459 (by kernel_rfl)) (mk 475 "wholeamounts.equations" 904 474 (by kernel_rfl)) (gk 487 "wholeamounts.equations" 904 486 (by kernel_rfl)) (gk 494 "wholeamounts.equations" 904 493 (by kernel_rfl)) (by kernel_rfl) (by kernel_rfl) (by kernel_rfl) (by kernel_rfl) (gk 508 "wholeamounts.desk" 965 507 (by kernel_rfl)) (gk 515 "wholeamounts.desk" 965 514 (by kernel_rfl)) (gk 522 "wholeamounts.desk" 965 521 (by kernel_rfl)) (gk 529 "wholeamounts.desk" 965 528 (by kernel_rfl)) ⟨285,(by kernel_rfl)⟩ ⟨385,(by kernel_rfl)⟩ ⟨387,(by kernel_rfl)⟩ ⟨389,(by kernel_rfl)⟩ ⟨391,(by kernel_rfl)⟩ ⟨393,(by kernel_rfl)⟩ ⟨395,(by kernel_rfl)⟩ ⟨397,(by kernel_rfl)⟩ ⟨399,(by kernel_rfl)⟩ ⟨401,(by kernel_rfl)⟩ ⟨474,(by kernel_rfl)⟩ ⟨477,(by kernel_rfl)⟩ ⟨480,(by kernel_rfl)⟩ ⟨681,(by kernel_rfl)⟩ ⟨683,(by kernel_rfl)⟩ ⟨685,(by kernel_rfl)⟩ ⟨687,(by kernel_rfl)⟩ ⟨689,(by kernel_rfl)⟩ ⟨691,(by kernel_rfl)⟩ ⟨693,(by kernel_rfl)⟩ ⟨695,(by kernel_rfl)⟩ ⟨697,(by kernel_rfl)⟩ ⟨699,(by kernel_rfl)⟩ ⟨911,(by kernel_rfl)⟩ ⟨913,(by kernel_rfl)⟩ ⟨915,(by kernel_rfl)⟩ ⟨967,(by kernel_rfl)⟩ ⟨970,(by kernel_rfl)⟩ ⟨973,(by kernel_rfl)⟩ ⟨976,(by kernel_rfl)⟩ ⟨979,(by kernel_rfl)⟩ (by kernel_rfl) (by kernel_rfl) (by kernel_rfl) (by kernel_rfl) (by kernel_rfl) (by kernel_rfl) (by kernel_rfl) (by kernel_rfl) (by kernel_rfl) (by kernel_rfl) (by kernel_rfl) (by kernel_rfl)
 case S =>
  intro K PT H xs a hP hwi hask hx
  cases hx with
  |cons h0 hx =>
   cases hx with
   |cons h1 hx =>
    cases hx with
    |cons h2 h3 =>
     cases h3
     cases h0 with
     |lst hs0 ha0 =>
      cases h1 with
      |lst hs ha =>
       cases h2 with
       |lst hs2 ha2 =>
        have e:=L2.Zbt a.1 _ ha0
        subst e
        have e:=L2.Zbt a.2.1 _ ha
        subst e
        have e:=L2.Zbt a.2.2.1 _ ha2
        subst e
        have q:((Codec.inLen 0 30000 a.1&&a.1.all (Codec.inInt 0 255))&&((Codec.inLen 0 100 a.2.1&&a.2.1.all (Codec.inInt 0 18446744073709551615))&&((Codec.inLen 0 200 a.2.2.1&&a.2.2.1.all (Codec.inInt 0 18446744073709551615))&&true)))=true:=hwi
        simp only [Z0B]at q
        have hb:∀ x∈a.1,0≤x∧x≤255:=fun x hx=>Codec.inInt_iff.mp (Z0J.mp q.1.2 x hx)
        have hn:∀ x∈a.2.1,0≤x∧x≤18446744073709551615:=fun x hx=>Codec.inInt_iff.mp (Z0J.mp q.2.1.2 x hx)
        have hf:∀ x∈a.2.2.1,0≤x∧x≤18446744073709551615:=fun x hx=>Codec.inInt_iff.mp (Z0J.mp q.2.2.1.2 x hx)
        have hl:a.2.1.length≤100:=by have z:=q.2.1.1;simp [Codec.inLen,Codec.inNat]at z;omega
        have hl2:a.2.2.1.length≤200:=by have z:=q.2.2.1.1;simp [Codec.inLen,Codec.inNat]at z;omega
        have ef:BK.mostF (a.1,a.2.1.map Int.toNat,a.2.2.1.map Int.toNat)=PyYqfkea.most a.1 a.2.1 a.2.2.1:=by
         unfold BK.mostF
         rw [BK.Zbz fun x hx=>(hn x hx).1,BK.Zbz fun x hx=>(hf x hx).1]
        refine⟨rfl,L2.Z2n,(a.1,a.2.1.map Int.toNat,a.2.2.1.map Int.toNat),_,rfl,fun j i v e1 e2=>?_,fun more=>⟨_,_,_,rfl,BK.sq_tbl hP hs0,BK.sq_num (fun x hx=>(hn x hx).1) hP hs,BK.sq_num (fun x hx=>(hf x hx).1) hP hs2,hb,BK.toNat_lt hn,BK.toNat_lt hf,?_⟩,?_,fun H' p hp=>?_⟩
        ·match j,e1,e2 with
         |0,e1,e2=>cases e1;exact e2
         |1,e1,e2=>cases e1;exact e2
         |2,e1,e2=>cases e1;exact e2
         |j+3,e1,e2=>simp at e1
        ·rw [Z0b];omega
        ·have:=BK.Zbx (x:=(a.1,a.2.1.map Int.toNat,a.2.2.1.map Int.toNat)) (by rw [Z0b];exact hl)
         rw [←SP.ZbA (x:=(a.1,a.2.1.map Int.toNat,a.2.2.1.map Int.toNat)) hb]at this
         exact this
        ·have hp':H' p=some (L2.HO.lst ((BK.mostF (a.1,a.2.1.map Int.toNat,a.2.2.1.map Int.toNat)).map L2.V.int)):=hp
         rw [ef]at hp'
         exact .lst (L2.SqL.of hp') (L2.Zbs _)
#print axioms PySem.Challenge.cw_wholeamounts_s10_most_holds
end
