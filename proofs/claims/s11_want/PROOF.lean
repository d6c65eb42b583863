import PyProof.Rows.All
import Wide.All
import OpenK.AllK
import Wide.FinOn
import Open.Tree
import OpenK.KWalk
import KE.OsHead
import PyProof.EqAt
import PyProof.EqKinds
import PyProof.TupleCall
import KE.BitLaws
import Open.SpecLaws
import KE.OsGo
import PyProof.ExcInit
import PyProof.InstStoreFacts
import PyProof.ExcBaseAll.Exception
import PyProof.ExcArgsOwn
import PyProof.RulesAs
import PyProof.StationsW
import PyProof.ExcAttrAll.Exception
import PyProof.Rows.MatchSeqLen
import KE.KLam
import PySem.Challenge.RW_wholeamounts_s11_want
set_option Elab.async false
set_option linter.all false
set_option maxRecDepth 100000
abbrev Z0a:=@PySem.W.Frag
abbrev Z0b:=@List.lookup_cons
abbrev Z0c:=@List.length_map
abbrev Z0d:=@List.mem_cons
abbrev Z0e:=@Nat.le_refl
abbrev Z0f:=@List.mem_cons_of_mem
abbrev Z0g:=@List.mem_cons_self
abbrev Z0h:=@PySem.Heap.lt_size
abbrev Z0i:=@List.mem_singleton
abbrev Z0j:=@PySem.W.mg_of
abbrev Z0k:=@List.mem_append
abbrev Z0l:=@List.getElem?_eq_getElem
abbrev Z0m:=@PySem.Heap.get?_push_of_some
abbrev Z0n:=@List.getElem?_map
abbrev Z0o:=@Nat.ne_of_lt
abbrev Z0p:=@List.getElem?_eq_some_iff
abbrev Z0q:=@Nat.zero_le
abbrev Z0r:=@List.size_toArray
abbrev Z0s:=@List.length_cons
abbrev Z0t:=@Bool.false_ne_true
abbrev Z0u:=@Nat.lt_irrefl
abbrev Z0v:=@Nat.lt_of_lt_of_le
abbrev Z0w:=@List.not_mem_nil
abbrev Z0x:=@Nat.le_trans
abbrev Z0y:=@Bool.and_eq_true
abbrev Z0z:=@List.mem_of_getElem?
abbrev Z0A:=@List.length_append
abbrev Z0B:=@List.map_cons
abbrev Z0C:=@PySem.Heap.get?_push_size
abbrev Z0D:=@List.map_append
abbrev Z0E:=@List.getD_eq_getElem?_getD
abbrev Z0F:=@Int.toNat_of_nonneg
abbrev Z0G:=@List.append_nil
abbrev Z0H:=@PySem.Heap.get?_update_other
abbrev Z0I:=@PySem.Heap.size_push
abbrev Z0J:=@List.mem_append_right
abbrev Z0K:=@List.mem_append_left
abbrev Z0L:=@List.nodup_cons
abbrev Z0M:=@PySem.Heap.get?_update_self
abbrev Z0N:=@List.mem_map
abbrev Z0O:=@Nat.lt_trans
abbrev Z0P:=@PySem.W.ns_none_of
abbrev Z0Q:=@List.length_nil
abbrev Z0R:=@List.all_eq_true
abbrev Z0S:=@Array.getElem?_eq_some_iff
abbrev Z0T:=@Nat.sub_self
abbrev Z0U:=@Nat.le_of_eq
abbrev Z0V:=@PySem.W.callWith_K
abbrev Z0W:=@List.getElem?_append_left
abbrev Z0X:=@List.find?_cons
abbrev Z0Y:=@List.getElem_mem
abbrev Z0Z:=@List.length_range
abbrev Z1a:=@Bool.and_eq_true_iff
abbrev Z1b:=@List.filterMap_cons
abbrev Z1c:=@List.length_take
abbrev Z1d:=@List.any_cons
abbrev Z1e:=@Option.map_some
abbrev Z1f:=@Nat.sub_zero
abbrev Z1g:=@PySem.F.plainAttrs_list
abbrev Z1h:=@List.nodup_append
abbrev Z1i:=@List.getElem?_eq_none_iff
abbrev Z1j:=@List.mem_range
abbrev Z1k:=@Nat.le_of_lt
abbrev Z1l:=@PySem.Heap.get?_none_of_le
abbrev Z1m:=@List.getElem?_set_self
abbrev Z1n:=@Nat.ne_of_gt
abbrev Z1o:=@List.length_drop
abbrev Z1p:=@Nat.lt_succ_of_lt
abbrev Z1q:=@List.take_succ
abbrev Z1r:=@List.take_length
abbrev Z1s:=@List.filter_cons_of_pos
abbrev Z1t:=@List.filter_cons_of_neg
abbrev Z1u:=@List.foldl_cons
abbrev Z1v:=@List.getElem?_set_ne
abbrev Z1w:=@Bool.eq_iff_iff
abbrev Z1x:=@Nat.lt_succ_self
abbrev Z1y:=@List.of_mem_zip
abbrev Z1z:=@List.getElem?_append_right
abbrev Z1A:=@Nat.le_of_succ_le
abbrev Z1B:=@List.nodup_nil
abbrev Z1C:=@List.contains_cons
abbrev Z1D:=@List.nil_append
abbrev Z1E:=@List.eq_nil_of_length_eq_zero
abbrev Z1F:=@PySem.F.slot_list_append
abbrev Z1G:=@PySem.F.type_list_append
abbrev Z1H:=@Option.getD_some
abbrev Z1I:=@Nat.pos_of_ne_zero
abbrev Z1J:=@Array.length_toList
abbrev Z1K:=@Option.map_eq_some_iff
abbrev Z1L:=@PySem.W.plainGet_of
abbrev Z1M:=@PySem.W.looks_findIn
abbrev Z1N:=@PySem.W.methodCall_KW
abbrev Z1O:=@List.length_replicate
abbrev Z1P:=@List.length_singleton
abbrev Z1Q:=@PySem.F.store_Exception
abbrev Z1R:=@List.drop_eq_getElem_cons
abbrev Z1S:=@Int.mul_le_mul_of_nonneg_left
abbrev Z1T:=@List.map_congr_left
abbrev Z1U:=@Nat.gcd_pos_of_pos_right
section
namespace HT
open PySem PySem.W
def runT(tb:String→Option Builtin)(p:Program)(w:World)(n₀:Nat)(ann:Option Value):Nat→SharedT→Thread→Option SharedT
 |0,_,_=>none
 |n+1,s,t=>match through t with
  |true=>some s
  |false=>match stepOk n₀ ann t with
   |false=>none
   |true=>match stepT (denote tb) p w s t with
    |some (s',t')=>runT tb p w n₀ ann n s' t'
    |none=>none
theorem Z9y{tb:String→Option Builtin}{p:Program}{w:World}{n₀:Nat}{ann:Option Value}:∀ {n:Nat}{s s':SharedT}{t:Thread},runT tb p w n₀ ann n s t=some s'→topRun tb p w n₀ ann n s.abs t=some s'.abs
 |0,_,_,_,h=>by cases h
 |n+1,s,s',t,h=>by
  unfold runT at h
  unfold topRun
  cases ht:through t with
  |true=>rw [ht]at h;cases h;rfl
  |false =>
   rw [ht]at h
   cases hk:stepOk n₀ ann t with
   |false=>rw [hk]at h;cases h
   |true =>
    rw [hk]at h
    cases hs:stepT (denote tb) p w s t with
    |none=>rw [hs]at h;cases h
    |some r=>obtain⟨s₂,t₂⟩:=r;rw [hs]at h;rw [stepT_spec hs];exact Z9y h
def Z4J:List Obj→Nat→BT→BT
 |[],_,t=>t
 |o::l,n,t=>Z4J l (n+1) (t.ins n o)
def insOk:List Obj→Nat→BT→Bool
 |[],_,_=>true
 |o::l,n,t=>((t.ins n o).get n).isSome&&insOk l (n+1) (t.ins n o)
theorem Z6T{life:Life}:∀ (l:List Obj)(n:Nat)(t:BT),insOk l n t=true→absHeap (Z4J l n t) (n+l.length) life=l.foldl Heap.push (absHeap t n life)
 |[],n,t,_=>rfl
 |o::l,n,t,h=>by
  unfold insOk at h
  obtain⟨h1,h2⟩:=Z1a.mp h
  have e:=Z6T (life:=life) l (n+1) (t.ins n o) h2
  rw [absHeap_ins h1]at e
  show absHeap (Z4J l (n+1) (t.ins n o)) (n+(l.length+1)) life=_
  rw [show n+(l.length+1)=n+1+l.length by omega,e]
  rfl
theorem Z8z{life:Life}:∀ (l:List Obj)(a:Array Obj),l.foldl Heap.push ⟨a,life⟩=⟨a++l.toArray,life⟩
 |[],a=>by simp
 |o::l,a=>by
  rw [Z1u]
  show l.foldl Heap.push ⟨a.push o,life⟩=_
  rw [Z8z l (a.push o)]
  simp
def toT(s:Shared):SharedT:=⟨Z4J s.heap.objs.toList 0 .nil,s.heap.objs.size,s.heap.life,s.gens,s.drawn,s.toks,s.os⟩
theorem toT_abs{s:Shared}(h:insOk s.heap.objs.toList 0 .nil=true):(toT s).abs=s:=by
 have e:=Z6T (life:=s.heap.life) s.heap.objs.toList 0 .nil h
 rw [Nat.zero_add,Z1J]at e
 have e2:absHeap .nil 0 s.heap.life=⟨#[],s.heap.life⟩:=rfl
 rw [e2,Z8z]at e
 obtain⟨⟨objs,life⟩,g,d,t,o⟩:=s
 have e3:absHeap (Z4J objs.toList 0 .nil) objs.size life=⟨objs,life⟩:=by
  have e':absHeap (Z4J objs.toList 0 .nil) objs.size life=⟨#[]++objs.toList.toArray,life⟩:=e
  rw [e'];simp
 show(⟨absHeap (Z4J objs.toList 0 .nil) objs.size life,g,d,t,o⟩:Shared)=_
 rw [e3]
def endsT(p:Program)(w:World)(N:Nat):Option (Shared×SharedT):=(fencedOpening treeTable p w N).bind fun s₀ =>
 match (s₀.heap.isNs mainGlobals&&s₀.gens.size==0)&&insOk s₀.heap.objs.toList 0 .nil with
 |true=>(runT treeTable p w s₀.heap.objs.size (s₀.heap.nsMap mainGlobals "__annotations__") N (toT s₀) (topStub p)).map fun s=>(s₀,s)
 |false=>none
def getT(s:SharedT)(a:Addr):Option Obj:=match Nat.blt a s.n with
 |true=>match s.tree.get a with
  |some o=>alive o
  |none=>none
 |false=>none
theorem getT_get{s:SharedT}{a:Addr}{o:Obj}(h:getT s a=some o):s.abs.heap.get? a=some o:=by
 unfold getT at h
 cases hb:Nat.blt a s.n with
 |false=>rw [hb]at h;cases h
 |true =>
  rw [hb]at h
  have lt:a<s.n:=Nat.ble_eq.mp hb
  cases hg:s.tree.get a with
  |none=>rw [hg]at h;cases h
  |some x =>
   rw [hg]at h
   exact(abs_get lt hg).trans h
def chkT(p:Program)(x:Shared×SharedT):Bool:=staticsOk (importedModules p.main.body) x.1.heap x.2.abs.heap&&namesBound p x.2.abs.heap&&gensDone x.2.abs&&laidKept x.1.heap x.2.abs.heap
def seen1(q:Program)(loose mods:List Str)(Xt:Shared→Bool)(s:Shared):=match openSeen q loose mods Xt true s with |(a,_)=>a
def seen2(q:Program)(loose mods:List Str)(Xt:Shared→Bool)(s:Shared):=match openSeen q loose mods Xt true s with |(_,a,_,c,_)=>(a,c)
def seen5(q:Program)(loose mods:List Str)(Xt:Shared→Bool)(s:Shared):=match openSeen q loose mods Xt true s with |(_,_,b,_)=>b
def seen3(q:Program)(loose mods:List Str)(Xt:Shared→Bool)(s:Shared):=match openSeen q loose mods Xt true s with |(_,_,_,_,a,b,_)=>(a,b)
def seen4(q:Program)(loose mods:List Str)(Xt:Shared→Bool)(s:Shared):=match openSeen q loose mods Xt true s with |(_,_,_,_,_,_,c)=>c
theorem seen_all{q:Program}{loose mods:List Str}{Xt:Shared→Bool}{s:Shared}(h1:seen1 q loose mods Xt s=(openGood q loose).1)(h2:seen2 q loose mods Xt s=((openGood q loose).2.1,true))(h5:seen5 q loose mods Xt s=true)(h3:seen3 q loose mods Xt s=((openGood q loose).2.2.2.2.1,(openGood q loose).2.2.2.2.2.1))
  (h4:seen4 q loose mods Xt s=(openGood q loose).2.2.2.2.2.2):openSeen q loose mods Xt true s=openGood q loose:=by
 have a:=congrArg Prod.fst h2
 have c:=congrArg Prod.snd h2
 have d:=congrArg Prod.fst h3
 have e:=congrArg Prod.snd h3
 exact Prod.ext h1 (Prod.ext a (Prod.ext h5 (Prod.ext c (Prod.ext d (Prod.ext e h4)))))
theorem Z9C{s:SharedT}:∀ {as:List Addr}{K:Frag},as.map (getT s)=K.map (fun p=>some p.2)→as.map s.abs.heap.get?=K.map (fun p=>some p.2)
 |[],[],_=>rfl
 |[],_::_,h=>by cases h
 |_::_,[],h=>by cases h
 |a::as,k::K,h=>by
  rw [Z0B,Z0B]at h
  injection h with h1 h2
  rw [Z0B,Z0B,getT_get h1,Z9C h2]
theorem left_of{p q:Program}{loose:List Str}{Xt:Shared→Bool}{as:List Addr}{K:Params→Frag}{e:∀ P,as=(K P).map (·.1)}{N:Nat}
  (hA:∀ w:World,(endsT p w N).map (fun x=>(chkT p x,as.map (getT x.2)))=some (true,(K w.params).map fun p=>some p.2))(hB:∀ w:World,(endsT p w N).map (fun x=>seen1 q loose (importedModules p.main.body) Xt x.2.abs)=some (openGood q loose).1)(hD:∀ w:World,(endsT p w N).map (fun x=>seen2 q loose (importedModules p.main.body) Xt x.2.abs)=some ((openGood q loose).2.1,true))(hG:∀ w:World,(endsT p w N).map (fun x=>seen5 q loose (importedModules p.main.body) Xt x.2.abs)=some true)
  (hE:∀ w:World,(endsT p w N).map (fun x=>seen3 q loose (importedModules p.main.body) Xt x.2.abs)=some ((openGood q loose).2.2.2.2.1,(openGood q loose).2.2.2.2.2.1))(hF:∀ w:World,(endsT p w N).map (fun x=>seen4 q loose (importedModules p.main.body) Xt x.2.abs)=some (openGood q loose).2.2.2.2.2.2):LeftO p q loose Xt (kHook K as e).obs (kHook K as e).val N:=fun w=>by
 obtain⟨⟨s₀,sT⟩,h1,g0⟩:=Z1K.mp (hA w)
 have g2:=hB w
 have g4:=hD w
 have g5:=hE w
 have g6:=hF w
 have g7:=hG w
 rw [h1]at g2 g4 g5 g6 g7
 have g1:(staticsOk (importedModules p.main.body) s₀.heap sT.abs.heap&&namesBound p sT.abs.heap&&gensDone sT.abs&&laidKept s₀.heap sT.abs.heap)=true:=congrArg Prod.fst g0
 have g2:=seen_all (Option.some.inj g2) (Option.some.inj g4) (Option.some.inj g7) (Option.some.inj g5) (Option.some.inj g6)
 have g3:=congrArg Prod.snd g0
 unfold endsT at h1
 obtain⟨s₁,h3,h4⟩:=Option.bind_eq_some_iff.mp h1
 cases hc:(s₁.heap.isNs mainGlobals&&s₁.gens.size==0)&&insOk s₁.heap.objs.toList 0 .nil with
 |false=>rw [hc]at h4;cases h4
 |true =>
  rw [hc]at h4
  obtain⟨c1,c2⟩:=Z1a.mp hc
  obtain⟨s₂,h5,h6⟩:=Z1K.mp h4
  cases h6
  have r:=Z9y h5
  rw [toT_abs c2]at r
  unfold openEnds
  rw [h3]
  show(topFrom treeTable p w N s₀).map _=_
  unfold topFrom
  rw [c1,r]
  show((match staticsOk (importedModules p.main.body) s₀.heap sT.abs.heap&&namesBound p sT.abs.heap&&gensDone sT.abs&&laidKept s₀.heap sT.abs.heap with |true=>some sT.abs |false=>none):Option Shared).map _=_
  rw [g1]
  exact congrArg some (Prod.ext g2 (Z9C g3))
end HT
end
section
namespace BK
open PySem PySem.Spec PyProof.Rows
def tp(i:Nat):Stmt:=PySem.Challenge.pw_wholeamounts_s11_want.main.body.getD i (.Pass ⟨0,0,0,0⟩)
def tc(i j:Nat):Stmt:=match tp i with
 |.ClassDef _ _ _ b _ _ _ _ _ _ _=>b.getD j (.Pass ⟨0,0,0,0⟩)
 |s=>s
noncomputable def fo(n q:Str)(st:Stmt)(dV kV dc pm:Value)(an:Option Addr)(cd ct:Value):Data:=match st with
 |.FunctionDef _ a b _ _ _ sc _ _ _=>.func (PySem.W.fnOf n q a b sc dV kV dc pm an cd ct)
 |_=>.plain
noncomputable def qV:Program:={ PySem.Challenge.pw_wholeamounts_s11_want with main:={ PySem.Challenge.pw_wholeamounts_s11_want.main with body:=[tp 1,tp 2,tp 3,tp 4,tp 6,tp 7,tp 8,tp 9,tp 10,tp 11,tp 13,tp 15,tp 17,tp 18,tp 19,tp 20,tp 21,tp 22,tp 23,tp 24,tp 25,tp 26,tp 28,tp 29,tp 30,tp 31,tp 32,tp 33,tp 34,tp 35,tp 37,tp 38,tp 39,tp 40,tp 41,tp 42,tp 43,tp 44,tp 45,tp 46,tp 47,tp 48,tp 49,tp 50,tp 51,tp 52,tp 53,tp 54,tp 55,tp 56,tp 57,tp 58,tp 59,tp 60,tp 61,tp 63,tp 64,tp 65,tp 66,tp 67,tp 68,tp 69,tp 71,tp 72,tp 73,tp 74,tp 75,tp 76,tp 77,tp 78,tp 79,tp 80] } }
end BK
namespace HD
open PySem BK
noncomputable def d(P:Params)(k:Str)(t:Tok)(v:Value):DictEntry:=⟨PyData.keyHash P k,.str k t,v⟩
abbrev i(z:Int):Value:=.int z 0
abbrev r:Addr→Value:=.ref
abbrev s:Str→Tok→Value:=.str
abbrev u:Tok→Value:=.str "/claim/cut.py"
abbrev n:Value:=.none
abbrev t(a:Addr)(l:Array Value):Addr×Obj:=(a,⟨.type "tuple",none,.seq l 0,#[]⟩)
abbrev c(a:Addr)(l:Array Value):Addr×Obj:=(a,⟨.type "code",none,.fields l,#[]⟩)
noncomputable abbrev f(a:Addr)(x q:Str)(st:Stmt)(v:Value)(m:Str)(k:Tok)(c:Addr):Addr×Obj:=(a,⟨.type "function",none,fo x q st v .none .none (.str m k) none (.ref c) .none,#[]⟩)
noncomputable def KF(P:Params):Z0a:=[
(3,⟨(.type "dict"),none,(.dict #[d P "__name__" 165 (s "wholeamounts.desk" 930),d P "__doc__" 166 n,d P "__package__" 167 n,d P "__loader__" 168 (.builtin "__main__.__loader__#opaque"),d P "__spec__" 169 n,d P "__annotations__" 170 (r 6),d P "__builtins__" 171 (r 4),d P "__file__" 173 (u 172),d P "__cached__" 174 n,d P "Fault" 222 (r 32),d P "WrongNumbers" 242 (r 45),d P "NotThere" 262 (r 58),d P "TooGreat" 282 (r 71),d P "MOST_TOLD" 286 (.int 18446744073709551615 285),d P "common_divisor" 295 (r 81),d P "lowest" 304 (r 88),d P "times" 312 (r 95),d P "over" 320 (r 102),d P "refuse_above" 329 (r 109),d P "want_row" 337 (r 114),d P "refuse_numbers" 347 (r 121),d P "WRONG_MARK" 351 (.int 1 350),d P "OUT_OF_BOUNDS" 353 (.int 2 352),d P "NOT_BEHIND" 355 (.int 3 354),d P "WRONG_HAND" 357 (.int 4 356),d P "ENDS_EARLY" 359 (.int 5 358),d P "WRONG_SIDE" 361 (.int 6 360),d P "LEFT_OVER" 363 (.int 7 362),d P "MOST_ELEMENT" 365 (.int 118 364),d P "MOST_ISOTOPE" 367 (.int 500 366),d P "Reader" 436 (r 166),d P "UP" 440 (.int 1 439),d P "DOWN" 443 (.int (-1) 442),d P "MIDDLE" 446 (.int (-1) 445),d P "Way" 479 (r 187),d P "Search" 612 (r 278),d P "ways_at" 618 (r 287),d P "is_fixed_double" 627 (r 294),d P "can_go" 638 (r 301),d P "MARK_molecules" 645 (r 302),d P "MOST_ATOMS" 647 (.int 128 646),d P "MOST_BONDS" 649 (.int 192 648),d P "MOST_CHARGE" 651 (.int 4 650),d P "MOST_HYDROGENS" 653 (.int 7 652),d P "MOST_HAND" 655 (.int 2 654),d P "MOST_ORDER" 657 (.int 3 656),d P "MOST_SIDE" 659 (.int 2 658),d P "HEAD_SIZE" 661 (.int 6 660),d P "ATOM_SIZE" 663 (.int 6 662),d P "BOND_SIZE" 665 (.int 4 664),d P "BEFORE_ALL" 668 (r 303),d P "Atom" 705 (r 320),d P "Bond" 740 (r 341),d P "Molecule" 771 (r 362),d P "read_molecule" 780 (r 373),d P "read_parts" 786 (r 378),d P "read_atom" 798 (r 385),d P "read_bond" 812 (r 392),d P "neighbour_counts" 818 (r 397),d P "refuse_wrong_hands" 828 (r 404),d P "may_have_hand" 836 (r 411),d P "refuse_wrong_sides" 848 (r 418),d P "may_have_side" 860 (r 425),d P "may_end_a_side" 868 (r 432),d P "MARK_equations" 875 (r 433),d P "MOST_ON_A_SIDE" 877 (.int 8 876),d P "MOST_SIZE" 879 (.int 65535 878),d P "WITHIN_MOLECULE" 881 (.int 16 880),d P "Equation" 912 (r 450),d P "read_equation" 918 (r 459),d P "read_member" 929 (r 466),d P "ANSWERED" 933 (.int 0 932),d P "WRONG_NUMBERS" 936 (.int (-1) 935),d P "NOT_THERE" 939 (.int (-2) 938),d P "FAULTY_FORM" 942 (.int (-5) 941),d P "TOO_GREAT" 945 (.int (-6) 944),d P "want" 961 (r 473),d P "tell_want" 973 (r 480),d P "answer" 981 (r 487),d P "row" 988 (r 494),d P "fraction_row" 997 (r 501)] 81),#[]⟩),
t 22 #[(.int 0 201)],
c 28 #[(s "__init__" 202),(s "Fault.__init__" 203),(u 204),(i 4),(i 4),(i 0),(i 0),(i 3),(r 23),(.bool true),(i 181),(r 24),n,(r 25),(r 26),(r 27),(i 209),(i 4),(u 210)],
f 29 "__init__" "Fault.__init__" (tc 1 0) (r 22) "wholeamounts.refusals" 187 28,
(31,⟨(.type "dict"),none,(.dict #[d P "__module__" 196 (s "wholeamounts.refusals" 187),d P "__firstlineno__" 200 (.int 2 199),d P "__init__" 211 (r 29),d P "__static_attributes__" 215 (r 30),d P "__weakref__" 217 (r 33),d P "__doc__" 218 n] 3),#[]⟩),
(32,⟨(.type "type"),none,(.cls ⟨"Fault",[(.type "Exception")],[(r 32),(.type "Exception"),(.type "BaseException"),(.type "object")],31,"Fault",true,[],[],false,none,false⟩),#[(some (r 15)),none,(some (s "Fault" 189)),(some (s "Fault" 197)),(some (.builtin "Exception.__new__")),(some (.bool true))]⟩),
(44,⟨(.type "dict"),none,(.dict #[d P "__module__" 230 (s "wholeamounts.refusals" 187),d P "__firstlineno__" 234 (.int 8 233),d P "__static_attributes__" 235 (r 43),d P "__weakref__" 237 (r 46),d P "__doc__" 238 n] 3),#[]⟩),
(45,⟨(.type "type"),none,(.cls ⟨"WrongNumbers",[(.type "Exception")],[(r 45),(.type "Exception"),(.type "BaseException"),(.type "object")],44,"WrongNumbers",true,[],[],false,none,false⟩),#[(some (r 36)),none,(some (s "WrongNumbers" 223)),(some (s "WrongNumbers" 231)),(some (.builtin "Exception.__new__")),(some (.bool true))]⟩),
(57,⟨(.type "dict"),none,(.dict #[d P "__module__" 250 (s "wholeamounts.refusals" 187),d P "__firstlineno__" 254 (.int 10 253),d P "__static_attributes__" 255 (r 56),d P "__weakref__" 257 (r 59),d P "__doc__" 258 n] 3),#[]⟩),
(58,⟨(.type "type"),none,(.cls ⟨"NotThere",[(.type "Exception")],[(r 58),(.type "Exception"),(.type "BaseException"),(.type "object")],57,"NotThere",true,[],[],false,none,false⟩),#[(some (r 49)),none,(some (s "NotThere" 243)),(some (s "NotThere" 251)),(some (.builtin "Exception.__new__")),(some (.bool true))]⟩),
(70,⟨(.type "dict"),none,(.dict #[d P "__module__" 270 (s "wholeamounts.refusals" 187),d P "__firstlineno__" 274 (.int 12 273),d P "__static_attributes__" 275 (r 69),d P "__weakref__" 277 (r 72),d P "__doc__" 278 n] 3),#[]⟩),
(71,⟨(.type "type"),none,(.cls ⟨"TooGreat",[(.type "Exception")],[(r 71),(.type "Exception"),(.type "BaseException"),(.type "object")],70,"TooGreat",true,[],[],false,none,false⟩),#[(some (r 62)),none,(some (s "TooGreat" 263)),(some (s "TooGreat" 271)),(some (.builtin "Exception.__new__")),(some (.bool true))]⟩),
c 80 #[(s "common_divisor" 287),(s "common_divisor" 288),(u 289),(i 16),(i 2),(i 0),(i 0),(i 3),(r 75),(.bool true),(i 181),(r 76),n,(r 77),(r 78),(r 79),(i 293),(i 16),(u 294)],
f 81 "common_divisor" "common_divisor" (tp 7) n "wholeamounts.terms" 283 80,
c 87 #[(s "lowest" 296),(s "lowest" 297),(u 298),(i 22),(i 2),(i 0),(i 0),(i 3),(r 82),(.bool true),(i 181),(r 83),n,(r 84),(r 85),(r 86),(i 302),(i 22),(u 303)],
f 88 "lowest" "lowest" (tp 8) n "wholeamounts.terms" 283 87,
c 94 #[(s "times" 305),(s "times" 306),(u 307),(i 25),(i 2),(i 0),(i 0),(i 3),(r 89),(.bool true),(i 181),(r 90),n,(r 91),(r 92),(r 93),(i 310),(i 25),(u 311)],
f 95 "times" "times" (tp 9) n "wholeamounts.terms" 283 94,
c 101 #[(s "over" 313),(s "over" 314),(u 315),(i 27),(i 2),(i 0),(i 0),(i 3),(r 96),(.bool true),(i 181),(r 97),n,(r 98),(r 99),(r 100),(i 318),(i 27),(u 319)],
f 102 "over" "over" (tp 10) n "wholeamounts.terms" 283 101,
c 108 #[(s "refuse_above" 321),(s "refuse_above" 322),(u 323),(i 29),(i 2),(i 0),(i 0),(i 3),(r 103),(.bool true),(i 181),(r 104),n,(r 105),(r 106),(r 107),(i 327),(i 29),(u 328)],
f 109 "refuse_above" "refuse_above" (tp 11) n "wholeamounts.terms" 283 108,
c 113 #[(s "want_row" 332),(s "want_row" 333),(u 334),(i 34),(i 4),(i 0),(i 0),(i 3),(r 110),(.bool true),(i 181),(r 111),n,n,n,(r 112),(i 335),(i 34),(u 336)],
f 114 "want_row" "want_row" (tp 13) n "wholeamounts.amounts" 330 113,
c 120 #[(s "refuse_numbers" 340),(s "refuse_numbers" 341),(u 342),(i 40),(i 2),(i 0),(i 0),(i 3),(r 115),(.bool true),(i 181),(r 116),n,(r 117),(r 118),(r 119),(i 345),(i 40),(u 346)],
f 121 "refuse_numbers" "refuse_numbers" (tp 15) n "wholeamounts.balance" 338 120,
c 134 #[(s "__init__" 380),(s "Reader.__init__" 381),(u 382),(i 55),(i 2),(i 0),(i 0),(i 3),(r 129),(.bool true),(i 181),(r 130),n,(r 131),(r 132),(r 133),(i 385),(i 55),(u 386)],
f 135 "__init__" "Reader.__init__" (tc 26 0) n "wholeamounts.reading" 348 134,
c 141 #[(s "expect_mark" 388),(s "Reader.expect_mark" 389),(u 390),(i 59),(i 2),(i 0),(i 0),(i 3),(r 136),(.bool true),(i 181),(r 137),n,(r 138),(r 139),(r 140),(i 394),(i 59),(u 395)],
f 142 "expect_mark" "Reader.expect_mark" (tc 26 1) n "wholeamounts.reading" 348 141,
c 148 #[(s "take" 397),(s "Reader.take" 398),(u 399),(i 67),(i 2),(i 0),(i 0),(i 3),(r 143),(.bool true),(i 181),(r 144),n,(r 145),(r 146),(r 147),(i 404),(i 67),(u 405)],
f 149 "take" "Reader.take" (tc 26 2) n "wholeamounts.reading" 348 148,
c 155 #[(s "number" 407),(s "Reader.number" 408),(u 409),(i 75),(i 4),(i 0),(i 0),(i 3),(r 150),(.bool true),(i 181),(r 151),n,(r 152),(r 153),(r 154),(i 417),(i 75),(u 418)],
f 156 "number" "Reader.number" (tc 26 3) n "wholeamounts.reading" 348 155,
c 162 #[(s "finish" 420),(s "Reader.finish" 421),(u 422),(i 84),(i 1),(i 0),(i 0),(i 3),(r 157),(.bool true),(i 181),(r 158),n,(r 159),(r 160),(r 161),(i 424),(i 84),(u 425)],
f 163 "finish" "Reader.finish" (tc 26 4) n "wholeamounts.reading" 348 162,
(165,⟨(.type "dict"),none,(.dict #[d P "__module__" 375 (s "wholeamounts.reading" 348),d P "__firstlineno__" 379 (.int 53 378),d P "__init__" 387 (r 135),d P "expect_mark" 396 (r 142),d P "take" 406 (r 149),d P "number" 419 (r 156),d P "finish" 426 (r 163),d P "__static_attributes__" 429 (r 164),d P "__dict__" 431 (r 167),d P "__weakref__" 433 (r 168),d P "__doc__" 434 n] 4),#[]⟩),
(166,⟨(.type "type"),none,(.cls ⟨"Reader",[(.type "object")],[(r 166),(.type "object")],165,"Reader",true,[],[],false,none,false⟩),#[none,none,(some (s "Reader" 368)),(some (s "Reader" 376)),(some (.builtin "object.__new__")),(some (.bool true))]⟩),
c 183 #[(s "__init__" 459),(s "Way.__init__" 460),(u 461),(i 93),(i 4),(i 0),(i 0),(i 3),(r 178),(.bool true),(i 181),(r 179),n,(r 180),(r 181),(r 182),(i 466),(i 93),(u 467)],
f 184 "__init__" "Way.__init__" (tc 31 0) n "wholeamounts.redrawing" 437 183,
(186,⟨(.type "dict"),none,(.dict #[d P "__module__" 454 (s "wholeamounts.redrawing" 437),d P "__firstlineno__" 458 (.int 91 457),d P "__init__" 468 (r 184),d P "__static_attributes__" 472 (r 185),d P "__dict__" 474 (r 188),d P "__weakref__" 476 (r 189),d P "__doc__" 477 n] 4),#[]⟩),
(187,⟨(.type "type"),none,(.cls ⟨"Way",[(.type "object")],[(r 187),(.type "object")],186,"Way",true,[],[],false,none,false⟩),#[none,none,(some (s "Way" 447)),(some (s "Way" 455)),(some (.builtin "object.__new__")),(some (.bool true))]⟩),
c 204 #[(s "__init__" 492),(s "Search.__init__" 493),(u 494),(i 99),(i 3),(i 0),(i 0),(i 3),(r 199),(.bool true),(i 181),(r 200),n,(r 201),(r 202),(r 203),(i 498),(i 99),(u 499)],
f 205 "__init__" "Search.__init__" (tc 32 0) n "wholeamounts.redrawing" 437 204,
c 211 #[(s "reach" 501),(s "Search.reach" 502),(u 503),(i 108),(i 5),(i 0),(i 0),(i 3),(r 206),(.bool true),(i 181),(r 207),n,(r 208),(r 209),(r 210),(i 509),(i 108),(u 510)],
f 212 "reach" "Search.reach" (tc 32 1) n "wholeamounts.redrawing" 437 211,
c 218 #[(s "allow" 512),(s "Search.allow" 513),(u 514),(i 114),(i 3),(i 0),(i 0),(i 3),(r 213),(.bool true),(i 181),(r 214),n,(r 215),(r 216),(r 217),(i 518),(i 114),(u 519)],
f 219 "allow" "Search.allow" (tc 32 2) n "wholeamounts.redrawing" 437 218,
c 225 #[(s "comes_back" 521),(s "Search.comes_back" 522),(u 523),(i 119),(i 1),(i 0),(i 0),(i 3),(r 220),(.bool true),(i 181),(r 221),n,(r 222),(r 223),(r 224),(i 526),(i 119),(u 527)],
f 226 "comes_back" "Search.comes_back" (tc 32 3) n "wholeamounts.redrawing" 437 225,
c 232 #[(s "goes_on" 529),(s "Search.goes_on" 530),(u 531),(i 126),(i 3),(i 0),(i 0),(i 3),(r 227),(.bool true),(i 181),(r 228),n,(r 229),(r 230),(r 231),(i 536),(i 126),(u 537)],
f 233 "goes_on" "Search.goes_on" (tc 32 4) n "wholeamounts.redrawing" 437 232,
c 239 #[(s "closes" 539),(s "Search.closes" 540),(u 541),(i 132),(i 4),(i 0),(i 0),(i 3),(r 234),(.bool true),(i 181),(r 235),n,(r 236),(r 237),(r 238),(i 550),(i 132),(u 551)],
f 240 "closes" "Search.closes" (tc 32 5) n "wholeamounts.redrawing" 437 239,
c 246 #[(s "base_of" 553),(s "Search.base_of" 554),(u 555),(i 149),(i 2),(i 0),(i 0),(i 3),(r 241),(.bool true),(i 181),(r 242),n,(r 243),(r 244),(r 245),(i 558),(i 149),(u 559)],
f 247 "base_of" "Search.base_of" (tc 32 6) n "wholeamounts.redrawing" 437 246,
c 253 #[(s "base_before" 561),(s "Search.base_before" 562),(u 563),(i 155),(i 2),(i 0),(i 0),(i 3),(r 248),(.bool true),(i 181),(r 249),n,(r 250),(r 251),(r 252),(i 566),(i 155),(u 567)],
f 254 "base_before" "Search.base_before" (tc 32 7) n "wholeamounts.redrawing" 437 253,
c 260 #[(s "meeting_of" 569),(s "Search.meeting_of" 570),(u 571),(i 158),(i 3),(i 0),(i 0),(i 3),(r 255),(.bool true),(i 181),(r 256),n,(r 257),(r 258),(r 259),(i 577),(i 158),(u 578)],
f 261 "meeting_of" "Search.meeting_of" (tc 32 8) n "wholeamounts.redrawing" 437 260,
c 267 #[(s "fold" 580),(s "Search.fold" 581),(u 582),(i 169),(i 3),(i 0),(i 0),(i 3),(r 262),(.bool true),(i 181),(r 263),n,(r 264),(r 265),(r 266),(i 587),(i 169),(u 588)],
f 268 "fold" "Search.fold" (tc 32 9) n "wholeamounts.redrawing" 437 267,
c 274 #[(s "allow_both" 590),(s "Search.allow_both" 591),(u 592),(i 176),(i 2),(i 0),(i 0),(i 3),(r 269),(.bool true),(i 181),(r 270),n,(r 271),(r 272),(r 273),(i 595),(i 176),(u 596)],
f 275 "allow_both" "Search.allow_both" (tc 32 10) n "wholeamounts.redrawing" 437 274,
(277,⟨(.type "dict"),none,(.dict #[d P "__module__" 487 (s "wholeamounts.redrawing" 437),d P "__firstlineno__" 491 (.int 97 490),d P "__init__" 500 (r 205),d P "reach" 511 (r 212),d P "allow" 520 (r 219),d P "comes_back" 528 (r 226),d P "goes_on" 538 (r 233),d P "closes" 552 (r 240),d P "base_of" 560 (r 247),d P "base_before" 568 (r 254),d P "meeting_of" 579 (r 261),d P "fold" 589 (r 268),d P "allow_both" 597 (r 275),d P "__static_attributes__" 605 (r 276),d P "__dict__" 607 (r 279),d P "__weakref__" 609 (r 280),d P "__doc__" 610 n] 4),#[]⟩),
(278,⟨(.type "type"),none,(.cls ⟨"Search",[(.type "object")],[(r 278),(.type "object")],277,"Search",true,[],[],false,none,false⟩),#[none,none,(some (s "Search" 480)),(some (s "Search" 488)),(some (.builtin "object.__new__")),(some (.bool true))]⟩),
c 286 #[(s "ways_at" 613),(s "ways_at" 614),(u 615),(i 179),(i 2),(i 0),(i 0),(i 3),(r 283),(.bool true),(i 181),(r 284),n,n,n,(r 285),(i 616),(i 179),(u 617)],
f 287 "ways_at" "ways_at" (tp 33) n "wholeamounts.redrawing" 437 286,
c 293 #[(s "is_fixed_double" 619),(s "is_fixed_double" 620),(u 621),(i 185),(i 3),(i 0),(i 0),(i 3),(r 288),(.bool true),(i 181),(r 289),n,(r 290),(r 291),(r 292),(i 625),(i 185),(u 626)],
f 294 "is_fixed_double" "is_fixed_double" (tp 34) n "wholeamounts.redrawing" 437 293,
c 300 #[(s "can_go" 628),(s "can_go" 629),(u 630),(i 187),(i 4),(i 0),(i 0),(i 3),(r 295),(.bool true),(i 181),(r 296),n,(r 297),(r 298),(r 299),(i 636),(i 187),(u 637)],
f 301 "can_go" "can_go" (tp 35) n "wholeamounts.redrawing" 437 300,
t 302 #[(.int 70 641),(.int 75 642),(.int 77 643),(.int 49 644)],
t 303 #[(.int 0 666),(.int 0 667)],
c 316 #[(s "__init__" 681),(s "Atom.__init__" 682),(u 683),(i 207),(i 6),(i 0),(i 0),(i 3),(r 311),(.bool true),(i 181),(r 312),n,(r 313),(r 314),(r 315),(i 690),(i 207),(u 691)],
f 317 "__init__" "Atom.__init__" (tc 49 0) n "wholeamounts.molecules" 639 316,
(319,⟨(.type "dict"),none,(.dict #[d P "__module__" 676 (s "wholeamounts.molecules" 639),d P "__firstlineno__" 680 (.int 205 679),d P "__init__" 692 (r 317),d P "__static_attributes__" 698 (r 318),d P "__dict__" 700 (r 321),d P "__weakref__" 702 (r 322),d P "__doc__" 703 n] 4),#[]⟩),
(320,⟨(.type "type"),none,(.cls ⟨"Atom",[(.type "object")],[(r 320),(.type "object")],319,"Atom",true,[],[],false,none,false⟩),#[none,none,(some (s "Atom" 669)),(some (s "Atom" 677)),(some (.builtin "object.__new__")),(some (.bool true))]⟩),
c 337 #[(s "__init__" 718),(s "Bond.__init__" 719),(u 720),(i 215),(i 5),(i 0),(i 0),(i 3),(r 332),(.bool true),(i 181),(r 333),n,(r 334),(r 335),(r 336),(i 726),(i 215),(u 727)],
f 338 "__init__" "Bond.__init__" (tc 50 0) n "wholeamounts.molecules" 639 337,
(340,⟨(.type "dict"),none,(.dict #[d P "__module__" 713 (s "wholeamounts.molecules" 639),d P "__firstlineno__" 717 (.int 213 716),d P "__init__" 728 (r 338),d P "__static_attributes__" 733 (r 339),d P "__dict__" 735 (r 342),d P "__weakref__" 737 (r 343),d P "__doc__" 738 n] 4),#[]⟩),
(341,⟨(.type "type"),none,(.cls ⟨"Bond",[(.type "object")],[(r 341),(.type "object")],340,"Bond",true,[],[],false,none,false⟩),#[none,none,(some (s "Bond" 706)),(some (s "Bond" 714)),(some (.builtin "object.__new__")),(some (.bool true))]⟩),
c 358 #[(s "__init__" 753),(s "Molecule.__init__" 754),(u 755),(i 222),(i 3),(i 0),(i 0),(i 3),(r 353),(.bool true),(i 181),(r 354),n,(r 355),(r 356),(r 357),(i 759),(i 222),(u 760)],
f 359 "__init__" "Molecule.__init__" (tc 51 0) n "wholeamounts.molecules" 639 358,
(361,⟨(.type "dict"),none,(.dict #[d P "__module__" 748 (s "wholeamounts.molecules" 639),d P "__firstlineno__" 752 (.int 220 751),d P "__init__" 761 (r 359),d P "__static_attributes__" 764 (r 360),d P "__dict__" 766 (r 363),d P "__weakref__" 768 (r 364),d P "__doc__" 769 n] 4),#[]⟩),
(362,⟨(.type "type"),none,(.cls ⟨"Molecule",[(.type "object")],[(r 362),(.type "object")],361,"Molecule",true,[],[],false,none,false⟩),#[none,none,(some (s "Molecule" 741)),(some (s "Molecule" 749)),(some (.builtin "object.__new__")),(some (.bool true))]⟩),
c 372 #[(s "read_molecule" 772),(s "read_molecule" 773),(u 774),(i 225),(i 1),(i 0),(i 0),(i 3),(r 367),(.bool true),(i 181),(r 368),n,(r 369),(r 370),(r 371),(i 778),(i 225),(u 779)],
f 373 "read_molecule" "read_molecule" (tp 52) n "wholeamounts.molecules" 639 372,
c 377 #[(s "read_parts" 781),(s "read_parts" 782),(u 783),(i 231),(i 1),(i 0),(i 0),(i 3),(r 374),(.bool true),(i 181),(r 375),n,n,n,(r 376),(i 784),(i 231),(u 785)],
f 378 "read_parts" "read_parts" (tp 53) n "wholeamounts.molecules" 639 377,
c 384 #[(s "read_atom" 787),(s "read_atom" 788),(u 789),(i 245),(i 1),(i 0),(i 0),(i 3),(r 379),(.bool true),(i 181),(r 380),n,(r 381),(r 382),(r 383),(i 796),(i 245),(u 797)],
f 385 "read_atom" "read_atom" (tp 54) n "wholeamounts.molecules" 639 384,
c 391 #[(s "read_bond" 799),(s "read_bond" 800),(u 801),(i 252),(i 3),(i 0),(i 0),(i 3),(r 386),(.bool true),(i 181),(r 387),n,(r 388),(r 389),(r 390),(i 810),(i 252),(u 811)],
f 392 "read_bond" "read_bond" (tp 55) n "wholeamounts.molecules" 639 391,
c 396 #[(s "neighbour_counts" 813),(s "neighbour_counts" 814),(u 815),(i 261),(i 1),(i 0),(i 0),(i 3),(r 393),(.bool true),(i 181),(r 394),n,n,n,(r 395),(i 816),(i 261),(u 817)],
f 397 "neighbour_counts" "neighbour_counts" (tp 56) n "wholeamounts.molecules" 639 396,
c 403 #[(s "refuse_wrong_hands" 819),(s "refuse_wrong_hands" 820),(u 821),(i 267),(i 2),(i 0),(i 0),(i 3),(r 398),(.bool true),(i 181),(r 399),n,(r 400),(r 401),(r 402),(i 826),(i 267),(u 827)],
f 404 "refuse_wrong_hands" "refuse_wrong_hands" (tp 57) n "wholeamounts.molecules" 639 403,
c 410 #[(s "may_have_hand" 829),(s "may_have_hand" 830),(u 831),(i 271),(i 2),(i 0),(i 0),(i 3),(r 405),(.bool true),(i 181),(r 406),n,(r 407),(r 408),(r 409),(i 834),(i 271),(u 835)],
f 411 "may_have_hand" "may_have_hand" (tp 58) n "wholeamounts.molecules" 639 410,
c 417 #[(s "refuse_wrong_sides" 837),(s "refuse_wrong_sides" 838),(u 839),(i 273),(i 2),(i 0),(i 0),(i 3),(r 412),(.bool true),(i 181),(r 413),n,(r 414),(r 415),(r 416),(i 846),(i 273),(u 847)],
f 418 "refuse_wrong_sides" "refuse_wrong_sides" (tp 59) n "wholeamounts.molecules" 639 417,
c 424 #[(s "may_have_side" 849),(s "may_have_side" 850),(u 851),(i 279),(i 4),(i 0),(i 0),(i 3),(r 419),(.bool true),(i 181),(r 420),n,(r 421),(r 422),(r 423),(i 858),(i 279),(u 859)],
f 425 "may_have_side" "may_have_side" (tp 60) n "wholeamounts.molecules" 639 424,
c 431 #[(s "may_end_a_side" 861),(s "may_end_a_side" 862),(u 863),(i 287),(i 2),(i 0),(i 0),(i 3),(r 426),(.bool true),(i 181),(r 427),n,(r 428),(r 429),(r 430),(i 866),(i 287),(u 867)],
f 432 "may_end_a_side" "may_end_a_side" (tp 61) n "wholeamounts.molecules" 639 431,
t 433 #[(.int 70 871),(.int 75 872),(.int 81 873),(.int 49 874)],
c 446 #[(s "__init__" 894),(s "Equation.__init__" 895),(u 896),(i 296),(i 3),(i 0),(i 0),(i 3),(r 441),(.bool true),(i 181),(r 442),n,(r 443),(r 444),(r 445),(i 900),(i 296),(u 901)],
f 447 "__init__" "Equation.__init__" (tc 67 0) n "wholeamounts.equations" 869 446,
(449,⟨(.type "dict"),none,(.dict #[d P "__module__" 889 (s "wholeamounts.equations" 869),d P "__firstlineno__" 893 (.int 294 892),d P "__init__" 902 (r 447),d P "__static_attributes__" 905 (r 448),d P "__dict__" 907 (r 451),d P "__weakref__" 909 (r 452),d P "__doc__" 910 n] 4),#[]⟩),
(450,⟨(.type "type"),none,(.cls ⟨"Equation",[(.type "object")],[(r 450),(.type "object")],449,"Equation",true,[],[],false,none,false⟩),#[none,none,(some (s "Equation" 882)),(some (s "Equation" 890)),(some (.builtin "object.__new__")),(some (.bool true))]⟩),
c 458 #[(s "read_equation" 913),(s "read_equation" 914),(u 915),(i 299),(i 1),(i 0),(i 0),(i 3),(r 455),(.bool true),(i 181),(r 456),n,n,n,(r 457),(i 916),(i 299),(u 917)],
f 459 "read_equation" "read_equation" (tp 68) n "wholeamounts.equations" 869 458,
c 465 #[(s "read_member" 919),(s "read_member" 920),(u 921),(i 308),(i 1),(i 0),(i 0),(i 3),(r 460),(.bool true),(i 181),(r 461),n,(r 462),(r 463),(r 464),(i 927),(i 308),(u 928)],
f 466 "read_member" "read_member" (tp 69) n "wholeamounts.equations" 869 465,
c 472 #[(s "want" 946),(s "want" 947),(u 948),(i 322),(i 5),(i 0),(i 0),(i 3),(r 467),(.bool true),(i 181),(r 468),n,(r 469),(r 470),(r 471),(i 959),(i 322),(u 960)],
f 473 "want" "want" (tp 76) n "wholeamounts.desk" 930 472,
c 479 #[(s "tell_want" 962),(s "tell_want" 963),(u 964),(i 324),(i 5),(i 0),(i 0),(i 3),(r 474),(.bool true),(i 181),(r 475),n,(r 476),(r 477),(r 478),(i 971),(i 324),(u 972)],
f 480 "tell_want" "tell_want" (tp 77) n "wholeamounts.desk" 930 479,
c 486 #[(s "answer" 974),(s "answer" 975),(u 976),(i 330),(i 1),(i 0),(i 0),(i 3),(r 481),(.bool true),(i 181),(r 482),n,(r 483),(r 484),(r 485),(i 979),(i 330),(u 980)],
f 487 "answer" "answer" (tp 78) n "wholeamounts.desk" 930 486,
c 493 #[(s "row" 982),(s "row" 983),(u 984),(i 341),(i 1),(i 0),(i 0),(i 3),(r 488),(.bool true),(i 181),(r 489),n,(r 490),(r 491),(r 492),(i 986),(i 341),(u 987)],
f 494 "row" "row" (tp 79) n "wholeamounts.desk" 930 493,
c 500 #[(s "fraction_row" 989),(s "fraction_row" 990),(u 991),(i 343),(i 1),(i 0),(i 0),(i 3),(r 495),(.bool true),(i 181),(r 496),n,(r 497),(r 498),(r 499),(i 995),(i 343),(u 996)],
f 501 "fraction_row" "fraction_row" (tp 80) n "wholeamounts.desk" 930 500]
end HD
namespace BK
open PySem PySem.Spec PyProof.Rows
open HD (KF)
def aK:List Addr:=[3,22,28,29,31,32,44,45,57,58,70,71,80,81,87,88,94,95,101,102,108,109,113,114,120,121,134,135,141,142,148,149,155,156,162,163,165,166,183,184,186,187,204,205,211,212,218,219,225,226,232,233,239,240,246,247,253,254,260,261,267,268,274,275,277,278,286,287,293,294,300,301,302,303,316,317,319,320,337,338,340,341,358,359,361,362,372,373,377,378,384,385,391,392,396,397,403,404,410,411,417,418,424,425,431,432,433,446,447,449,450,458,459,465,466,472,473,479,480,486,487,493,494,500,501]
theorem aK_eq:∀ P,aK=(KF P).map (·.1):=fun _=>by kernel_rfl
abbrev lO:List Str:=["Fault"]
noncomputable abbrev HK:PySem.W.Hook:=PySem.W.kHook KF aK aK_eq
noncomputable abbrev XT:Shared→Bool:=fun s=>PySem.W.xlAt qV [] s&&PySem.W.recOk [] s
theorem leftA:∀ w:World,(HT.endsT PySem.Challenge.pw_wholeamounts_s11_want w 8408).map (fun x=>(HT.chkT PySem.Challenge.pw_wholeamounts_s11_want x,aK.map (HT.getT x.2)))=some (true,(KF w.params).map fun p=>some p.2):=fun w=>by kernel_rfl
theorem leftB:∀ w:World,(HT.endsT PySem.Challenge.pw_wholeamounts_s11_want w 8408).map (fun x=>HT.seen1 qV lO (importedModules PySem.Challenge.pw_wholeamounts_s11_want.main.body) XT x.2.abs)=some ((PySem.W.openGood qV lO).1):=fun w=>by kernel_rfl
theorem leftD:∀ w:World,(HT.endsT PySem.Challenge.pw_wholeamounts_s11_want w 8408).map (fun x=>HT.seen2 qV lO (importedModules PySem.Challenge.pw_wholeamounts_s11_want.main.body) XT x.2.abs)=some ((PySem.W.openGood qV lO).2.1,true):=fun w=>by kernel_rfl
theorem leftG:∀ w:World,(HT.endsT PySem.Challenge.pw_wholeamounts_s11_want w 8408).map (fun x=>HT.seen5 qV lO (importedModules PySem.Challenge.pw_wholeamounts_s11_want.main.body) XT x.2.abs)=some (true):=fun w=>by kernel_rfl
theorem leftE:∀ w:World,(HT.endsT PySem.Challenge.pw_wholeamounts_s11_want w 8408).map (fun x=>HT.seen3 qV lO (importedModules PySem.Challenge.pw_wholeamounts_s11_want.main.body) XT x.2.abs)=some ((PySem.W.openGood qV lO).2.2.2.2.1,(PySem.W.openGood qV lO).2.2.2.2.2.1):=fun w=>by kernel_rfl
theorem leftF:∀ w:World,(HT.endsT PySem.Challenge.pw_wholeamounts_s11_want w 8408).map (fun x=>HT.seen4 qV lO (importedModules PySem.Challenge.pw_wholeamounts_s11_want.main.body) XT x.2.abs)=some ((PySem.W.openGood qV lO).2.2.2.2.2.2):=fun w=>by kernel_rfl
theorem left:PySem.W.LeftO PySem.Challenge.pw_wholeamounts_s11_want qV lO XT HK.obs HK.val 8408:=HT.left_of leftA leftB leftD leftG leftE leftF
end BK
end
section
namespace L2
open PySem PySem.Spec PyProof.Rows
abbrev Key:=Sum Int Str
def keyIs:Key→Value→Bool
 |.inl k,v=>Value.isInt k v
 |.inr x,v=>Value.isStrOf x v
def keyH(w:World):Key→Int
 |.inl k=>hashInt k
 |.inr x=>hashStr w x
theorem Z2G:∀ {k:Key}{v:Value},keyIs k v=true→(∃ i t,k=Sum.inl i∧v=Value.int i t)∨(∃ x t,k=Sum.inr x∧v=Value.str x t)
 |.inl i,v,h=>by
  obtain⟨t,e⟩:=Value.isInt_shape (k:=i) (v:=v) h
  exact .inl ⟨i,t,rfl,e⟩
 |.inr x,v,h=>by
  obtain⟨t,e⟩:=Value.isStrOf_shape (x:=x) (v:=v) h
  exact .inr ⟨x,t,rfl,e⟩
theorem Zat(i:Int)(t:Tok):keyIs (.inl i) (.int i t)=true:=by simp [keyIs,Value.isInt]
theorem Zar(x:Str)(t:Tok):keyIs (.inr x) (.str x t)=true:=by simp [keyIs,Value.isStrOf]
theorem key_ll(a b:Int):decide ((Sum.inl a:Key)=Sum.inl b)=(a==b):=by
 by_cases e:a=b
 ·subst e;simp
 ·have h:¬ (Sum.inl a:Key)=Sum.inl b:=fun q=>e (Sum.inl.inj q)
  rw [decide_eq_false h]
  exact(beq_eq_false_iff_ne.mpr e).symm
theorem key_rr(a b:Str):decide ((Sum.inr a:Key)=Sum.inr b)=decide (a=b):=by
 by_cases e:a=b
 ·subst e;simp
 ·have h:¬ (Sum.inr a:Key)=Sum.inr b:=fun q=>e (Sum.inr.inj q)
  rw [decide_eq_false h,decide_eq_false e]
theorem key_lr(a:Int)(b:Str):decide ((Sum.inl a:Key)=Sum.inr b)=false:=decide_eq_false (fun q=>nomatch q)
theorem key_rl(a:Str)(b:Int):decide ((Sum.inr a:Key)=Sum.inl b)=false:=decide_eq_false (fun q=>nomatch q)
def Z2C(prog:Program)(w:World):PySem.KeyKind prog w Key where
 is:=keyIs
 hash:=keyH w
 inj:=fun v a b ha hb=>by
  rcases Z2G ha with⟨i,t,rfl,rfl⟩ |⟨x,t,rfl,rfl⟩
  ·rcases Z2G hb with⟨j,u,rfl,e⟩ |⟨y,u,rfl,e⟩
   ·injection e with e1 _;rw [e1]
   ·exact nomatch e
  ·rcases Z2G hb with⟨j,u,rfl,e⟩ |⟨y,u,rfl,e⟩
   ·exact nomatch e
   ·injection e with e1 _;rw [e1]
 byValue:=fun k v h=>by
  rcases Z2G h with⟨i,t,rfl,rfl⟩ |⟨x,t,rfl,rfl⟩<;>rfl
 pyHash:=fun hv h=>by
  rcases Z2G hv with⟨i,t,rfl,rfl⟩ |⟨x,t,rfl,rfl⟩
  ·exact wpAny_pyHash_int h
  ·exact wpAny_pyHash_str h
 eqBool:=fun hu hv h=>by
  rcases Z2G hu with⟨i,t,rfl,rfl⟩ |⟨x,t,rfl,rfl⟩
  ·rcases Z2G hv with⟨j,u,rfl,rfl⟩ |⟨y,u,rfl,rfl⟩
   ·rw [key_ll]at h;exact wpAny_eqBool_int h
   ·rw [key_lr]at h;exact SeqAt.EqAt.int_str i t y u _ _ _ _ h
  ·rcases Z2G hv with⟨j,u,rfl,rfl⟩ |⟨y,u,rfl,rfl⟩
   ·rw [key_rl]at h;exact SeqAt.EqAt.str_int x t j u _ _ _ _ h
   ·rw [key_rr]at h;exact wpAny_eqBool_str h
 «strs»:=fun k x t v h=>by
  rcases Z2G h with⟨i,u,rfl,e⟩ |⟨y,u,rfl,e⟩
  ·exact nomatch e
  ·injection e with e1 _
   subst e1
   cases v<;>rfl
theorem Z9d(prog:Program)(w:World)(i:Int)(t:Tok):(Z2C prog w).is (.inl i) (.int i t)=true:=Zat i t
theorem Z9a(prog:Program)(w:World)(x:Str)(t:Tok):(Z2C prog w).is (.inr x) (.str x t)=true:=Zar x t
end L2
namespace L2
open PySem PySem.Spec PyProof.Rows
inductive V where
 |non |bl (b:Bool) |int (i:Int) |str (x:Str) |byt (b:Array UInt8) |flt (b:UInt64) |ref (a:Addr) |ty (n:String)
 deriving DecidableEq
def RelV:V→Value→Prop
 |.non,u=>u=Value.none
 |.bl b,u=>u=Value.bool b
 |.int i,u=>∃ t,u=Value.int i t
 |.str x,u=>∃ t,u=Value.str x t
 |.byt b,u=>∃ t,u=Value.bytes b t
 |.flt b,u=>∃ t,u=Value.float b t
 |.ref a,u=>u=Value.ref a
 |.ty n,u=>u=Value.type n
abbrev Vals:List V→List Value→Prop:=Paired RelV
theorem Vals.length{xs:List V}{us:List Value}(r:Vals xs us):xs.length=us.length:=Paired.length r
theorem Vals.get:∀ {xs:List V}{us:List Value}{i:Nat}{x:V},Vals xs us→xs[i]?=some x→∃ u,us[i]?=some u∧RelV x u
 |_,_,_,_,.nil,e=>by simp at e
 |_,_,0,_,.cons r _,e=>by simp at e;subst e;exact⟨_,rfl,r⟩
 |_,_,i+1,x,.cons _ t,e=>by
  obtain⟨u,h1,h2⟩:=Vals.get (i:=i) (x:=x) t (by simpa using e)
  exact⟨u,by simpa using h1,h2⟩
theorem Vals.set{x:V}{u:Value}(r:RelV x u):∀ {xs:List V}{us:List Value}(i:Nat),Vals xs us→Vals (xs.set i x) (us.set i u)
 |_,_,_,.nil=>.nil
 |_,_,0,.cons _ t=>.cons r t
 |_,_,i+1,.cons q t=>.cons q (Vals.set r i t)
theorem Vals.append:∀ {xs ys:List V}{us ws:List Value},Vals xs us→Vals ys ws→Vals (xs++ys) (us++ws)
 |_,_,_,_,.nil,s=>s
 |_,_,_,_,.cons r t,s=>.cons r (Vals.append t s)
theorem Vals.take:∀ {xs:List V}{us:List Value}(n:Nat),Vals xs us→Vals (xs.take n) (us.take n)
 |_,_,0,_=>.nil
 |_,_,_+1,.nil=>.nil
 |_,_,n+1,.cons r t=>.cons r (Vals.take n t)
theorem Vals.drop:∀ {xs:List V}{us:List Value}(n:Nat),Vals xs us→Vals (xs.drop n) (us.drop n)
 |_,_,0,r=>r
 |_,_,_+1,.nil=>.nil
 |_,_,n+1,.cons _ t=>Vals.drop n t
def RelO:Option V→Option Value→Prop
 |some v,some u=>RelV v u
 |none,none=>True
 |_,_=>False
def KV{κ:Type}:List (κ×V)→List (κ×Value)→Prop:=Paired fun(p:κ×V)(q:κ×Value)=>p.1=q.1∧RelV p.2 q.2
def kV:Key→V
 |.inl i=>.int i
 |.inr x=>.str x
inductive HO where
 |lst (xs:List V)
 |tup (xs:List V)
 |dK (kvs:List (Key×V)) |dT (kvs:List (List Key×V))
 |set (S:Int→Bool)(n:Nat)
 |ins (C dx:Addr)(fs:List (Str×V))
 |own (x:Addr)
 |xd (fs:List (Str×V))
 |met (f x:Addr)
 |rng (lo hi:Int)
 |frz (o:Obj)(u:HO)
 |tbl (ps:Array Value)
 |ext (φ:Heap→Prop)
abbrev Hp:=Addr→Option HO
def upd(H:Hp)(a:Addr)(o:HO):Hp:=fun b=>if b=a then some o else H b
theorem Z1X{H:Hp}{a:Addr}{o:HO}:upd H a o a=some o:=by unfold upd;rw [if_pos rfl]
theorem Z1W{H:Hp}{a b:Addr}{o:HO}(h:b≠a):upd H a o b=H b:=by unfold upd;rw [if_neg h]
theorem Z2F{H:Hp}{a:Addr}{o u:HO}:upd (upd H a o) a u=upd H a u:=by
 funext b;unfold upd;split<;>rfl
theorem ne_of{H:Hp}{a b:Addr}{o u:HO}(h:H a=some o)(h':H b=some u)(d:o≠u):a≠b:=by
 intro e;subst e;rw [h]at h';exact d (Option.some.inj h')
theorem Z1Z{H:Hp}{a b:Addr}{o:HO}(h:H a=some o)(h':H b=none):a≠b:=by
 intro e;subst e;rw [h]at h';cases h'
section
variable(P:Program)(w:World)
def ObjOk(H:Hp)(h:Heap)(a:Addr):HO→Prop
 |.lst xs=>xs.length≤sizeLine∧∃ (its:List Value)(n:Nat),Vals xs its∧h.get? a=some { cls:=.type "list",data:=.seq its.toArray n }
 |.tup xs=>xs.length≤sizeLine∧∃ its:List Value,Vals xs its∧IsTup h a its.toArray
 |.dK kvs=>kvs.length≤sizeLine∧(a==sysModules)=false∧∃ vs,KV kvs vs∧h.DictOf (Z2C P w) a vs
 |.dT kvs=>kvs.length≤sizeLine∧(a==sysModules)=false∧∃ xs:List (List Key×Addr×Value),
   Paired (fun(p:List Key×V)(q:List Key×Addr×Value)=>p.1=q.1∧H q.2.1=some (.tup (p.1.map kV))∧RelV p.2 q.2.2) kvs xs ∧
   ∃ o es ep,h.get? a=some o∧o.ExactDict∧o.data=.dict es ep∧es.toList=xs.map (entryOfKey (tupleKind (Z2C P w)))∧(xs.map (·.1)).Nodup
 |.set S n=>h.SetOf (intKind P w) a S n
 |.ins C dx fs=>H dx=some (.own a)∧fs.length≤1000∧dx≠a∧h.get? a=some (PySem.W.instObj C dx) ∧
   ∃ mA,h.Ns1 dx mA∧(∀ f,RelO (fs.lookup f) (mA f))∧PySem.Within mA (fs.map (·.1))
 |.own _=>∃ o,h.get? a=some o
 |.xd fs=>∃ mA,h.Ns1 a mA∧∀ f,RelO (fs.lookup f) (mA f)
 |.rng lo hi=>∃ t u v,h.get? a=some { cls:=.type "range",data:=.fields #[.int lo t,.int hi u,.int 1 v] }
 |.frz o u=>h.get? a=some o∧ObjOk H h a u
 |.tbl ps=>h.get? a=some { cls:=.none,data:=.fields ps }
 |.met f x=>h.get? a=some (PySem.W.methodObj (.ref f) (.ref x))
 |.ext φ=>φ h∧(∃ o,h.get? a=some o)∧∀ h1 h2:Heap,φ h1→(∀ o,h1.get? a=some o→h2.get? a=some o)→φ h2
def HOk(H:Hp)(h:Heap):Prop:=∀ a o,H a=some o→ObjOk P w H h a o
end
section
variable{P:Program}{w:World}{H H':Hp}{h h':Heap}{a:Addr}{o:HO}
theorem ObjOk.lt(x:ObjOk P w H h a o):a<h.objs.size:=by
 cases o with
 |lst xs=>obtain⟨_,_,_,_,e⟩:=x;exact Z0h e
 |tup xs=>obtain⟨_,_,_,p⟩:=x;exact p.lt
 |dK kvs=>obtain⟨_,_,_,_,o,_,_,e,_⟩:=x;exact Z0h e
 |dT kvs=>obtain⟨_,_,_,_,o,_,_,e,_⟩:=x;exact Z0h e
 |set S n=>obtain⟨o,_,_,_,e,_⟩:=x;exact Z0h e
 |ins C dx fs=>obtain⟨_,_,_,e,_⟩:=x;exact Z0h e
 |own y=>obtain⟨_,e⟩:=x;exact Z0h e
 |xd fs=>obtain⟨_,⟨_,_,_,e,_⟩,_⟩:=x;exact Z0h e
 |rng lo hi=>obtain⟨_,_,_,e⟩:=x;exact Z0h e
 |frz ob u=>obtain⟨e,_⟩:=x;exact Z0h e
 |tbl ps=>exact Z0h (show h.get? a=some _ from x)
 |met f y=>exact Z0h (show h.get? a=some _ from x)
 |ext φ=>obtain⟨_,⟨_,e⟩,_⟩:=x;exact Z0h e
theorem Paired.mapP{α β:Type}{F G:α→β→Prop}:∀ {l₁:List α}{l₂:List β},Paired F l₁ l₂→(∀ a b,F a b→G a b)→Paired G l₁ l₂
 |_,_,.nil,_=>.nil
 |_,_,.cons r t,f=>.cons (f _ _ r) (Paired.mapP t f)
theorem ObjOk.stay(x:ObjOk P w H h a o)(k:∀ b u,(b=a∨H b=some (.own a))→h.get? b=some u→h'.get? b=some u)
  (ho:∀ b,H b=some (.own a)→H' b=some (.own a))(ht:∀ b xs,H b=some (.tup xs)→H' b=some (.tup xs)):ObjOk P w H' h' a o:=by
 induction o with
 |lst xs=>obtain⟨z,its,n,r,e⟩:=x;exact⟨z,its,n,r,k _ _ (.inl rfl) e⟩
 |tup xs=>obtain⟨z,its,r,ob,e,c⟩:=x;exact⟨z,its,r,ob,k _ _ (.inl rfl) e,c⟩
 |dK kvs=>obtain⟨z,y,vs,r,ob,es,ep,e,c⟩:=x;exact⟨z,y,vs,r,ob,es,ep,k _ _ (.inl rfl) e,c⟩
 |dT kvs =>
  obtain⟨z,y,xs,r,ob,es,ep,e,c⟩:=x
  exact⟨z,y,xs,Paired.mapP r fun p q z=>⟨z.1,ht _ _ z.2.1,z.2.2⟩,ob,es,ep,k _ _ (.inl rfl) e,c⟩
 |set S n=>obtain⟨ob,es,ep,t,e,c⟩:=x;exact⟨ob,es,ep,t,k _ _ (.inl rfl) e,c⟩
 |ins C dx fs =>
  obtain⟨d,z,ne,e,mA,⟨od,es,ep,e2,c⟩,r⟩:=x
  exact⟨ho _ d,z,ne,k _ _ (.inl rfl) e,mA,⟨od,es,ep,k _ _ (.inr d) e2,c⟩,r⟩
 |own y=>obtain⟨ob,e⟩:=x;exact⟨ob,k _ _ (.inl rfl) e⟩
 |xd fs=>obtain⟨mA,⟨od,es,ep,e,c⟩,r⟩:=x;exact⟨mA,⟨od,es,ep,k _ _ (.inl rfl) e,c⟩,r⟩
 |rng lo hi=>obtain⟨t,u,v,e⟩:=x;exact⟨t,u,v,k _ _ (.inl rfl) e⟩
 |frz ob u ih=>obtain⟨e,q⟩:=x;exact⟨k _ _ (.inl rfl) e,ih q⟩
 |tbl ps =>
  have e:h.get? a=some { cls:=.none,data:=.fields ps }:=x
  show h'.get? a=some { cls:=.none,data:=.fields ps }
  exact k a _ (.inl rfl) e
 |met f y =>
  have e:h.get? a=some (PySem.W.methodObj (.ref f) (.ref y)):=x
  show h'.get? a=some (PySem.W.methodObj (.ref f) (.ref y))
  exact k a _ (.inl rfl) e
 |ext φ=>obtain⟨p,⟨o,e⟩,st⟩:=x;exact⟨st _ _ p fun o q=>k _ _ (.inl rfl) q,⟨o,k _ _ (.inl rfl) e⟩,st⟩
theorem HOk.lt(x:HOk P w H h)(e:H a=some o):a<h.objs.size:=(x a o e).lt
theorem HOk.fresh(x:HOk P w H h)(e:h.objs.size≤a):H a=none:=by
 cases q:H a with
 |none=>rfl
 |some u=>exact absurd (Z0v (x.lt q) e) (Z0u _)
theorem HOk.kept(x:HOk P w H h)(k:∀ b u,h.get? b=some u→h'.get? b=some u):HOk P w H h':=fun a o e =>
 (x a o e).stay (fun b u _ q=>k b u q) (fun _ q=>q) fun _ _ q=>q
theorem HOk.laid(x:HOk P w H h)(k:∀ b u,h.get? b=some u→h'.get? b=some u)(hp:h.objs.size≤a)(new:ObjOk P w (upd H a o) h' a o):HOk P w (upd H a o) h':=fun b u e=>by
 have hn:=x.fresh hp
 by_cases hb:b=a
 ·subst hb;rw [Z1X]at e;cases e;exact new
 ·rw [Z1W hb]at e
  exact(x b u e).stay (fun c v _ q=>k c v q) (fun c q=>by rw [Z1W (Z1Z q hn)];exact q) fun c xs q=>by rw [Z1W (Z1Z q hn)];exact q
end
def Rd(H:Hp)(a:Addr)(u:HO):Prop:=H a=some u∨∃ o,H a=some (.frz o u)
theorem Rd.ok{P:Program}{w:World}{H:Hp}{h:Heap}{a:Addr}{u:HO}(r:Rd H a u)(x:HOk P w H h):ObjOk P w H h a u:=by
 rcases r with r |⟨o,r⟩
 ·exact x a u r
 ·obtain⟨_,q⟩:=x a _ r
  exact q
def Mut:Option HO→Prop
 |some (.lst _)=>True
 |some (.dK _)=>True
 |some (.dT _)=>True
 |some (.set _ _)=>True
 |some (.ins _ _ _)=>True
 |some (.ext _)=>True
 |_=>False
section
variable{P:Program}{w:World}{H:Hp}{h h':Heap}{x e:Addr}{o':HO}
theorem HOk.write(ok:HOk P w H h)(mu:Mut (H x))(he:e=x∨H e=some (.own x))(k:∀ b u,b≠e→h.get? b=some u→h'.get? b=some u)(heo:∃ u,h'.get? e=some u)
  (new:ObjOk P w (upd H x o') h' x o'):HOk P w (upd H x o') h':=fun b u q=>by
 have nown:∀ c y,H c=some (.own y)→c≠x:=fun c y r z=>by subst z;rw [r]at mu;exact mu
 have ntup:∀ c xs,H c=some (.tup xs)→c≠x:=fun c xs r z=>by subst z;rw [r]at mu;exact mu
 by_cases hb:b=x
 ·subst hb;rw [Z1X]at q;cases q;exact new
 ·rw [Z1W hb]at q
  by_cases hbe:b=e
  ·have q':H b=some (.own x):=by
    rcases he with z |z
    ·exact absurd (hbe.trans z) hb
    ·rw [hbe];exact z
   rw [q]at q';cases q'
   obtain⟨v,hv⟩:=heo
   exact⟨v,by rw [hbe];exact hv⟩
  ·refine(ok b u q).stay (fun c v hc r=>k c v ?_ r) (fun c r=>by rw [Z1W (nown c b r)];exact r) fun c xs r=>by rw [Z1W (ntup c xs r)];exact r
   rcases hc with rfl |hc
   ·exact hbe
   ·rintro rfl
    rcases he with z |z
    ·exact nown c b hc z
    ·rw [hc]at z;cases z;exact hb rfl
end
structure Un(fs ex:List Addr)(H H':Hp)(h h':Heap):Prop where
 keep:∀ b o,h.get? b=some o→H b=none→b∉fs→b∉ex→h'.get? b=some o
 slot:∀ b o,h.get? b=some o→H b=none→b∈fs→b∉ex→∃ sl,h'.get? b=some { o with slots:=sl }
 free:∀ b o,h.get? b=some o→H b=none→b∉ex→H' b=none
 there:∀ b o,h.get? b=some o→b∉ex→∃ o',h'.get? b=some o'
 tups:∀ b xs,H b=some (.tup xs)→H' b=some (.tup xs)
 frzs:∀ b o u,H b=some (.frz o u)→H' b=some (.frz o u)
 tbls:∀ b ps,H b=some (.tbl ps)→∃ more,H' b=some (.tbl (ps++more))
section
variable{fs fs' ex ex':List Addr}{H H1 H2:Hp}{h h1 h2 h':Heap}{a x e:Addr}{o:HO}
theorem Un.any(u:Un fs ex H H1 h h1){b:Addr}{ob:Obj}(q:h.get? b=some ob)(n:H b=none)(hx:b∉ex):∃ sl,h1.get? b=some { ob with slots:=sl }:=by
 by_cases hb:b∈fs
 ·exact u.slot b ob q n hb hx
 ·exact⟨ob.slots,u.keep b ob q n hb hx⟩
theorem Un.kept(k:∀ b u,h.get? b=some u→h'.get? b=some u):Un fs ex H H h h' :=
 ⟨fun b ob q _ _ _=>k b ob q,fun b ob q _ _ _=>⟨ob.slots,k b ob q⟩,fun _ _ _ n _=>n,fun b ob q _=>⟨ob,k b ob q⟩,fun _ _ q=>q,fun _ _ _ q=>q,fun _ ps q=>⟨#[],by rw [q];simp⟩⟩
theorem Un.refl:Un fs ex H H h h:=Un.kept fun _ _ q=>q
theorem Un.laid(k:∀ b u,h.get? b=some u→h'.get? b=some u)(hp:h.objs.size≤a)(hn:H a=none):Un fs ex H (upd H a o) h h' where
 keep:=fun b u q _ _ _=>k b u q
 slot:=fun b u q _ _ _=>⟨u.slots,k b u q⟩
 free:=fun b u q n _=>by rw [Z1W (Z0o (Z0v (Z0h q) hp))];exact n
 there:=fun b u q _=>⟨u,k b u q⟩
 tups:=fun b xs q=>by rw [Z1W (Z1Z q hn)];exact q
 frzs:=fun b u xs q=>by rw [Z1W (Z1Z q hn)];exact q
 tbls:=fun b ps q=>⟨#[],by rw [Z1W (Z1Z q hn),q];simp⟩
theorem Un.write(mu:Mut (H x))(he:e=x∨H e=some (.own x))(k:∀ b u,b≠e→h.get? b=some u→h'.get? b=some u)(heo:∃ u,h'.get? e=some u):Un fs ex H (upd H x o) h h':=by
 have hx:∀ b,H b=none→b≠x:=fun b n z=>by subst z;rw [n]at mu;exact mu
 have hb:∀ b,H b=none→b≠e:=fun b n z=>by
  subst z
  rcases he with r |r
  ·exact hx b n r
  ·rw [n]at r;cases r
 have hm:∀ b u,H b=some u→¬ Mut (some u)→b≠x:=fun b u q nm z=>by subst z;rw [q]at mu;exact nm mu
 refine⟨fun b u q n _ _=>k b u (hb b n) q,fun b u q n _ _=>⟨u.slots,k b u (hb b n) q⟩,fun b u q n _=>by rw [Z1W (hx b n)];exact n,fun b u q _=>?_,
  fun b xs q=>by rw [Z1W (hm b _ q fun z=>z)];exact q,fun b u xs q=>by rw [Z1W (hm b _ q fun z=>z)];exact q,fun b ps q=>⟨#[],by rw [Z1W (hm b _ q fun z=>z),q];simp⟩⟩
 by_cases hbe:b=e
 ·subst hbe;exact heo
 ·exact⟨u,k b u hbe q⟩
end
def trk(h:Heap)(H:Hp):List Addr:=(List.range h.objs.size).filter fun a=>(H a).isSome
def hidT(h:Heap)(H:Hp):Heap:=PySem.W.hideAll h (trk h H)
theorem Z7E(h:Heap)(H:Hp):(hidT h H).objs.size=h.objs.size:=PySem.W.hideAll_size _ _
theorem Z8c{h:Heap}{H:Hp}{b:Addr}{o:Obj}(e:h.get? b=some o)(n:H b=none):(hidT h H).get? b=some o :=
 PySem.W.hideAll_get _ e fun hm=>by
  have q:(H b).isSome=true:=(List.mem_filter.mp hm).2
  rw [n]at q;simp at q
theorem Z6d{h:Heap}{H:Hp}{b:Addr}{o:Obj}(e:(hidT h H).get? b=some o):h.get? b=some o∧H b=none:=by
 have e':h.get? b=some o:=PySem.W.of_hideAll (trk h H) e
 refine⟨e',?_⟩
 cases q:H b with
 |none=>rfl
 |some x =>
  have hm:b∈trk h H:=List.mem_filter.mpr ⟨Z1j.mpr (Z0h e'),by simp [q]⟩
  have z:(hidT h H).get? b=none:=PySem.W.hideAll_none (trk h H) hm
  rw [z]at e;cases e
end L2
namespace L2
open PySem PySem.Spec PyProof.Rows
structure Mod(K:Z0a)(mg:Str→Option Value)(base:Heap):Prop where
 kin:K.In base
 glob:base.Ns mainGlobals mg
 blt:∃ mb,base.Ns builtinsNs mb∧∀ x:Str,x≠"__name__"→mb x=bootBuiltins x
 nolimit:base.NoLimit
structure Cx where
 prog:Program
 w:World
 K:Z0a
 mg:Str→Option Value
 base:Heap
 A:Around
 N:List Str
 s_0:Shared
 H_0:Hp
 env:Env
 outer:List Env
 stack:List Env
 ex:List Addr
 fn:Str→Bool
 calm:Bool
 pn:List (Addr×Obj)
 xe:Value→Shared→Prop
def frs(l:List Env):List Addr:=l.filterMap (·.frame)
abbrev Cx.fs(X:Cx):List Addr:=frs X.outer
def Vis(sc:Scope)(x:Str):Prop:=sc.names.lookup x=some .local∨sc.names.lookup x=some .cell∨sc.names.lookup x=some .free
def Loc(sc:Scope)(x:Str):Prop:=sc.names.lookup x=some .local∨sc.names.lookup x=some .cell
def Look(env:Env)(h:Heap)(m:Str→Option Value)(x:Str)(u:Value):Prop :=
 (env.kindOf x=some .local∧m x=some u)∨((env.kindOf x=some .cell∨env.kindOf x=some .free)∧∃ c,env.cells.lookup x=some c∧h.IsCell c (some u))
structure Cx.Ok(X:Cx):Prop where
 mod:Mod X.K X.mg X.base
 kind:X.env.scope.kind=.function
 glob:X.env.globals=mainGlobals
 blt:X.env.builtins=builtinsNs
 above:X.s_0.heap.objs.size≤X.env.locals
 inj:∀ x y c,X.env.cells.lookup x=some c→X.env.cells.lookup y=some c→x=y
 has:∀ x,(X.env.kindOf x=some .cell∨X.env.kindOf x=some .free)→∃ c,X.env.cells.lookup x=some c
 cab:∀ x c,X.fn x=true→X.env.cells.lookup x=some c→X.s_0.heap.objs.size≤c
 hd:X.calm=true→X.A.handled=none
 frames:X.A.frames=some X.stack
 stk:X.stack=X.outer∨(X.stack=X.env::X.outer∧X.env.frame=some X.env.locals)
 exf:∀ b∈X.ex,b≠X.env.locals∧∀ x c,X.env.cells.lookup x=some c→c≠b
 bs:∀ b o,X.base.get? b=some o→X.s_0.heap.get? b=some o∧X.H_0 b=none
 bsz:X.base.objs.size≤X.s_0.heap.objs.size
 noex:∀ b o,X.base.get? b=some o→b∉X.ex
 exfs:∀ b∈X.ex,b∉X.fs
 funs:X.s_0.heap.FunFrames X.base X.outer
 frf:∀ b∈X.fs,X.H_0 b=none
structure Inv(X:Cx)(pins:List (Addr×Obj))(σ:List (Option V))(H:Hp)(s:Shared):Prop where
 ok:X.Ok
 os:s.os=X.s_0.os
 bare:AllBare s.gens
 base:Un X.fs X.ex X.H_0 H X.s_0.heap s.heap
 loc:∃ m,s.heap.Ns X.env.locals m∧∀ (i:Nat)(x:Str)(v:V),X.N[i]?=some x→σ[i]?=some (some v)→Vis X.env.scope x→∃ u,RelV v u∧Look X.env s.heap m x u
 cell:∀ x c,X.env.cells.lookup x=some c→∃ v,s.heap.IsCell c v
 free:H X.env.locals=none
 freeC:∀ x c,X.env.cells.lookup x=some c→H c=none
 pin:∀ p∈X.pn++pins,s.heap.get? p.1=some p.2∧H p.1=none∧p.1≠X.env.locals∧p.1∉X.fs∧∀ v,p.2.data≠.cell v
 hok:HOk X.prog X.w H s.heap
 len:σ.length=X.N.length
section
variable{X:Cx}{pins:List (Addr×Obj)}{σ:List (Option V)}{H H':Hp}{s:Shared}{h':Heap}
theorem Cx.Ok.nofr(ok:X.Ok){b:Addr}{o:Obj}(e:X.base.get? b=some o):b∉X.fs:=fun hb=>by
 have:=(ok.funs.mem hb).1
 rw [e]at this;cases this
theorem Inv.bs(I:Inv X pins σ H s):∀ b o,X.base.get? b=some o→s.heap.get? b=some o∧H b=none:=fun b o e =>
 ⟨I.base.keep b o (I.ok.bs b o e).1 (I.ok.bs b o e).2 (I.ok.nofr e) (I.ok.noex b o e),I.base.free b o (I.ok.bs b o e).1 (I.ok.bs b o e).2 (I.ok.noex b o e)⟩
theorem Inv.bk(I:Inv X pins σ H s):∀ b o,X.base.get? b=some o→s.heap.get? b=some o:=fun b o e=>(I.bs b o e).1
theorem Inv.mod(I:Inv X pins σ H s):Mod X.K X.mg X.base:=I.ok.mod
theorem Inv.kIn(I:Inv X pins σ H s):X.K.In s.heap:=I.ok.mod.kin.keeps I.bk
theorem Inv.nolimit(I:Inv X pins σ H s):s.heap.NoLimit:=I.ok.mod.nolimit.keeps I.bk
theorem Inv.fr(I:Inv X pins σ H s):∃ m,Fr X.base X.env.locals s.heap m :=
 let ⟨m,hn,_⟩:=I.loc
 ⟨m,hn,I.bk,Z0x I.ok.bsz I.ok.above⟩
theorem Inv.lt(I:Inv X pins σ H s):X.env.locals<s.heap.objs.size:=let ⟨_,hn,_⟩:=I.loc;hn.lt
theorem Inv.sz(I:Inv X pins σ H s):X.s_0.heap.objs.size≤s.heap.objs.size:=Z0x I.ok.above (Z1k I.lt)
theorem Inv.nofs(I:Inv X pins σ H s){a:Addr}(h:s.heap.objs.size≤a):a∉X.fs:=fun hb=>by
 obtain⟨_,o,ho,_⟩:=I.ok.funs.mem hb
 exact absurd (Z0v (Z0h ho) (Z0x I.sz h)) (Z0u _)
theorem Inv.cne(I:Inv X pins σ H s):∀ x c,X.env.cells.lookup x=some c→c≠X.env.locals:=fun x c e z=>by
 obtain⟨v,o,ho,hd⟩:=I.cell x c e
 obtain⟨m,⟨o',es,ep,ho',hd',_⟩,_⟩:=I.loc
 rw [z,ho']at ho;cases ho;rw [hd']at hd;cases hd
theorem Inv.funs(I:Inv X pins σ H s):s.heap.FunFrames X.base X.outer:=by
 have all:∀ (l:List Env),(∀ b∈frs l,b∈X.fs)→X.s_0.heap.FunFrames X.base l→s.heap.FunFrames X.base l:=by
  intro l
  induction l with
  |nil=>intro _ _;trivial
  |cons env r ih =>
   intro hs hl
   obtain⟨hk,⟨L,o,hf,hn,ho,hd⟩,hr⟩:=hl
   have hL:L∈X.fs:=hs L (by unfold frs;rw [Z1b,hf];exact Z0g)
   obtain⟨sl,e⟩:=I.base.slot L o ho (I.ok.frf L hL) hL fun z=>I.ok.exfs L z hL
   exact⟨hk,⟨L,_,hf,hn,e,hd⟩,ih (fun b hb=>hs b (by unfold frs;rw [Z1b,hf];exact Z0f _ hb)) hr⟩
 exact all X.outer (fun _ hb=>hb) I.ok.funs
theorem Inv.stack(I:Inv X pins σ H s):s.heap.FunFrames X.base X.stack:=by
 rcases I.ok.stk with e |⟨e,hf⟩
 ·rw [e];exact I.funs
 ·rw [e]
  obtain⟨m,hn,_⟩:=I.loc
  refine .cons (by rw [I.ok.kind];decide) hf hn ?_ I.funs
  exact Z1l (Z0x I.ok.bsz I.ok.above)
theorem Inv.stkSub(I:Inv X pins σ H s):∀ b∈frs X.stack,b∈X.env.locals::X.fs:=fun b hb=>by
 rcases I.ok.stk with e |⟨e,hf⟩
 ·rw [e]at hb;exact Z0f _ hb
 ·rw [e]at hb
  unfold frs at hb
  rw [Z1b,hf]at hb
  exact hb
theorem Inv.stkFree(I:Inv X pins σ H s):∀ b∈frs X.stack,H b=none:=fun b hb=>by
 rcases Z0d.mp (I.stkSub b hb)with e |hb
 ·rw [e];exact I.free
 ·obtain⟨_,o,ho,_⟩:=I.ok.funs.mem hb
  exact I.base.free b o ho (I.ok.frf b hb) fun z=>I.ok.exfs b z hb
theorem Inv.step{g':Array GenState}{t':Nat}{d':Drawn}{ch:List Addr}(I:Inv X pins σ H s)
  (hch:∀ b∈ch,(b∈X.ex∨X.s_0.heap.objs.size≤b)∧b≠X.env.locals∧(∀ x c,X.env.cells.lookup x=some c→c≠b)∧∀ p∈X.pn++pins,p.1≠b)
  (keep:∀ b o,b≠X.env.locals→b∉X.fs→b∉ch→s.heap.get? b=some o→H b=none→h'.get? b=some o)
  (slot:∀ b o,b≠X.env.locals→b∈X.fs→b∉ch→s.heap.get? b=some o→H b=none→∃ sl,h'.get? b=some { o with slots:=sl })(free:∀ b o,b∉ch→s.heap.get? b=some o→H b=none→H' b=none)
  (there:∀ b o,b∉ch→s.heap.get? b=some o→∃ o',h'.get? b=some o')
  (tups:∀ b xs,H b=some (.tup xs)→H' b=some (.tup xs))(frzs:∀ b o u,H b=some (.frz o u)→H' b=some (.frz o u))(tbls:∀ b ps,H b=some (.tbl ps)→∃ more,H' b=some (.tbl (ps++more)))
  (ns:∀ m,s.heap.Ns X.env.locals m→h'.Ns X.env.locals m)(hok:HOk X.prog X.w H' h')(hg:AllBare g') :
  Inv X pins σ H' { s with heap:=h',gens:=g',drawn:=d',toks:=t' }:=by
 have neL:∀ b o,X.s_0.heap.get? b=some o→b≠X.env.locals:=fun b o e=>Z0o (Z0v (Z0h e) I.ok.above)
 have neC:∀ b o,X.s_0.heap.get? b=some o→b∉X.ex→b∉ch:=fun b o e hx hb=>by
  rcases(hch b hb).1 with z |z
  ·exact hx z
  ·exact absurd (Z0v (Z0h e) z) (Z0u _)
 have cellK:∀ x c,X.env.cells.lookup x=some c→∀ v,s.heap.IsCell c v→h'.IsCell c v:=fun x c e v ⟨o,ho,hd⟩=>by
  have nch:c∉ch:=fun z=>(hch c z).2.2.1 x c e rfl
  by_cases hc:c∈X.fs
  ·obtain⟨sl,q⟩:=slot c o (I.cne x c e) hc nch ho (I.freeC x c e)
   exact⟨_,q,hd⟩
  ·exact⟨o,keep c o (I.cne x c e) hc nch ho (I.freeC x c e),hd⟩
 refine⟨I.ok,I.os,hg,⟨fun b o e n hb hx=>?_,fun b o e n hb hx=>?_,fun b o e n hx=>?_,fun b o e hx=>?_,fun b xs e=>tups b xs (I.base.tups b xs e),fun b o xs e=>frzs b o xs (I.base.frzs b o xs e),fun b ps e=>?_⟩,?_,fun x c e=>?_,?_,fun x c e=>?_,fun p hp=>?_,hok,I.len⟩
 ·exact keep b o (neL b o e) hb (neC b o e hx) (I.base.keep b o e n hb hx) (I.base.free b o e n hx)
 ·obtain⟨sl,e1⟩:=I.base.slot b o e n hb hx
  obtain⟨sl',e2⟩:=slot b _ (neL b o e) hb (neC b o e hx) e1 (I.base.free b o e n hx)
  exact⟨sl',e2⟩
 ·obtain⟨o',e1⟩:=I.base.there b o e hx
  exact free b o' (neC b o e hx) e1 (I.base.free b o e n hx)
 ·obtain⟨o',e1⟩:=I.base.there b o e hx
  exact there b o' (neC b o e hx) e1
 ·obtain⟨m1,e1⟩:=I.base.tbls b ps e
  obtain⟨m2,e2⟩:=tbls b _ e1
  exact⟨m1++m2,by rw [e2,Array.append_assoc]⟩
 ·obtain⟨m,hn,hl⟩:=I.loc
  refine⟨m,ns m hn,fun i x v e1 e2 e3=>?_⟩
  obtain⟨u,r,l⟩:=hl i x v e1 e2 e3
  refine⟨u,r,?_⟩
  rcases l with l |⟨k,c,e,z⟩
  ·exact .inl l
  ·exact .inr ⟨k,c,e,cellK x c e _ z⟩
 ·obtain⟨v,z⟩:=I.cell x c e
  exact⟨v,cellK x c e v z⟩
 ·obtain⟨m,⟨o,_,_,ho,_⟩,_⟩:=I.loc
  exact free _ o (fun z=>(hch _ z).2.1 rfl) ho I.free
 ·obtain⟨v,o,ho,hd⟩:=I.cell x c e
  exact free c o (fun z=>(hch c z).2.2.1 x c e rfl) ho (I.freeC x c e)
 ·obtain⟨e,n,ne,nf,d⟩:=I.pin p hp
  have nch:p.1∉ch:=fun z=>(hch p.1 z).2.2.2 p hp rfl
  exact⟨keep p.1 p.2 ne nf nch e n,free p.1 p.2 nch e n,ne,nf,d⟩
theorem Inv.un{t':Nat}(I:Inv X pins σ H s)(u:Un X.fs [] H H' s.heap h')(hok:HOk X.prog X.w H' h'):Inv X pins σ H' { s with heap:=h',toks:=t' }:=by
 obtain⟨m,⟨o,es,ep,ho,r⟩,_⟩:=id I.loc
 obtain⟨sl,hL⟩:=u.any ho I.free (by simp)
 exact I.step (g':=s.gens) (d':=s.drawn) (ch:=[]) (fun _ z=>nomatch z) (fun b o _ hb _ e n=>u.keep b o e n hb (by simp)) (fun b o _ hb _ e n=>u.slot b o e n hb (by simp)) (fun b o _ e n=>u.free b o e n (by simp)) (fun b o _ e=>u.there b o e (by simp)) u.tups u.frzs u.tbls (fun m' hm=>by
  obtain⟨o',es',ep',ho',r'⟩:=hm
  rw [ho]at ho';cases ho'
  exact⟨_,es',ep',hL,r'⟩) hok I.bare
theorem Inv.call{g':Array GenState}{t':Nat}{d':Drawn}{ch:List Addr}(I:Inv X pins σ H s)(u:Un (frs X.stack) ch H H' s.heap h')(hok:HOk X.prog X.w H' h')(hg:AllBare g')
  (hch:∀ b∈ch,(b∈X.ex∨X.s_0.heap.objs.size≤b)∧b≠X.env.locals∧(∀ x c,X.env.cells.lookup x=some c→c≠b)∧∀ p∈X.pn++pins,p.1≠b) :
  Inv X pins σ H' { s with heap:=h',gens:=g',drawn:=d',toks:=t' }:=by
 obtain⟨m,⟨o,es,ep,ho,r⟩,_⟩:=id I.loc
 obtain⟨sl,hL⟩:=u.any ho I.free fun z=>(hch _ z).2.1 rfl
 exact I.step (ch:=ch) hch (fun b o hL hb hc e n=>u.keep b o e n (fun z=>(Z0d.mp (I.stkSub b z)).elim hL hb) hc) (fun b o _ _ hc e n=>u.any e n hc) (fun b o hc e n=>u.free b o e n hc) (fun b o hc e=>u.there b o e hc) u.tups u.frzs u.tbls (fun m' hm=>by
  obtain⟨o',es',ep',ho',r'⟩:=hm
  rw [ho]at ho';cases ho'
  exact⟨_,es',ep',hL,r'⟩) hok hg
theorem Inv.turned{t':Nat}{it:Addr}(I:Inv X pins σ H s)(k:∀ b o,b≠it→s.heap.get? b=some o→h'.get? b=some o)(hn:H it=none)(hL:it≠X.env.locals)
  (h1:it∈X.ex∨X.s_0.heap.objs.size≤it)(h2:∀ x c,X.env.cells.lookup x=some c→c≠it)(h3:∀ p∈X.pn++pins,p.1≠it):Inv X pins σ H { s with heap:=h',toks:=t' }:=by
 have nit:∀ b u,H b=some u→b≠it:=fun b u e z=>by rw [z,hn]at e;cases e
 refine I.step (g':=s.gens) (d':=s.drawn) (ch:=[it]) (fun b hb=>?_) (fun b o _ _ hc e _=>k b o (fun z=>hc (by simp [z])) e) (fun b o _ _ hc e _=>⟨o.slots,k b o (fun z=>hc (by simp [z])) e⟩) (fun _ _ _ _ n=>n)
  (fun b o hc e=>⟨o,k b o (fun z=>hc (by simp [z])) e⟩) (fun _ _ e=>e) (fun _ _ _ e=>e) (fun b ps e=>⟨#[],by rw [e];simp⟩) (fun m hm=>?_) (fun b u e=>?_) I.bare
 ·have e:b=it:=by simpa using hb
  subst e
  exact⟨h1,hL,h2,h3⟩
 ·obtain⟨o,es,ep,ho,r⟩:=hm
  exact⟨o,es,ep,k _ o (Ne.symm hL) ho,r⟩
 ·refine(I.hok b u e).stay (fun c v hc q=>k c v ?_ q) (fun _ q=>q) fun _ _ q=>q
  rcases hc with z |z
  ·rw [z];exact nit b u e
  ·exact nit c _ z
theorem Inv.tok(I:Inv X pins σ H s)(t:Nat):Inv X pins σ H { s with toks:=t }:=I.un (h':=s.heap) (t':=t) Un.refl I.hok
theorem Inv.kept{t':Nat}(I:Inv X pins σ H s)(k:∀ b u,s.heap.get? b=some u→h'.get? b=some u):Inv X pins σ H { s with heap:=h',toks:=t' }:=I.un (Un.kept k) (I.hok.kept k)
theorem Inv.laid{a:Addr}{o:HO}{t':Nat}(I:Inv X pins σ H s)(k:∀ b u,s.heap.get? b=some u→h'.get? b=some u)(hp:s.heap.objs.size≤a)(new:ObjOk X.prog X.w (upd H a o) h' a o) :
  Inv X pins σ (upd H a o) { s with heap:=h',toks:=t' }:=I.un (Un.laid k hp (I.hok.fresh hp)) (I.hok.laid k hp new)
theorem Inv.write{x e:Addr}{o:HO}{t':Nat}(I:Inv X pins σ H s)(mu:Mut (H x))(he:e=x∨H e=some (.own x))(k:∀ b u,b≠e→s.heap.get? b=some u→h'.get? b=some u)(heo:∃ u,h'.get? e=some u)
  (new:ObjOk X.prog X.w (upd H x o) h' x o):Inv X pins σ (upd H x o) { s with heap:=h',toks:=t' }:=I.un (Un.write mu he k heo) (I.hok.write mu he k heo new)
theorem Inv.weak{σ':List (Option V)}(I:Inv X pins σ H s)(hl:σ'.length=σ.length)(w:∀ (i:Nat) v,σ'[i]?=some (some v)→σ[i]?=some (some v)):Inv X pins σ' H s :=
 ⟨I.ok,I.os,I.bare,I.base,let ⟨m,hn,hl'⟩:=I.loc;⟨m,hn,fun i x v e1 e2 e3=>hl' i x v e1 (w i v e2) e3⟩,I.cell,I.free,I.freeC,I.pin,I.hok,hl.trans I.len⟩
theorem Inv.pins_of{pins':List (Addr×Obj)}(I:Inv X pins σ H s)(h:∀ p∈pins',s.heap.get? p.1=some p.2∧H p.1=none∧p.1≠X.env.locals∧p.1∉X.fs∧∀ v,p.2.data≠.cell v):Inv X pins' σ H s :=
 ⟨I.ok,I.os,I.bare,I.base,I.loc,I.cell,I.free,I.freeC,fun p hp=>(Z0k.mp hp).elim (fun z=>I.pin p (Z0K _ z)) (h p),I.hok,I.len⟩
theorem Z6w{N:List Str}(hN:N.Nodup){i j:Nat}{x:Str}(a:N[i]?=some x)(b:N[j]?=some x):i=j:=by
 obtain⟨h1,e1⟩:=Z0p.mp a
 obtain⟨h2,e2⟩:=Z0p.mp b
 exact(List.getElem_inj hN).mp (e1.trans e2.symm)
theorem Z5R{M:Model}{A:Around}{E:Value→Shared→Prop}{i:Nat}{x:Str}{v:V}{u:Value}{Q:Unit→Shared→Prop}(I:Inv X pins σ H s)(hN:X.N.Nodup)(hi:X.N[i]?=some x)(hx:Loc X.env.scope x)(r:RelV v u)
  (h:∀ s',Inv X pins (σ.set i (some v)) H s'→(∃ a,Heap.SameBut a s.heap s'.heap∧(a=X.env.locals∨X.env.cells.lookup x=some a))→Q () s')(hf:X.fn x=true∨X.env.scope.names.lookup x=some .local:=by first |exact .inl rfl |exact .inr rfl |assumption):wpAny M A (storeName X.env x u) Q E s:=by
 obtain⟨m,hn,hl⟩:=id I.loc
 have hcls:(X.env.scope.kind==.class ||(X.env.scope.kind==.module&&X.env.locals != X.env.globals))=false:=by rw [I.ok.kind];rfl
 have hiσ:i<σ.length:=by rw [I.len];exact(Z0p.mp hi).1
 have cne:=I.cne
 have tracked:∀ {a:Addr}{h':Heap},(∃ o,s.heap.get? a=some o∧H a=none)→Heap.SameBut a s.heap h'→HOk X.prog X.w H h':=fun{a h'} ha hs b ob e=>by
  obtain⟨_,_,hfree⟩:=ha
  refine(I.hok b ob e).stay (fun c w' hc q=>(hs.2 c ?_).trans q) (fun _ q=>q) fun _ _ q=>q
  rintro rfl
  rcases hc with rfl |hc
  ·rw [hfree]at e;cases e
  ·rw [hfree]at hc;cases hc
 rcases hx with hk |hk
 ·refine wpAny_storeName_local hk hn (fun h' hn' hs=>?_) hcls
  obtain⟨oL,_,_,hoL,_⟩:=id hn
  refine h _ ⟨I.ok,I.os,I.bare,⟨fun b o e n hb hx=>?_,fun b o e n hb hx=>?_,I.base.free,fun b o e hx=>?_,I.base.tups,I.base.frzs,I.base.tbls⟩,⟨_,hn',fun j y v' e1 e2 e3=>?_⟩,fun y c e=>?_,I.free,I.freeC,fun p hp=>?_,tracked ⟨oL,hoL,I.free⟩ hs,by simpa using I.len⟩ ⟨_,hs,.inl rfl⟩
  ·exact(hs.2 b (Z0o (Z0v (Z0h e) I.ok.above))).trans (I.base.keep b o e n hb hx)
  ·obtain⟨sl,e1⟩:=I.base.slot b o e n hb hx
   exact⟨sl,(hs.2 b (Z0o (Z0v (Z0h e) I.ok.above))).trans e1⟩
  ·obtain⟨o',e1⟩:=I.base.there b o e hx
   exact⟨o',(hs.2 b (Z0o (Z0v (Z0h e) I.ok.above))).trans e1⟩
  ·by_cases hj:j=i
   ·subst hj
    rw [hi]at e1;cases e1
    rw [Z1m hiσ]at e2
    cases e2
    exact⟨u,r,.inl ⟨hk,by simp⟩⟩
   ·rw [Z1v (Ne.symm hj)]at e2
    obtain⟨u',r',q⟩:=hl j y v' e1 e2 e3
    refine⟨u',r',?_⟩
    rcases q with⟨k,e⟩ |⟨k,c,e,z⟩
    ·refine .inl ⟨k,?_⟩
     have:y≠x:=fun e=>hj (Z6w hN e1 (e ▸ hi))
     simp [this,e]
    ·exact .inr ⟨k,c,e,z.sameBut hs (cne y c e)⟩
  ·obtain⟨w',z⟩:=I.cell y c e
   exact⟨w',z.sameBut hs (cne y c e)⟩
  ·obtain⟨e,n,ne,nf,d⟩:=I.pin p hp
   exact⟨(hs.2 p.1 ne).trans e,n,ne,nf,d⟩
 ·have hfn:X.fn x=true:=by
   rcases hf with z |z
   ·exact z
   ·rw [z]at hk;cases hk
  obtain⟨c,hc⟩:=I.ok.has x (.inl hk)
  obtain⟨w',z⟩:=I.cell x c hc
  refine wpAny_storeName_cell I.ok.kind hk hc z (fun h' hc' hs=>?_)
  obtain⟨oc,hoc,hocd⟩:=id z
  refine h { s with heap:=h' } ⟨I.ok,I.os,I.bare,⟨fun b o e n hb hx=>?_,fun b o e n hb hx=>?_,I.base.free,fun b o e hx=>?_,I.base.tups,I.base.frzs,I.base.tbls⟩,⟨m,hn.sameBut hs (Ne.symm (cne x c hc)),fun j y v' e1 e2 e3=>?_⟩,fun y c' e=>?_,I.free,I.freeC,fun p hp=>?_,tracked ⟨oc,hoc,I.freeC x c hc⟩ hs,by simpa using I.len⟩ ⟨c,hs,.inr hc⟩
  ·exact(hs.2 b (Z0o (Z0v (Z0h e) (I.ok.cab x c hfn hc)))).trans (I.base.keep b o e n hb hx)
  ·obtain⟨sl,e1⟩:=I.base.slot b o e n hb hx
   exact⟨sl,(hs.2 b (Z0o (Z0v (Z0h e) (I.ok.cab x c hfn hc)))).trans e1⟩
  ·obtain⟨o',e1⟩:=I.base.there b o e hx
   exact⟨o',(hs.2 b (Z0o (Z0v (Z0h e) (I.ok.cab x c hfn hc)))).trans e1⟩
  ·by_cases hj:j=i
   ·subst hj
    rw [hi]at e1;cases e1
    rw [Z1m hiσ]at e2
    cases e2
    exact⟨u,r,.inr ⟨.inl hk,c,hc,hc'⟩⟩
   ·rw [Z1v (Ne.symm hj)]at e2
    obtain⟨u',r',q⟩:=hl j y v' e1 e2 e3
    refine⟨u',r',?_⟩
    rcases q with q |⟨k,c',e,z'⟩
    ·exact .inl q
    ·refine .inr ⟨k,c',e,z'.sameBut hs ?_⟩
     rintro rfl
     exact hj (Z6w hN e1 (I.ok.inj _ _ _ e hc ▸ hi))
  ·by_cases hcc:c'=c
   ·subst hcc;exact⟨_,hc'⟩
   ·obtain⟨w2,z2⟩:=I.cell y c' e
    exact⟨w2,z2.sameBut hs hcc⟩
  ·obtain⟨e,n,ne,nf,d⟩:=I.pin p hp
   refine⟨(hs.2 p.1 ?_).trans e,n,ne,nf,d⟩
   intro q
   rw [q,hoc]at e
   have q':oc=p.2:=Option.some.inj e
   exact d w' (by rw [←q'];exact hocd)
theorem Z5m{M:Model}{A:Around}{E:Value→Shared→Prop}{i:Nat}{x:Str}{v:V}{u:Value}{Q:Unit→Shared→Prop}(I:Inv X pins σ H s)(hN:X.N.Nodup)(hi:X.N[i]?=some x)(hx:Loc X.env.scope x)(r:RelV v u)
  (h:∀ s',Inv X pins (σ.set i (some v)) H s'→Q () s')(hf:X.fn x=true∨X.env.scope.names.lookup x=some .local:=by first |exact .inl rfl |exact .inr rfl |assumption):wpAny M A (storeName X.env x u) Q E s :=
 Z5R I hN hi hx r (fun s' I' _=>h s' I') hf
theorem Inv.call'{s':Shared}{ch:List Addr}(I:Inv X pins σ H s)(ho:s'.os=s.os)(u:Un (frs X.stack) ch H H' s.heap s'.heap)(hok:HOk X.prog X.w H' s'.heap)(hg:AllBare s'.gens)
  (hch:∀ b∈ch,(b∈X.ex∨X.s_0.heap.objs.size≤b)∧b≠X.env.locals∧(∀ x c,X.env.cells.lookup x=some c→c≠b)∧∀ p∈X.pn++pins,p.1≠b):Inv X pins σ H' s':=by
 obtain⟨h',g',d',t',o'⟩:=s'
 have e:o'=s.os:=ho
 subst e
 exact I.call (g':=g') (t':=t') (d':=d') u hok hg hch
end
abbrev XK:=Value→Option Addr→Hp→Prop
abbrev St:=List (Option V)
abbrev VK:=V→Hp→Prop
abbrev TE:=St→Hp→VK→Prop
abbrev TT:=St→Hp→(Bool→Hp→Prop)→Prop
abbrev TA:=St→Hp→(List V→Hp→Prop)→Prop
structure Ends where
 nx:St→Hp→Prop
 rt:VK
 bk:St→Hp→Prop:=fun _ _=>False
 ct:St→Hp→Prop:=fun _ _=>False
abbrev TS:=Ends→St→Hp→Prop
def EP(X:Cx)(pins:List (Addr×Obj))(σ:St)(Q:VK)(u:Value)(s':Shared):Prop:=∃ v H',Inv X pins σ H' s'∧RelV v u∧Q v H'
def TP(X:Cx)(pins:List (Addr×Obj))(σ:St)(Q:Bool→Hp→Prop)(b:Bool)(s':Shared):Prop:=∃ H',Inv X pins σ H' s'∧Q b H'
def AP(X:Cx)(pins:List (Addr×Obj))(σ:St)(Q:List V→Hp→Prop)(us:List Value)(s':Shared):Prop:=∃ vs H',Inv X pins σ H' s'∧Vals vs us∧Q vs H'
def SP(X:Cx)(pins:List (Addr×Obj))(D:Ends)(f:Flow)(s':Shared):Prop :=
 match f with
 |.next=>∃ σ' H',Inv X pins σ' H' s'∧D.nx σ' H'
 |.brk=>∃ σ' H',Inv X pins σ' H' s'∧D.bk σ' H'
 |.cont=>∃ σ' H',Inv X pins σ' H' s'∧D.ct σ' H'
 |.ret u=>∃ v σ' H',Inv X pins σ' H' s'∧RelV v u∧D.rt v H'
def PE(X:Cx)(e:Expr)(t:TE):Prop :=
 ∀ (pins:List (Addr×Obj))(s:Shared)(σ:St)(H:Hp)(Q:VK),Inv X pins σ H s→t σ H Q→wpAny (model X.prog X.w) X.A (eval e X.env) (EP X pins σ Q) X.xe s
def PT(X:Cx)(e:Expr)(t:TT):Prop :=
 ∀ (pins:List (Addr×Obj))(s:Shared)(σ:St)(H:Hp)(Q:Bool→Hp→Prop),Inv X pins σ H s→t σ H Q→wpAny (model X.prog X.w) X.A (isTrue e X.env (eval e X.env)) (TP X pins σ Q) X.xe s
def PW(X:Cx)(e:Expr)(t:TT):Prop :=
 ∀ (whole:Sem Value)(pins:List (Addr×Obj))(s:Shared)(σ:St)(H:Hp)(Q:Bool→Hp→Prop),Inv X pins σ H s→t σ H Q→wpAny (model X.prog X.w) X.A (isTrue e X.env whole) (TP X pins σ Q) X.xe s
theorem PW.pt{X:Cx}{e:Expr}{t:TT}(h:PW X e t):PT X e t:=h _
def PA(X:Cx)(es:List Expr)(t:TA):Prop :=
 ∀ (pos:Pos)(pins:List (Addr×Obj))(s:Shared)(σ:St)(H:Hp)(Q:List V→Hp→Prop),Inv X pins σ H s→t σ H Q→wpAny (model X.prog X.w) X.A (spliced (backTo pos (starEach es X.env))) (AP X pins σ Q) X.xe s
def PS(X:Cx)(st:Stmt)(t:TS):Prop :=
 ∀ (pins:List (Addr×Obj))(s:Shared)(σ:St)(H:Hp)(D:Ends),Inv X pins σ H s→t D σ H→wpAny (model X.prog X.w) X.A (exec st X.env) (SP X pins D) X.xe s
def PSs(X:Cx)(st:List Stmt)(t:TS):Prop :=
 ∀ (pins:List (Addr×Obj))(s:Shared)(σ:St)(H:Hp)(D:Ends),Inv X pins σ H s→t D σ H→wpAny (model X.prog X.w) X.A (execs st X.env) (SP X pins D) X.xe s
theorem thn{α:Type}{t:Sem α}{Q Q':α→Shared→Prop}{M:Model}{A:Around}{E:Value→Shared→Prop}{s:Shared}(h:wpAny M A t Q E s)(hQ:∀ a s,Q a s→Q' a s):wpAny M A t Q' E s:=wpAny_mono h hQ fun _ _ x=>x
end L2
namespace L2
open PySem PySem.Spec PyProof.Rows
section
variable{X:Cx}
theorem bin{a b:Expr}{ta tb:TE}(ha:PE X a ta)(hb:PE X b tb){pins:List (Addr×Obj)}{s:Shared}{σ:St}{H:Hp}{R:V→V→Hp→Prop}(I:Inv X pins σ H s)(h:ta σ H fun x H1=>tb σ H1 fun y H2=>R x y H2)
  {α:Type}{Q:α→Shared→Prop}{f:Value→Value→Sem α}
  (hf:∀ v u s2 x y H2,Inv X pins σ H2 s2→RelV x v→RelV y u→R x y H2→wpAny (model X.prog X.w) X.A (f v u) Q X.xe s2) :
  wpAny (model X.prog X.w) X.A (eval a X.env) (fun v s₁=>wpAny (model X.prog X.w) X.A (eval b X.env) (fun u s₂=>wpAny (model X.prog X.w) X.A (f v u) Q X.xe s₂) X.xe s₁) X.xe s:=by
 refine thn (ha pins s σ H _ I h) fun v s1 ⟨x,H1,I1,r1,q1⟩=>?_
 refine thn (hb pins s1 σ H1 _ I1 q1) fun u s2 ⟨y,H2,I2,r2,q2⟩=>?_
 exact hf v u s2 x y H2 I2 r1 r2 q2
def tVar(i:Nat):TE:=fun σ H Q=>∃ v,σ[i]?=some (some v)∧Q v H
def tC(v:V):TE:=fun _ H Q=>Q v H
theorem pe_var{i:Nat}{x:Str}{pos:Pos}(hN:X.N[i]?=some x)(hv:Vis X.env.scope x)(hd:(x==("__debug__" : Str))=false:=by decide)(hcd:(x==("__classdict__" : Str))=false:=by decide):PE X (.Name x pos) (tVar i):=by
 intro pins s σ H Q I h
 obtain⟨v,e,h⟩:=h
 obtain⟨m,hn,hl⟩:=I.loc
 obtain⟨u,r,l⟩:=hl i x v hN e hv
 have fin:EP X pins σ Q u s:=⟨v,H,I,r,h⟩
 rcases l with⟨hk,hm⟩ |⟨hk,c,hc,hcell⟩
 ·exact wpAny_Name (wpAny_loadName_local I.ok.kind hk hn hm fin) hd
 ·rcases hk with hk |hk
  ·exact wpAny_Name (wpAny_loadName_cell I.ok.kind hk hc hcell fin) hd
  ·exact wpAny_Name (wpAny_loadName_free I.ok.kind hk hc hcell fin hcd) hd
theorem Z2f{i j pos}:PE X (.Constant (.int i) j pos) (tC (.int i)):=fun _ _ _ H _ I h=>wpAny_Constant_int ⟨.int i,H,I.tok _,⟨_,rfl⟩,h⟩
theorem pe_bl{b j pos}:PE X (.Constant (.bool b) j pos) (tC (.bl b)):=fun _ _ _ H _ I h=>Constant_bool ⟨.bl b,H,I,rfl,h⟩
def Gl(X:Cx)(x:Str):Prop:=X.env.kindOf x=some .globalImplicit
theorem Z2V{E:Value→Shared→Prop}{pins:List (Addr×Obj)}{s:Shared}{σ:St}{H:Hp}{x:Str}{u:Value}{pos:Pos}{Q:Value→Shared→Prop}(I:Inv X pins σ H s)(hg:Gl X x)(hm:X.mg x=some u)(h:Q u s)
  (hd:(x==("__debug__" : Str))=false:=by decide):wpAny (model X.prog X.w) X.A (eval (.Name x pos) X.env) Q E s :=
 Calls.Name_function_global I.ok.kind hg (Calls.loadGlobal_global (by rw [I.ok.glob];exact I.mod.glob.keeps I.bk) hm h) hd
theorem Z6H{E:Value→Shared→Prop}{pins:List (Addr×Obj)}{s:Shared}{σ:St}{H:Hp}{x:Str}{u:Value}{pos:Pos}{Q:Value→Shared→Prop}(I:Inv X pins σ H s)(hg:Gl X x)(hm:X.mg x=none)(hv:bootBuiltins x=some u)(h:Q u s)
  (hn:x≠"__name__":=by decide)(hd:(x==("__debug__" : Str))=false:=by decide):wpAny (model X.prog X.w) X.A (eval (.Name x pos) X.env) Q E s:=by
 obtain⟨mb,h1,h2⟩:=I.mod.blt
 exact Calls.Name_function_global I.ok.kind hg (Calls.loadGlobal_builtin (by rw [I.ok.glob];exact I.mod.glob.keeps I.bk) hm (by rw [I.ok.blt];exact h1.keeps I.bk) ((h2 x hn).trans hv) h) hd
theorem Z6c{x:Str}{v:V}{u:Value}{pos:Pos}(hg:Gl X x)(hm:X.mg x=some u)(r:RelV v u)(hd:(x==("__debug__" : Str))=false:=by decide):PE X (.Name x pos) (tC v) :=
 fun _ _ _ H _ I h=>Z2V I hg hm ⟨v,H,I,r,h⟩ hd
variable{a b:Expr}{ta tb:TE}{pos:Pos}
def PC(X:Cx)(op:CmpOp)(a b:Expr)(t:TE):Prop :=
 ∀ (pins:List (Addr×Obj))(s:Shared)(σ:St)(H:Hp)(Q:VK),Inv X pins σ H s→t σ H Q →
  wpAny (model X.prog X.w) X.A (eval a X.env) (fun v s₁=>wpAny (model X.prog X.w) X.A (eval b X.env) (fun u s₂=>wpAny (model X.prog X.w) X.A (compareOp op v u) (EP X pins σ Q) X.xe s₂) X.xe s₁) X.xe s
def tB(t:TE):TT:=fun σ H Q=>t σ H fun x H1=>∃ c,x=.bl c∧Q c H1
theorem Z6I{op:CmpOp}{t:TE}(h:PC X op a b t)(h1:behindInMarks op b=false:=by first |exact nobehind _ (by decide) (by decide) |rfl):PT X (.Compare a [op] [b] pos) (tB t):=by
 intro pins s σ H Q I hw
 refine wpAny_isTrue_Compare1 (thn (h pins s σ H _ I hw) fun v s1 h1=>thn h1 fun u s2 h2=>thn h2 fun c s3 ⟨x,H1,I1,r1,q1⟩=>?_) h1
 obtain⟨d,rfl,q⟩:=q1
 cases r1
 exact wpAny_truthy_bool ⟨H1,I1,q⟩
theorem Z5g{e:Expr}{t:TE}(h:PE X e t)(he:∀ whole,isTrue e X.env whole=(do let v ←whole;standAt e.pos;holding [v] (truthy v)):=by intro _;rfl):PT X e (tB t):=by
 intro pins s σ H Q I hw
 refine isTrue_plain (thn (h pins s σ H _ I hw) fun v s1 ⟨x,H1,I1,r1,q1⟩=>?_) (he _)
 obtain⟨d,rfl,q⟩:=q1
 cases r1
 exact wpAny_truthy_bool ⟨H1,I1,q⟩
variable{tA tB':TT}{rest:List Expr}
def tAnd(t u:TT):TT:=fun σ H Q=>t σ H fun c H1=>if c=true then u σ H1 Q else Q false H1
def tOr(t u:TT):TT:=fun σ H Q=>t σ H fun c H1=>if c=true then Q true H1 else u σ H1 Q
def tNot(t:TT):TT:=fun σ H Q=>t σ H fun c H1=>Q (!c) H1
theorem Z6h(ha:PT X a tA):PW X (.BoolOp .And [a] pos) tA:=by
 intro wh pins s σ H Q I h
 refine isTrue_and (thn (ha pins s σ H Q I h) fun c s1 e=>?_)
 cases c with
 |true=>exact isTrue_and_nil e
 |false=>exact e
theorem Z7c(ha:PT X a tA):PW X (.BoolOp .Or [a] pos) tA:=by
 intro wh pins s σ H Q I h
 refine isTrue_or (thn (ha pins s σ H Q I h) fun c s1 e=>?_)
 cases c with
 |false=>exact isTrue_or_nil e
 |true=>exact e
theorem Z5L(ha:PT X a tA)(hb:PW X (.BoolOp .And (b::rest) pos) tB'):PW X (.BoolOp .And (a::b::rest) pos) (tAnd tA tB'):=by
 intro wh pins s σ H Q I h
 refine isTrue_and (thn (ha pins s σ H _ I h) fun c s1 ⟨H1,I1,q1⟩=>?_)
 cases c with
 |true=>exact hb wh pins s1 σ H1 Q I1 q1
 |false=>exact⟨H1,I1,q1⟩
theorem pw_or(ha:PT X a tA)(hb:PW X (.BoolOp .Or (b::rest) pos) tB'):PW X (.BoolOp .Or (a::b::rest) pos) (tOr tA tB'):=by
 intro wh pins s σ H Q I h
 refine isTrue_or (thn (ha pins s σ H _ I h) fun c s1 ⟨H1,I1,q1⟩=>?_)
 cases c with
 |true=>exact⟨H1,I1,q1⟩
 |false=>exact hb wh pins s1 σ H1 Q I1 q1
theorem Z8H(ha:PT X a tA):PT X (.UnaryOp .Not a pos) (tNot tA):=by
 intro pins s σ H Q I h
 exact isTrue_not (ha pins s σ H (fun c H1=>Q (!c) H1) I h)
def tAndV(ta tb:TE):TE:=fun σ H Q=>ta σ H fun x H1=>∃ c,x=.bl c∧if c=true then tb σ H1 Q else Q (.bl false) H1
def tNotV(ta:TE):TE:=fun σ H Q=>ta σ H fun x H1=>∃ c,x=.bl c∧Q (.bl (!c)) H1
theorem Z6E{op}{t:TE}(h:PE X a t):PE X (.BoolOp op [a] pos) t:=fun pins s σ H Q I hw=>BoolOp_one (h pins s σ H Q I hw)
theorem Z5N(ha:PE X a ta)(hb:PE X (.BoolOp .And (b::rest) pos) tb):PE X (.BoolOp .And (a::b::rest) pos) (tAndV ta tb):=by
 intro pins s σ H Q I h
 refine BoolOp_and (thn (ha pins s σ H _ I h) fun v s1 ⟨x,H1,I1,r1,q1⟩=>?_)
 obtain⟨c,rfl,q1⟩:=q1
 cases r1
 refine wpAny_truthy_bool ?_
 cases c with
 |true=>exact hb pins s1 σ H1 Q I1 q1
 |false=>exact⟨.bl false,H1,I1,rfl,q1⟩
theorem pe_not(ha:PE X a ta):PE X (.UnaryOp .Not a pos) (tNotV ta):=by
 intro pins s σ H Q I h
 refine UnaryOp_ (thn (ha pins s σ H _ I h) fun v s1 ⟨x,H1,I1,r1,q1⟩=>?_)
 obtain⟨c,rfl,q1⟩:=q1
 cases r1
 exact not_of (wpAny_truthy_bool ⟨.bl (!c),H1,I1,rfl,q1⟩)
def tIf(t:TT)(ta tb:TE):TE:=fun σ H Q=>t σ H fun c H1=>if c=true then ta σ H1 Q else tb σ H1 Q
theorem pe_ifExp{c:Expr}(hc:PT X c tA)(ha:PE X a ta)(hb:PE X b tb):PE X (.IfExp c a b pos) (tIf tA ta tb):=by
 intro pins s σ H Q I h
 refine wpAny_IfExp (thn (hc pins s σ H _ I h) fun d s1 ⟨H1,I1,q1⟩=>?_)
 cases d with
 |true=>exact ha pins s1 σ H1 Q I1 q1
 |false=>exact hb pins s1 σ H1 Q I1 q1
end
end L2
namespace L2
open PySem PySem.Spec PyProof.Rows
def SqL(K:Z0a)(H:Hp)(a:Addr)(xs:List V):Prop :=
 Rd H a (.lst xs) ∨
  ∃ (o:Obj)(its:Array Value)(n:Nat),K.lookup a=some o∧o.cls=.type "list"∧o.dict=none∧o.data=.seq its n∧its.size≤sizeLine∧Vals xs its.toList
def SqT(K:Z0a)(H:Hp)(a:Addr)(xs:List V):Prop :=
 Rd H a (.tup xs) ∨
  ∃ (o:Obj)(its:Array Value)(n:Nat),K.lookup a=some o∧o.cls=.type "tuple"∧o.data=.seq its n∧its.size≤sizeLine∧Vals xs its.toList
def absV:Value→Option V
 |.none=>some .non
 |.bool b=>some (.bl b)
 |.int i _=>some (.int i)
 |.str x _=>some (.str x)
 |.bytes b _=>some (.byt b)
 |.float b _=>some (.flt b)
 |.ref a=>some (.ref a)
 |.type n=>some (.ty n)
 |_=>none
theorem RelV.abs{x:V}{u:Value}(r:RelV x u):absV u=some x:=by
 cases x with
 |non=>cases r;rfl
 |bl _=>cases r;rfl
 |int _=>obtain⟨t,rfl⟩:=r;rfl
 |str _=>obtain⟨t,rfl⟩:=r;rfl
 |byt _=>obtain⟨t,rfl⟩:=r;rfl
 |flt _=>obtain⟨t,rfl⟩:=r;rfl
 |ref _=>cases r;rfl
 |ty _=>cases r;rfl
theorem RelV.inj{x y:V}{u:Value}(r:RelV x u)(q:RelV y u):x=y:=Option.some.inj (r.abs.symm.trans q.abs)
theorem Vals.inj:∀ {xs ys:List V}{us:List Value},Vals xs us→Vals ys us→xs=ys
 |_,_,_,.nil,.nil=>rfl
 |_,_,_,.cons r t,.cons r' t'=>by rw [r.inj r',Vals.inj t t']
section
variable{X:Cx}{pins:List (Addr×Obj)}{σ:St}{H:Hp}{s:Shared}{a:Addr}{xs ys:List V}
theorem SqL.of{K:Z0a}(h:H a=some (.lst xs)):SqL K H a xs:=.inl (.inl h)
theorem SqT.of{K:Z0a}(h:H a=some (.tup xs)):SqT K H a xs:=.inl (.inl h)
theorem Inv.list(I:Inv X pins σ H s)(h:SqL X.K H a xs):∃ its:List Value,Vals xs its∧PlainL s.heap a its.toArray∧xs.length≤sizeLine:=by
 rcases h with h |⟨o,its,n,hk,hc,hd,hs,hz,r⟩
 ·obtain⟨z,its,n,r,e⟩:=h.ok I.hok
  exact⟨its,r,⟨_,n,e,rfl,rfl,rfl⟩,z⟩
 ·refine⟨its.toList,r,⟨o,n,I.kIn a o hk,hc,hd,by simpa using hs⟩,?_⟩
  have e:=r.length
  simp only [Z1J]at e
  omega
theorem Inv.tuple(I:Inv X pins σ H s)(h:SqT X.K H a xs):∃ its:List Value,Vals xs its∧IsTup s.heap a its.toArray∧xs.length≤sizeLine:=by
 rcases h with h |⟨o,its,n,hk,hc,hs,hz,r⟩
 ·obtain⟨z,its,r,p⟩:=h.ok I.hok
  exact⟨its,r,p,z⟩
 ·refine⟨its.toList,r,⟨o,I.kIn a o hk,hc,n,by simpa using hs⟩,?_⟩
  have e:=r.length
  simp only [Z1J]at e
  omega
theorem Inv.list_inj(I:Inv X pins σ H s)(h:SqL X.K H a xs)(h':SqL X.K H a ys):xs=ys:=by
 obtain⟨its,r,⟨o,n,e,_,_,d⟩,_⟩:=I.list h
 obtain⟨its',r',⟨o',n',e',_,_,d'⟩,_⟩:=I.list h'
 rw [e]at e';cases e'
 rw [d]at d'
 injection d' with d1 _
 have:its=its':=by simpa using congrArg Array.toList d1
 subst this
 exact r.inj r'
theorem Inv.tuple_inj(I:Inv X pins σ H s)(h:SqT X.K H a xs)(h':SqT X.K H a ys):xs=ys:=by
 obtain⟨its,r,⟨o,e,_,n,d⟩,_⟩:=I.tuple h
 obtain⟨its',r',⟨o',e',_,n',d'⟩,_⟩:=I.tuple h'
 rw [e]at e';cases e'
 rw [d]at d'
 injection d' with d1 _
 have:its=its':=by simpa using congrArg Array.toList d1
 subst this
 exact r.inj r'
end
abbrev Cx.wish(X:Cx)(E:Value→Shared→Prop):Cx:={ X with xe:=E }
abbrev Cx.nox(X:Cx):Cx:=X.wish fun _ _=>False
theorem Cx.Ok.wish{X:Cx}(ok:X.Ok)(E:Value→Shared→Prop):(X.wish E).Ok :=
 ⟨ok.mod,ok.kind,ok.glob,ok.blt,ok.above,ok.inj,ok.has,ok.cab,ok.hd,ok.frames,ok.stk,ok.exf,ok.bs,ok.bsz,ok.noex,ok.exfs,ok.funs,ok.frf⟩
theorem Cx.Ok.unwish{X:Cx}{E:Value→Shared→Prop}(ok:(X.wish E).Ok):X.Ok :=
 ⟨ok.mod,ok.kind,ok.glob,ok.blt,ok.above,ok.inj,ok.has,ok.cab,ok.hd,ok.frames,ok.stk,ok.exf,ok.bs,ok.bsz,ok.noex,ok.exfs,ok.funs,ok.frf⟩
section
variable{X:Cx}{pins:List (Addr×Obj)}{σ:St}{H:Hp}{s:Shared}{E:Value→Shared→Prop}
theorem Inv.wish(I:Inv X pins σ H s)(E:Value→Shared→Prop):Inv (X.wish E) pins σ H s:=⟨I.ok.wish E,I.os,I.bare,I.base,I.loc,I.cell,I.free,I.freeC,I.pin,I.hok,I.len⟩
theorem Inv.unwish(I:Inv (X.wish E) pins σ H s):Inv X pins σ H s:=⟨I.ok.unwish,I.os,I.bare,I.base,I.loc,I.cell,I.free,I.freeC,I.pin,I.hok,I.len⟩
theorem SP.unwish{D:Ends}{f:Flow}{s':Shared}(h:SP (X.wish E) pins D f s'):SP X pins D f s':=by
 cases f with
 |next=>obtain⟨σ',H',I,q⟩:=h;exact⟨σ',H',I.unwish,q⟩
 |brk=>obtain⟨σ',H',I,q⟩:=h;exact⟨σ',H',I.unwish,q⟩
 |cont=>obtain⟨σ',H',I,q⟩:=h;exact⟨σ',H',I.unwish,q⟩
 |ret u=>obtain⟨v,σ',H',I,r,q⟩:=h;exact⟨v,σ',H',I.unwish,r,q⟩
theorem PSs.nox{st:List Stmt}{t:TS}(h:PSs X.nox st t):PSs X st t:=fun pins s σ H D I hw =>
 wpAny_mono (h pins s σ H D (I.wish _) hw) (fun _ _ q=>q.unwish) fun _ _ z=>False.elim z
end
section
variable{X:Cx}{st:Stmt}{rest:List Stmt}{t u:TS}{e:Expr}{te:TE}{pos:Pos}
def tNext:TS:=fun D σ H=>D.nx σ H
def tSeq(t u:TS):TS:=fun D σ H=>t { D with nx:=u D } σ H
theorem Z2w:PSs X [] tNext:=fun _ _ σ H _ I h=>wpAny_execs_nil ⟨σ,H,I,h⟩
theorem Z1Y(h1:PS X st t)(h2:PSs X rest u):PSs X (st::rest) (tSeq t u):=by
 intro pins s σ H D I h
 refine wpAny_execs_cons (thn (h1 pins s σ H { D with nx:=u D } I h) fun f s1 q=>?_)
 cases f with
 |next =>
  obtain⟨σ',H',I',q⟩:=q
  exact h2 pins s1 σ' H' D I' q
 |ret v=>exact q
 |brk=>exact q
 |cont=>exact q
theorem Z2c(h1:PS X st t):PSs X [st] t:=by
 intro pins s σ H D I h
 refine wpAny_execs_cons (thn (h1 pins s σ H D I h) fun f s1 q=>?_)
 cases f with
 |next=>exact wpAny_execs_nil q
 |ret v=>exact q
 |brk=>exact q
 |cont=>exact q
theorem Inv.quiet{pins:List (Addr×Obj)}{σ:St}{H:Hp}{s:Shared}(I:Inv X pins σ H s):interactive X.env=false:=by simp [interactive,I.ok.kind]
def tDrop(te:TE):TS:=fun D σ H=>te σ H fun _ H1=>D.nx σ H1
theorem Z2r(he:PE X e te)(hs:swapsWith e none pos.line X.env=pure false:=by rfl):PS X (.Expr e pos) (tDrop te):=by
 intro pins s σ H D I h
 exact wpAny_Expr_any (thn (he pins s σ H _ I h) fun v s1 ⟨x,H1,I1,r1,q1⟩=>⟨σ,H1,I1,q1⟩) I.quiet hs
def tRet(te:TE):TS:=fun D σ H=>te σ H D.rt
theorem Z2k(he:PE X e te):PS X (.Return (some e) pos) (tRet te):=by
 intro pins s σ H D I h
 exact wpAny_Return_some (thn (he pins s σ H _ I h) fun v s1 ⟨x,H1,I1,r1,q1⟩=>⟨x,σ,H1,I1,r1,q1⟩)
def tIfS(c:TT)(t u:TS):TS:=fun D σ H=>c σ H fun b H1=>if b=true then t D σ H1 else u D σ H1
theorem ps_if{c:Expr}{a b:List Stmt}{tc:TT}(hc:PT X c tc)(ha:PSs X a t)(hb:PSs X b u):PS X (.If c a b pos) (tIfS tc t u):=by
 intro pins s σ H D I h
 refine wpAny_If (thn (hc pins s σ H _ I h) fun d s1 ⟨H1,I1,q1⟩=>?_)
 cases d with
 |true=>exact ha pins s1 σ H1 D I1 q1
 |false=>exact hb pins s1 σ H1 D I1 q1
end
abbrev TG:=V→St→Hp→(St→Hp→Prop)→Prop
abbrev TGs:=List V→St→Hp→(St→Hp→Prop)→Prop
def PG(X:Cx)(target:Expr)(t:TG):Prop :=
 ∀ (pins:List (Addr×Obj))(s:Shared)(σ:St)(H:Hp)(v:V)(u:Value)(Q:St→Hp→Prop),Inv X pins σ H s→RelV v u→t v σ H Q →
  wpAny (model X.prog X.w) X.A (assign target X.env u) (fun _ s'=>∃ σ' H',Inv X pins σ' H' s'∧Q σ' H') X.xe s
def PGs(X:Cx)(ts:List Expr)(t:TGs):Prop :=
 ∀ (pins:List (Addr×Obj))(s:Shared)(σ:St)(H:Hp)(vs:List V)(us:List Value)(Q:St→Hp→Prop),Inv X pins σ H s→Vals vs us→t vs σ H Q →
  wpAny (model X.prog X.w) X.A (assignInOrder ((assignEach ts X.env).map (·.2)) us) (fun _ s'=>∃ σ' H',Inv X pins σ' H' s'∧Q σ' H') X.xe s
abbrev TSet:=V→V→V→Hp→(Hp→Prop)→Prop
def PSet(X:Cx)(t:TSet):Prop :=
 ∀ (pins:List (Addr×Obj))(s:Shared)(σ:St)(H:Hp)(o i v:V)(ov iv u:Value)(Q:Hp→Prop),Inv X pins σ H s→RelV o ov→RelV i iv→RelV v u→t o i v H Q →
  wpAny (model X.prog X.w) X.A (setItem ov iv u) (fun _ s'=>∃ H',Inv X pins σ H' s'∧Q H') X.xe s
abbrev TIp:=V→V→Hp→VK→Prop
def PIp(X:Cx)(op:Operator)(t:TIp):Prop :=
 ∀ (pins:List (Addr×Obj))(s:Shared)(σ:St)(H:Hp)(x y:V)(v u:Value)(Q:VK),Inv X pins σ H s→RelV x v→RelV y u→t x y H Q →
  wpAny (model X.prog X.w) X.A (inplaceOp op v u) (EP X pins σ Q) X.xe s
section
variable{X:Cx}{pos:Pos}
def gName(i:Nat):TG:=fun v σ H Q=>Q (σ.set i (some v)) H
theorem Z2x{i:Nat}{x:Str}(hN:X.N.Nodup)(hi:X.N[i]?=some x)(hx:Loc X.env.scope x)(hf:X.fn x=true∨X.env.scope.names.lookup x=some .local:=by first |exact .inl rfl |exact .inr rfl |assumption):PG X (.Name x pos) (gName i):=by
 intro pins s σ H v u Q I r h
 exact wpAny_assign_Name (Z5m I hN hi hx r (fun s' I'=>⟨_,H,I',h⟩) hf)
def gNil:TGs:=fun vs σ H Q=>vs=[]∧Q σ H
def gCons(t:TG)(u:TGs):TGs:=fun vs σ H Q=>∃ v r,vs=v::r∧t v σ H fun σ' H'=>u r σ' H' Q
theorem Z7t:PGs X [] gNil:=by
 intro pins s σ H vs us Q I r h
 obtain⟨e,h⟩:=h
 subst e
 cases r
 exact assignInOrder_nil ⟨σ,H,I,h⟩
theorem Z3Y{e:Expr}{es:List Expr}{t:TG}{u:TGs}(h1:PG X e t)(h2:PGs X es u)
  (hs:(assignEach (e::es) X.env).map (·.2)=assign e X.env::(assignEach es X.env).map (·.2):=by rfl):PGs X (e::es) (gCons t u):=by
 intro pins s σ H vs us Q I r h
 obtain⟨v,vr,e1,h⟩:=h
 subst e1
 cases r with
 |cons r rr =>
  rw [hs]
  refine assignInOrder_cons (thn (h1 pins s σ H _ _ _ I r h) fun _ s1 ⟨σ1,H1,I1,q1⟩=>?_)
  exact h2 pins s1 σ1 H1 _ _ Q I1 rr q1
def gTup(K:Z0a)(n:Nat)(t:TGs):TG:=fun v σ H Q=>∃ a xs,v=.ref a∧SqT K H a xs∧xs.length=n∧t xs σ H Q
theorem Z8M{es:List Expr}{k:Nat}{t:TGs}{n:Nat}(hc:X.calm=true)(h:PGs X es t)
  (hn:(assignEach es X.env).length=n:=by rfl)(hst:(assignEach es X.env).findIdx? (·.1)=none:=by rfl):PG X (.Tuple es k pos) (gTup X.K n t):=by
 intro pins s σ H v u Q I r hw
 obtain⟨a,xs,e1,hq,hl,hw⟩:=hw
 subst e1
 cases r
 obtain⟨its,rv,ht,hz⟩:=I.tuple hq
 refine assign_Tuple_tuple (I.ok.hd hc) ht (by simp [hn,←hl,rv.length]) hst fun h' hx=>?_
 have I1:Inv X pins σ H { s with heap:=h' }:=I.kept (t':=s.toks) fun b o e=>hx b o (Z0o (Z0h e)) e
 exact h pins _ σ H xs _ Q I1 (by simpa using rv) hw
def tAsg(te:TE)(g:TG):TS:=fun D σ H=>te σ H fun x H1=>g x σ H1 D.nx
theorem Z2h{i:Nat}{x:Str}{e:Expr}{te:TE}{pos':Pos}(hN:X.N.Nodup)(hi:X.N[i]?=some x)(hx:Loc X.env.scope x)(he:PE X e te)(hs:swapsWith e (some (.Name x pos')) pos.line X.env=pure false:=by rfl)(hf:X.fn x=true∨X.env.scope.names.lookup x=some .local:=by first |exact .inl rfl |exact .inr rfl |assumption) :
  PS X (.Assign [.Name x pos'] e pos) (tAsg te (gName i)):=by
 intro pins s σ H D I h
 refine wpAny_Assign_Name (thn (he pins s σ H _ I h) fun v s1 ⟨y,H1,I1,r1,q1⟩=>?_) hs
 exact Z5m I1 hN hi hx r1 (fun s2 I2=>⟨_,H1,I2,q1⟩) hf
def tAugS(to ti te:TE)(tget:V→V→Hp→VK→Prop)(tip:TIp)(tset:TSet):TS:=fun D σ H=>to σ H fun o H1=>ti σ H1 fun i H2=>tget o i H2 fun x H3=>te σ H3 fun y H4=>tip x y H4 fun z H5=>tset o i z H5 fun H6=>D.nx σ H6
def PGet(X:Cx)(t:V→V→Hp→VK→Prop):Prop :=
 ∀ (pins:List (Addr×Obj))(s:Shared)(σ:St)(H:Hp)(o i:V)(ov iv:Value)(Q:VK),Inv X pins σ H s→RelV o ov→RelV i iv→t o i H Q →
  wpAny (model X.prog X.w) X.A (getItem ov iv) (EP X pins σ Q) X.xe s
theorem Z9u{o i e:Expr}{to ti te:TE}{tget:V→V→Hp→VK→Prop}{tip:TIp}{tset:TSet}{op:Operator}{tpos:Pos}(ho:PE X o to)(hi:PE X i ti)(hg:PGet X tget)(he:PE X e te)(hp:PIp X op tip)(hs:PSet X tset)
  (ha:∀ ov iv new,augStore i ov iv new=(do holding [new,ov,iv] (setItem ov iv new);release [new,ov,iv] [];pure .next):=by intros;rfl):PS X (.AugAssign (.Subscript o i tpos) op e pos) (tAugS to ti te tget tip tset):=by
 intro pins s σ H D I h
 refine wpAny_AugAssign_SubscriptAny (thn (ho pins s σ H _ I h) fun ov s1 ⟨x1,H1,I1,r1,q1⟩=>?_) ha
 refine thn (hi pins s1 σ H1 _ I1 q1) fun iv s2 ⟨x2,H2,I2,r2,q2⟩=>?_
 refine thn (hg pins s2 σ H2 x1 x2 ov iv _ I2 r1 r2 q2) fun old s3 ⟨x3,H3,I3,r3,q3⟩=>?_
 refine thn (he pins s3 σ H3 _ I3 q3) fun v s4 ⟨x4,H4,I4,r4,q4⟩=>?_
 refine thn (hp pins s4 σ H4 x3 x4 old v _ I4 r3 r4 q4) fun new s5 ⟨x5,H5,I5,r5,q5⟩=>?_
 exact thn (hs pins s5 σ H5 x1 x2 x5 ov iv new _ I5 r1 r2 r5 q5) fun _ s6 ⟨H6,I6,q6⟩=>⟨σ,H6,I6,q6⟩
def ipI(f:Int→Int→Int):TIp:=fun x y H Q=>∃ i j,x=.int i∧y=.int j∧Q (.int (f i j)) H
theorem ip_add:PIp X .Add (ipI fun i j=>i+j):=by
 intro pins s σ H x y v u Q I r1 r2 h
 obtain⟨i,j,e1,e2,q⟩:=h
 subst e1;subst e2
 obtain⟨t,rfl⟩:=r1
 obtain⟨t',rfl⟩:=r2
 exact iadd_int ⟨.int _,H,I.tok _,⟨_,rfl⟩,q⟩
end
section
variable{X:Cx}{pos:Pos}
def Z8k(c:TT)(tb:TS):TS:=fun D σ H=>∃ W:Nat→St→Hp→Prop,(∃ m,W m σ H)∧∀ m σ H,W m σ H →
 c σ H fun b H1=>if b=true then ∃ N:St→Hp→Prop,(∀ σ' H',N σ' H'→∃ m',m' < m∧W m' σ' H')∧tb { D with nx:=N,ct:=N,bk:=D.nx } σ H1 else D.nx σ H1
theorem Z4y{c:Expr}{body:List Stmt}{tc:TT}{tb:TS}(hp:PassesOwn (model X.prog X.w) X.A X.env X.xe)(hc:PT X c tc)(hb:PSs X body tb):PS X (.While c body [] pos) (Z8k tc tb):=by
 intro pins s σ H D I h
 obtain⟨W,⟨m0,w0⟩,turn⟩:=h
 refine wpAny_While (codeAny_whileLoop (fun n s'=>∃ σ' H',Inv X pins σ' H' s'∧W n σ' H') ?_ m0 ⟨σ,H,I,w0⟩)
 rintro n s1 ⟨σ1,H1,I1,w1⟩
 refine wpAny_passesOwn hp (thn (hc pins s1 σ1 H1 _ I1 (turn n σ1 H1 w1)) fun b s2 ⟨H2,I2,q2⟩=>?_)
 cases b with
 |true =>
  obtain⟨N,hN,q2⟩:=q2
  rw [if_pos rfl]
  refine wpAny_passesOwn hp (thn (hb pins s2 σ1 H2 _ I2 q2) fun f s3 q3=>?_)
  cases f with
  |next =>
   obtain⟨σ3,H3,I3,n3⟩:=q3
   obtain⟨m',hm,w3⟩:=hN σ3 H3 n3
   exact⟨m',hm,σ3,H3,I3,w3⟩
  |cont =>
   obtain⟨σ3,H3,I3,n3⟩:=q3
   obtain⟨m',hm,w3⟩:=hN σ3 H3 n3
   exact⟨m',hm,σ3,H3,I3,w3⟩
  |brk=>exact q3
  |ret v=>exact q3
 |false =>
  rw [if_neg Z0t]
  exact wpAny_execs_nil ⟨σ1,H2,I2,q2⟩
end
structure It where
 go:Nat→Hp→Prop
 yld:Nat→Hp→V→Hp→Prop
 stop:Nat→Hp→Prop
def FpOk(X:Cx)(pins:List (Addr×Obj))(H:Hp)(b:Addr):Prop :=
 H b=none∧b≠X.env.locals∧b∉X.fs∧(b∈X.ex∨X.s_0.heap.objs.size≤b)∧(∀ x c,X.env.cells.lookup x=some c→c≠b)∧∀ p∈X.pn++pins,p.1≠b
theorem Inv.fpOk{X:Cx}{pins:List (Addr×Obj)}{σ:St}{H H':Hp}{s:Shared}{b:Addr}(I:Inv X pins σ H s)(hb:s.heap.objs.size≤b)(hn:H' b=none):FpOk X pins H' b:=by
 refine⟨hn,Z1n (Z0v I.lt hb),I.nofs hb,.inr (Z0x I.sz hb),fun x c e z=>?_,fun p hp z=>?_⟩
 ·obtain⟨v,q⟩:=I.cell x c e
  exact absurd (Z0v q.lt (by rw [z];exact hb)) (Z0u _)
 ·exact absurd (Z0v (Z0h (I.pin p hp).1) (by rw [z];exact hb)) (Z0u _)
structure Turn(P:Program)(w:World)(K:Z0a)(tg:Expr)(J:It)(fp:List Addr)(it:Addr)(tn:Nat→Heap→Prop):Prop where
 mem:it∈fp
 obj:∀ i h,tn i h→∀ b∈fp,∃ o,h.get? b=some o∧∀ v,o.data≠.cell v
 keep:∀ i h h',tn i h→(∀ b∈fp,∀ o,h.get? b=some o→h'.get? b=some o)→tn i h'
 item:∀ (X:Cx),X.prog=P→X.w=w→X.K=K→X.calm=true→∀ (i:Nat)(pins:List (Addr×Obj))(s:Shared)(σ:St)(H:Hp)(E:Value→Shared→Prop),Inv X pins σ H s→(∀ b∈fp,FpOk X pins H b)→tn i s.heap→J.go i H →
  wpAny (model P w) X.A (pyNext (.ref it)) (fun r s1=>∃ u,r=some u ∧
   wpAny (model P w) X.A (letOwnedTupleGo tg (.ref it) u) (fun _ s2=>∃ x H',Inv X pins σ H' s2∧RelV x u∧J.yld i H x H'∧tn (i+1) s2.heap∧∀ b∈fp,H' b=none) E s1) E s
 done:∀ (X:Cx),X.prog=P→X.w=w→X.K=K→X.calm=true→∀ (i:Nat)(pins:List (Addr×Obj))(s:Shared)(σ:St)(H:Hp)(E:Value→Shared→Prop),Inv X pins σ H s→(∀ b∈fp,FpOk X pins H b)→tn i s.heap→J.stop i H →
  wpAny (model P w) X.A (pyNext (.ref it)) (fun r s1=>r=none∧Inv X pins σ H s1) E s
 self:∀ (A:Around)(i:Nat)(s:Shared)(Q:Value→Shared→Prop)(E:Value→Shared→Prop),tn i s.heap→Q (.ref it) s→wpAny (model P w) A (pyIter (.ref it)) Q E s
abbrev TI:=St→Hp→(It→Hp→Prop)→Prop
def PIE(X:Cx)(pins:List (Addr×Obj))(σ:St)(tg:Expr)(R:It→Hp→Prop)(itv:Value)(s2:Shared):Prop :=
 ∃ (it:Addr)(fp:List Addr)(tn:Nat→Heap→Prop)(J:It)(H':Hp),itv=.ref it∧Inv X pins σ H' s2∧Turn X.prog X.w X.K tg J fp it tn∧tn 0 s2.heap∧(∀ b∈fp,FpOk X pins H' b)∧R J H'
def PI(X:Cx)(tg iter:Expr)(wi:TI):Prop :=
 ∀ (pins:List (Addr×Obj))(s:Shared)(σ:St)(H:Hp)(R:It→Hp→Prop),Inv X pins σ H s→wi σ H R →
  wpAny (model X.prog X.w) X.A (eval iter X.env) (fun v s1=>wpAny (model X.prog X.w) X.A (pyIter v) (PIE X pins σ tg R) X.xe s1) X.xe s
theorem go_of{M:Model}{A:Around}{E:Value→Shared→Prop}{s:Shared}{tg:Expr}{it:Addr}{u:Value}{o:Obj}{n:String}{vs:Array Value}{Q:Unit→Shared→Prop}(ho:s.heap.get? it=some o)(hc:o.cls=.type n)(hd:o.data=.fields vs)
  (hn:["enumerate","zip","dict_itemiterator","dict_reverseitemiterator","odict_iterator","itertools.zip_longest","itertools.pairwise"].contains n=false)(hQ:Q () s):wpAny M A (letOwnedTupleGo tg (.ref it) u) Q E s:=by
 unfold letOwnedTupleGo
 cases tg<;>first
  |exact wpAny_pure hQ
  |(cases u<;>first
     |exact wpAny_pure hQ
     |(refine wpAny_bind (wpAny_load ho ?_)
       rw [hc,hd]
       show wpAny M A (if (["enumerate","zip","dict_itemiterator","dict_reverseitemiterator","odict_iterator","itertools.zip_longest","itertools.pairwise"].contains n&&vs[0]?==some (rawInt _))=true then _ else _) Q E s
       rw [if_neg (by intro h;rw [hn,Bool.false_and]at h;cases h)]
       exact wpAny_pure hQ))
def Itl(K:Z0a)(a:Addr):It :=
 ⟨fun i H=>∃ xs x,SqL K H a xs∧xs[i]?=some x,fun i H x H'=>H'=H∧∀ xs,SqL K H a xs→xs[i]?=some x,fun i H=>∃ xs,SqL K H a xs∧xs.length≤i⟩
def Itt(K:Z0a)(a:Addr):It :=
 ⟨fun i H=>∃ xs x,SqT K H a xs∧xs[i]?=some x,fun i H x H'=>H'=H∧∀ xs,SqT K H a xs→xs[i]?=some x,fun i H=>∃ xs,SqT K H a xs∧xs.length≤i⟩
def Itr(lo:Int)(n:Nat):It:=⟨fun i _=>i<n,fun i H x H'=>H'=H∧x=.int (lo+i),fun i _=>n≤i⟩
theorem Zai{P:Program}{w:World}{K:Z0a}{tg:Expr}(a it:Addr):Turn P w K tg (Itl K a) [it] it (fun i h=>h.IsListIter it a i) where
 mem:=by simp
 obj:=fun i h st b hb=>by
  have e:b=it:=by simpa using hb
  subst e
  obtain⟨o,e,c,d⟩:=st
  exact⟨o,e,fun v z=>by rw [d]at z;cases z⟩
 keep:=fun i h h' st k=>st.at fun o e=>k it (by simp) o e
 item:=by
  intro X hP hw hK hc i pins s σ H E I hf st hg
  subst hP hw hK
  obtain⟨xs,x,hq,hx⟩:=hg
  obtain⟨its,rv,p,hz⟩:=I.list hq
  obtain⟨u,hu,ru⟩:=rv.get hx
  obtain⟨f0,f1,f2,f3,f4,f5⟩:=hf it (by simp)
  refine wpAny_pyNext_list_item st p.isList (x:=u) (by simpa using hu) fun h' st' sb=>?_
  have I1:Inv X pins σ H { s with heap:=h' }:=I.turned (t':=s.toks) (fun b o hb e=>(sb.2 b hb).trans e) f0 f1 f3 f4 f5
  obtain⟨o,e,c,d⟩:=id st'
  exact⟨u,rfl,go_of (s:={ s with heap:=h' }) e c d (by decide) ⟨x,H,I1,ru,⟨rfl,fun ys hy=>by rw [I.list_inj hy hq];exact hx⟩,st',fun b hb=>(hf b hb).1⟩⟩
 done:=by
  intro X hP hw hK hc i pins s σ H E I hf st hg
  subst hP hw hK
  obtain⟨xs,hq,hx⟩:=hg
  obtain⟨its,rv,p,hz⟩:=I.list hq
  obtain⟨f0,f1,f2,f3,f4,f5⟩:=hf it (by simp)
  have hl:=rv.length
  exact wpAny_pyNext_list_end (I.ok.hd hc) st p.isList (by simp;omega) fun h' eb=>⟨rfl,I.turned (t':=s.toks) (fun b o hb e=>eb b o hb e) f0 f1 f3 f4 f5⟩
 self:=fun _ _ _ _ _ st h=>wpAny_pyIter_listiter st h
theorem Z9V{P:Program}{w:World}{K:Z0a}{tg:Expr}(a it:Addr):Turn P w K tg (Itt K a) [it] it (fun i h=>h.IsTupleIter it a i) where
 mem:=by simp
 obj:=fun i h st b hb=>by
  have e:b=it:=by simpa using hb
  subst e
  obtain⟨o,e,c,d⟩:=st
  exact⟨o,e,fun v z=>by rw [d]at z;cases z⟩
 keep:=fun i h h' st k=>st.at fun o e=>k it (by simp) o e
 item:=by
  intro X hP hw hK hc i pins s σ H E I hf st hg
  subst hP hw hK
  obtain⟨xs,x,hq,hx⟩:=hg
  obtain⟨its,rv,p,hz⟩:=I.tuple hq
  obtain⟨u,hu,ru⟩:=rv.get hx
  obtain⟨f0,f1,f2,f3,f4,f5⟩:=hf it (by simp)
  refine wpAny_pyNext_tuple_item st (show s.heap.IsTuple a its.toArray from p) (x:=u) (by simpa using hu) fun h' st' sb=>?_
  have I1:Inv X pins σ H { s with heap:=h' }:=I.turned (t':=s.toks) (fun b o hb e=>(sb.2 b hb).trans e) f0 f1 f3 f4 f5
  obtain⟨o,e,c,d⟩:=id st'
  exact⟨u,rfl,go_of (s:={ s with heap:=h' }) e c d (by decide) ⟨x,H,I1,ru,⟨rfl,fun ys hy=>by rw [I.tuple_inj hy hq];exact hx⟩,st',fun b hb=>(hf b hb).1⟩⟩
 done:=by
  intro X hP hw hK hc i pins s σ H E I hf st hg
  subst hP hw hK
  obtain⟨xs,hq,hx⟩:=hg
  obtain⟨its,rv,p,hz⟩:=I.tuple hq
  obtain⟨f0,f1,f2,f3,f4,f5⟩:=hf it (by simp)
  have hl:=rv.length
  exact wpAny_pyNext_tuple_end (I.ok.hd hc) st (show s.heap.IsTuple a its.toArray from p) (by simp;omega) fun h' eb=>⟨rfl,I.turned (t':=s.toks) (fun b o hb e=>eb b o hb e) f0 f1 f3 f4 f5⟩
 self:=fun _ _ _ _ _ st h=>wpAny_pyIter_tupleiter st h
theorem Z9Q{P:Program}{w:World}{K:Z0a}{tg:Expr}(it:Addr)(lo:Int)(n:Nat):Turn P w K tg (Itr lo n) [it] it (fun i h=>IsRangeIter h it (lo+(i:Nat)*1) ((n:Int)-(i:Nat)) 1) where
 mem:=by simp
 obj:=fun i h st b hb=>by
  have e:b=it:=by simpa using hb
  subst e
  exact⟨_,st,fun v z=>by
   have z':Data.fields _=Data.cell v:=z
   cases z'⟩
 keep:=fun i h h' st k=>k it (by simp) _ st
 item:=by
  intro X hP hw hK hc i pins s σ H E I hf st hg
  subst hP hw hK
  obtain⟨f0,f1,f2,f3,f4,f5⟩:=hf it (by simp)
  have W:=Walks.range (prog:=X.prog) (w:=X.w) (I.ok.hd hc) it lo 1 n
  refine W.item i s _ _ hg st fun v h' tk hv st' kk=>?_
  obtain⟨t,rfl⟩:=hv
  have I1:Inv X pins σ H { s with heap:=h',toks:=tk }:=I.turned (fun b o hb e=>kk b o (by simpa using hb) e) f0 f1 f3 f4 f5
  refine⟨_,rfl,go_of (s:={ s with heap:=h',toks:=tk }) (n:="range_iterator") st' rfl rfl (by decide) ⟨.int (lo+i),H,I1,⟨t,?_⟩,⟨rfl,rfl⟩,st',fun b hb=>(hf b hb).1⟩⟩
  rw [Int.mul_one]
 done:=by
  intro X hP hw hK hc i pins s σ H E I hf st hg
  subst hP hw hK
  obtain⟨f0,f1,f2,f3,f4,f5⟩:=hf it (by simp)
  exact wpAny_pyNext_range_end (I.ok.hd hc) st (by have:n≤i:=hg;omega) fun h' eb=>⟨rfl,I.turned (t':=s.toks) (fun b o hb e=>eb b o hb e) f0 f1 f3 f4 f5⟩
 self:=fun _ _ _ _ _ st h=>wpAny_pyIter_rangeiter st h
end L2
namespace L2
open PySem PySem.Spec PyProof.Rows
section
variable{X:Cx}{tg:Expr}
def iList(K:Z0a)(tl:TE):TI:=fun σ H R=>tl σ H fun x H1=>∃ a,x=.ref a∧(∃ xs,SqL K H1 a xs)∧R (Itl K a) H1
def iTup(K:Z0a)(tl:TE):TI:=fun σ H R=>tl σ H fun x H1=>∃ a,x=.ref a∧(∃ xs,SqT K H1 a xs)∧R (Itt K a) H1
theorem Z4v{l:Expr}{tl:TE}(hl:PE X l tl):PI X tg l (iList X.K tl):=by
 intro pins s σ H R I h
 refine thn (hl pins s σ H _ I h) fun v s1 ⟨x,H1,I1,r1,q1⟩=>?_
 obtain⟨a,e,⟨xs,hq⟩,q⟩:=q1
 subst e
 cases r1
 obtain⟨its,rv,p,hz⟩:=I1.list hq
 refine wpAny_pyIter_list p.isList ?_
 refine⟨s1.heap.objs.size,[s1.heap.objs.size],_,_,H1,rfl,I1.kept (t':=s1.toks) fun b o e=>Z0m _ e,Zai a _,⟨_,Z0C _ rfl,rfl,rfl⟩,fun b hb=>?_,q⟩
 have e:b=s1.heap.objs.size:=by simpa using hb
 subst e
 exact I1.fpOk (Z0e _) (I1.hok.fresh (Z0e _))
theorem pi_tup{l:Expr}{tl:TE}(hl:PE X l tl):PI X tg l (iTup X.K tl):=by
 intro pins s σ H R I h
 refine thn (hl pins s σ H _ I h) fun v s1 ⟨x,H1,I1,r1,q1⟩=>?_
 obtain⟨a,e,⟨xs,hq⟩,q⟩:=q1
 subst e
 cases r1
 obtain⟨its,rv,p,hz⟩:=I1.tuple hq
 refine wpAny_pyIter_tuple (show s1.heap.IsTuple a its.toArray from p) ?_
 refine⟨s1.heap.objs.size,[s1.heap.objs.size],_,_,H1,rfl,I1.kept (t':=s1.toks) fun b o e=>Z0m _ e,Z9V a _,⟨_,Z0C _ rfl,rfl,rfl⟩,fun b hb=>?_,q⟩
 have e:b=s1.heap.objs.size:=by simpa using hb
 subst e
 exact I1.fpOk (Z0e _) (I1.hok.fresh (Z0e _))
theorem range_it{pins:List (Addr×Obj)}{σ:St}{H:Hp}{s:Shared}{R:It→Hp→Prop}{E:Value→Shared→Prop}{lo hi:Int}{t u v:Tok}{tk:Nat}(I:Inv X pins σ H s)(h1:-(2 ^ 62)≤lo)(h2:lo<2 ^ 62)(h3:-(2 ^ 62)≤hi)(h4:hi<2 ^ 62)
  (q:R (Itr lo (hi-lo).toNat) H):wpAny (model X.prog X.w) X.A (pyIter (.ref s.heap.objs.size)) (PIE X pins σ tg R) E { s with heap:=s.heap.push { cls:=.type "range",data:=.fields #[.int lo t,.int hi u,.int 1 v] },toks:=tk }:=by
 refine wpAny_pyIter_range (IsRange.new ..) (small_one h1 h2 h3 h4) ?_
 have I1:Inv X pins σ H { s with heap:=s.heap.push { cls:=.type "range",data:=.fields #[.int lo t,.int hi u,.int 1 v] },toks:=tk }:=I.kept fun b o e=>Z0m _ e
 refine⟨(s.heap.push { cls:=.type "range",data:=.fields #[.int lo t,.int hi u,.int 1 v] }).objs.size,[(s.heap.push { cls:=.type "range",data:=.fields #[.int lo t,.int hi u,.int 1 v] }).objs.size],_,_,H,rfl,
  I1.kept (t':=tk) fun b o e=>Z0m _ e,Z9Q _ lo (hi-lo).toNat,?_,fun b hb=>?_,q⟩
 ·have e1:lo+((0:Nat):Int)*1=lo:=by simp
  have e2:(((hi-lo).toNat:Nat):Int)-((0:Nat):Int)=Builtin.Range.rangeSize lo hi 1:=by rw [rangeSize_one];split<;>omega
  show IsRangeIter _ _ (lo+((0:Nat):Int)*1) ((((hi-lo).toNat:Nat):Int)-((0:Nat):Int)) 1
  rw [e1,e2]
  exact Z0C _ rfl
 ·have e:b=(s.heap.push { cls:=.type "range",data:=.fields #[.int lo t,.int hi u,.int 1 v] }).objs.size:=by simpa using hb
  subst e
  exact I1.fpOk (Z0e _) (I1.hok.fresh (Z0e _))
def iRng1(ta:TA):TI:=fun σ H R=>ta σ H fun vs H1=>∃ j:Int,vs=[.int j]∧-(2 ^ 62)≤j∧j<2 ^ 62∧R (Itr 0 j.toNat) H1
theorem Z4m{a:Expr}{ta:TA}{p pos:Pos}(hg:Gl X "range")(hm:X.mg "range" = none)(ha:PA X [a] ta)(hs:starEach [a] X.env=[(false,eval a X.env)]:=by rfl):PI X tg (.Call (.Name "range" p) [a] [] pos) (iRng1 ta):=by
 intro pins s σ H R I h
 refine Call_ (Z6H I hg hm boot_range (PyProof.Rows.callWith_type1 (thn (ha pos pins s σ H _ I h) fun us s1 ⟨vs,H1,I1,r1,q1⟩=>?_) hs rfl))
 obtain⟨j,e,q1,q2,q⟩:=q1
 subst e
 cases r1 with
 |cons r rr =>
  cases rr
  obtain⟨t,rfl⟩:=r
  exact call_range_1 (range_it I1 (by omega) (by omega) q1 q2 (by simpa using q))
def tFor(wi:TI)(g:TG)(tb:TS):TS:=fun D σ H=>wi σ H fun J H1=>∃ W:Nat→Nat→St→Hp→Prop,(∃ m,W 0 m σ H1)∧∀ i m σ H,W i m σ H →
 (J.stop i H∧D.nx σ H)∨(J.go i H∧∃ N:St→Hp→Prop,(∀ σ' H',N σ' H'→∃ m',m' < m∧W (i+1) m' σ' H')∧∀ x H',J.yld i H x H'→g x σ H' fun σ2 H2=>tb { D with nx:=N,ct:=N,bk:=D.nx } σ2 H2)
def Z5f(fp:List Addr)(h:Heap):List (Addr×Obj):=fp.filterMap fun b=>(h.get? b).map fun o=>(b,o)
theorem Z4q{fp:List Addr}{h:Heap}{b:Addr}{o:Obj}(hb:b∈fp)(e:h.get? b=some o):(b,o)∈Z5f fp h:=List.mem_filterMap.mpr ⟨b,hb,by rw [e];rfl⟩
theorem Zas{fp:List Addr}{h:Heap}{p:Addr×Obj}(hp:p∈Z5f fp h):p.1∈fp∧h.get? p.1=some p.2:=by
 obtain⟨b,hb,e⟩:=List.mem_filterMap.mp hp
 cases q:h.get? b with
 |none=>rw [q]at e;cases e
 |some o =>
  rw [q]at e
  have e':(b,o)=p:=Option.some.inj e
  subst e'
  exact⟨hb,q⟩
theorem Inv.pinned{pins:List (Addr×Obj)}{σ:St}{H:Hp}{s:Shared}{fp:List Addr}(I:Inv X pins σ H s)(hf:∀ b∈fp,FpOk X pins H b)(ho:∀ b∈fp,∃ o,s.heap.get? b=some o∧∀ v,o.data≠.cell v):Inv X (pins++Z5f fp s.heap) σ H s :=
 I.pins_of fun p hp=>(Z0k.mp hp).elim (fun z=>I.pin p (Z0J _ z)) fun z=>by
  obtain⟨hb,e⟩:=Zas z
  obtain⟨f0,f1,f2,_⟩:=hf p.1 hb
  obtain⟨o,e',d⟩:=ho p.1 hb
  rw [e]at e';cases e'
  exact⟨e,f0,f1,f2,d⟩
theorem Inv.unpinned{pins pl:List (Addr×Obj)}{σ:St}{H:Hp}{s:Shared}(I:Inv X (pins++pl) σ H s):Inv X pins σ H s:=I.pins_of fun p hp=>I.pin p (Z0J _ (Z0K _ hp))
theorem Z3l{iter:Expr}{body:List Stmt}{wi:TI}{g:TG}{tb:TS}{pos:Pos}(hp:PassesOwn (model X.prog X.w) X.A X.env X.xe)(hc:X.calm=true)(hi:PI X tg iter wi)(hg:PG X tg g)(hb:PSs X body tb)
  (hs:∀ x,foldedSetIterable iter X.env x=pure x:=by intro _;rfl):PS X (.For tg iter body [] pos) (tFor wi g tb):=by
 intro pins s σ H D I h
 refine wpAny_For (thn (hi pins s σ H _ I h) fun v s1 h1=>thn h1 fun itv s2 h2=>?_) hs
 obtain⟨it,fp,tn,J,H2,e,I2,T,st2,f2,W,⟨m0,w0⟩,turn⟩:=h2
 subst e
 have stat:∀ {H':Hp},(∀ b∈fp,H' b=none)→∀ b∈fp,FpOk X pins H' b:=fun hn b hb=>⟨hn b hb,(f2 b hb).2⟩
 refine codeAny_forLoop_any (fun n s'=>∃ i σ' H',Inv X pins σ' H' s'∧tn i s'.heap∧(∀ b∈fp,H' b=none)∧W i n σ' H') ?_ m0 ⟨0,σ,H2,I2,st2,fun b hb=>(f2 b hb).1,w0⟩
 rintro n s3 ⟨i,σ3,H3,I3,st3,fr3,w3⟩
 rcases turn i n σ3 H3 w3 with⟨stop,qn⟩ |⟨go,N,hN,step⟩
 ·refine wpAny_passesOwn hp (thn (T.done X rfl rfl rfl hc i pins s3 σ3 H3 X.xe I3 (stat fr3) st3 stop) fun r s4 ⟨hr,I4⟩=>?_)
  subst hr
  exact wpAny_execs_nil ⟨σ3,H3,I4,qn⟩
 ·refine wpAny_passesOwn hp (thn (T.item X rfl rfl rfl hc i pins s3 σ3 H3 X.xe I3 (stat fr3) st3 go) fun r s4 ⟨u,hr,h4⟩=>?_)
  subst hr
  refine wpAny_passesOwn hp (thn h4 fun _ s5 ⟨x,H5,I5,r5,y5,st5,fr5⟩=>?_)
  have I5':=I5.pinned (stat fr5) (T.obj _ _ st5)
  refine wpAny_passesOwn hp (thn (hg _ s5 σ3 H5 x u _ I5' r5 (step x H5 y5)) fun _ s6 ⟨σ6,H6,I6,q6⟩=>?_)
  refine wpAny_passesOwn hp (thn (hb _ s6 σ6 H6 _ I6 q6) fun f s7 q7=>?_)
  have again:∀ {σ7:St}{H7:Hp},Inv X (pins++Z5f fp s5.heap) σ7 H7 s7→N σ7 H7→∃ m,m<n∧∃ i σ' H',Inv X pins σ' H' s7∧tn i s7.heap∧(∀ b∈fp,H' b=none)∧W i m σ' H':=fun{σ7 H7} I7 n7=>by
   obtain⟨m',hm,w7⟩:=hN σ7 H7 n7
   refine⟨m',hm,i+1,σ7,H7,I7.unpinned,T.keep _ _ _ st5 fun b hb o e=>(I7.pin (b,o) (Z0J _ (Z0J _ (Z4q hb e)))).1,fun b hb=>?_,w7⟩
   obtain⟨o,e,d⟩:=T.obj _ _ st5 b hb
   exact(I7.pin (b,o) (Z0J _ (Z0J _ (Z4q hb e)))).2.1
  cases f with
  |next=>obtain⟨σ7,H7,I7,n7⟩:=q7;exact again I7 n7
  |cont=>obtain⟨σ7,H7,I7,n7⟩:=q7;exact again I7 n7
  |brk=>obtain⟨σ7,H7,I7,q7⟩:=q7;exact⟨σ7,H7,I7.unpinned,q7⟩
  |ret v=>obtain⟨x7,σ7,H7,I7,r7,q7⟩:=q7;exact⟨x7,σ7,H7,I7.unpinned,r7,q7⟩
end
theorem Z5s{K:Z0a}{a:Addr}{xs:List V}{g:TG}{tb:TS}{D:Ends}{σ:St}{H:Hp}(Pv:Nat→St→Hp→Prop)(h0:Pv 0 σ H)(hl:∀ i σ H,i≤xs.length→Pv i σ H→SqL K H a xs)
  (hs:∀ i x σ H,xs[i]?=some x→Pv i σ H→g x σ H fun σ2 H2=>tb { D with nx:=Pv (i+1),ct:=Pv (i+1),bk:=D.nx } σ2 H2)(hd:∀ σ H,Pv xs.length σ H→D.nx σ H) :
  ∃ W:Nat→Nat→St→Hp→Prop,(∃ m,W 0 m σ H)∧∀ i m σ H,W i m σ H →
   ((Itl K a).stop i H∧D.nx σ H)∨((Itl K a).go i H∧∃ N:St→Hp→Prop,(∀ σ' H',N σ' H'→∃ m',m' < m∧W (i+1) m' σ' H')∧∀ x H',(Itl K a).yld i H x H'→g x σ H' fun σ2 H2=>tb { D with nx:=N,ct:=N,bk:=D.nx } σ2 H2):=by
 refine⟨fun i m σ H=>m=xs.length-i∧i≤xs.length∧Pv i σ H,⟨xs.length,by simp,Z0q _,h0⟩,?_⟩
 rintro i m σ H ⟨rfl,hi,p⟩
 have q:=hl i σ H hi p
 by_cases hlt:i<xs.length
 ·refine .inr ⟨⟨xs,xs[i],q,by simp [hlt]⟩,Pv (i+1),fun σ' H' p'=>⟨xs.length-(i+1),by omega,rfl,hlt,p'⟩,fun x H' y=>?_⟩
  obtain⟨e,y⟩:=y
  subst e
  exact hs i x σ _ (y xs q) p
 ·have e:i=xs.length:=by omega
  subst e
  exact .inl ⟨⟨xs,q,Z0e _⟩,hd σ H p⟩
theorem Z9e{K:Z0a}{a:Addr}{xs:List V}{g:TG}{tb:TS}{D:Ends}{σ:St}{H:Hp}(Pv:Nat→St→Hp→Prop)(h0:Pv 0 σ H)(hl:∀ i σ H,i≤xs.length→Pv i σ H→SqT K H a xs)
  (hs:∀ i x σ H,xs[i]?=some x→Pv i σ H→g x σ H fun σ2 H2=>tb { D with nx:=Pv (i+1),ct:=Pv (i+1),bk:=D.nx } σ2 H2)(hd:∀ σ H,Pv xs.length σ H→D.nx σ H) :
  ∃ W:Nat→Nat→St→Hp→Prop,(∃ m,W 0 m σ H)∧∀ i m σ H,W i m σ H →
   ((Itt K a).stop i H∧D.nx σ H)∨((Itt K a).go i H∧∃ N:St→Hp→Prop,(∀ σ' H',N σ' H'→∃ m',m' < m∧W (i+1) m' σ' H')∧∀ x H',(Itt K a).yld i H x H'→g x σ H' fun σ2 H2=>tb { D with nx:=N,ct:=N,bk:=D.nx } σ2 H2):=by
 refine⟨fun i m σ H=>m=xs.length-i∧i≤xs.length∧Pv i σ H,⟨xs.length,by simp,Z0q _,h0⟩,?_⟩
 rintro i m σ H ⟨rfl,hi,p⟩
 have q:=hl i σ H hi p
 by_cases hlt:i<xs.length
 ·refine .inr ⟨⟨xs,xs[i],q,by simp [hlt]⟩,Pv (i+1),fun σ' H' p'=>⟨xs.length-(i+1),by omega,rfl,hlt,p'⟩,fun x H' y=>?_⟩
  obtain⟨e,y⟩:=y
  subst e
  exact hs i x σ _ (y xs q) p
 ·have e:i=xs.length:=by omega
  subst e
  exact .inl ⟨⟨xs,q,Z0e _⟩,hd σ H p⟩
theorem Zaa{lo:Int}{n:Nat}{g:TG}{tb:TS}{D:Ends}{σ:St}{H:Hp}(Pv:Nat→St→Hp→Prop)(h0:Pv 0 σ H)
  (hs:∀ i σ H,i<n→Pv i σ H→g (.int (lo+i)) σ H fun σ2 H2=>tb { D with nx:=Pv (i+1),ct:=Pv (i+1),bk:=D.nx } σ2 H2)(hd:∀ σ H,Pv n σ H→D.nx σ H) :
  ∃ W:Nat→Nat→St→Hp→Prop,(∃ m,W 0 m σ H)∧∀ i m σ H,W i m σ H →
   ((Itr lo n).stop i H∧D.nx σ H)∨((Itr lo n).go i H∧∃ N:St→Hp→Prop,(∀ σ' H',N σ' H'→∃ m',m' < m∧W (i+1) m' σ' H')∧∀ x H',(Itr lo n).yld i H x H'→g x σ H' fun σ2 H2=>tb { D with nx:=N,ct:=N,bk:=D.nx } σ2 H2):=by
 refine⟨fun i m σ H=>m=n-i∧i≤n∧Pv i σ H,⟨n,by simp,Z0q _,h0⟩,?_⟩
 rintro i m σ H ⟨rfl,hi,p⟩
 by_cases hlt:i<n
 ·refine .inr ⟨hlt,Pv (i+1),fun σ' H' p'=>⟨n-(i+1),by omega,rfl,hlt,p'⟩,fun x H' y=>?_⟩
  obtain⟨e,y⟩:=y
  subst e y
  exact hs i σ _ hlt p
 ·have e:i=n:=by omega
  subst e
  exact .inl ⟨Z0e _,hd σ H p⟩
theorem Z5u{c:TT}{tb:TS}{D:Ends}{σ:St}{H:Hp}(Pv:St→Hp→Prop)(μ:St→Hp→Nat)(h0:Pv σ H)
  (hs:∀ σ H,Pv σ H→c σ H fun b H1=>if b=true then tb { D with nx:=fun σ' H'=>Pv σ' H'∧μ σ' H' < μ σ H,ct:=fun σ' H'=>Pv σ' H'∧μ σ' H' < μ σ H,bk:=D.nx } σ H1 else D.nx σ H1)
  (mono:∀ σ H Q Q',(∀ b H1,Q b H1→Q' b H1)→c σ H Q→c σ H Q'):Z8k c tb D σ H:=by
 refine⟨fun m σ H=>m=μ σ H∧Pv σ H,⟨_,rfl,h0⟩,?_⟩
 rintro m σ H ⟨rfl,p⟩
 refine mono σ H _ _ (fun b H1 q=>?_) (hs σ H p)
 cases b with
 |true=>exact⟨_,fun σ' H' ⟨p',l⟩=>⟨_,l,rfl,p'⟩,q⟩
 |false=>exact q
end L2
namespace L2
open PySem PySem.Spec PyProof.Rows
abbrev R2:=V→V→Hp→VK→Prop
def OpR(X:Cx)(f:Value→Value→Sem Value)(r:R2):Prop :=
 ∀ (pins:List (Addr×Obj))(s:Shared)(σ:St)(H:Hp)(x y:V)(v u:Value)(Q:VK),Inv X pins σ H s→RelV x v→RelV y u→r x y H Q →
  wpAny (model X.prog X.w) X.A (f v u) (EP X pins σ Q) X.xe s
def UnR(X:Cx)(f:Value→Sem Value)(r:V→Hp→VK→Prop):Prop :=
 ∀ (pins:List (Addr×Obj))(s:Shared)(σ:St)(H:Hp)(x:V)(v:Value)(Q:VK),Inv X pins σ H s→RelV x v→r x H Q →
  wpAny (model X.prog X.w) X.A (f v) (EP X pins σ Q) X.xe s
def CallR(X:Cx)(f:Value)(r:List V→Hp→VK→Prop):Prop :=
 ∀ (pins:List (Addr×Obj))(s:Shared)(σ:St)(H:Hp)(xs:List V)(us:List Value)(Q:VK),Inv X pins σ H s→Vals xs us→r xs H Q →
  wpAny (model X.prog X.w) X.A (call f us) (EP X pins σ Q) X.xe s
def TruR(X:Cx)(r:V→Hp→(Bool→Hp→Prop)→Prop):Prop :=
 ∀ (pins:List (Addr×Obj))(s:Shared)(σ:St)(H:Hp)(x:V)(v:Value)(Q:Bool→Hp→Prop),Inv X pins σ H s→RelV x v→r x H Q →
  wpAny (model X.prog X.w) X.A (truthy v) (TP X pins σ Q) X.xe s
def tOp(r:R2)(ta tb:TE):TE:=fun σ H Q=>ta σ H fun x H1=>tb σ H1 fun y H2=>r x y H2 Q
def tUn(r:V→Hp→VK→Prop)(ta:TE):TE:=fun σ H Q=>ta σ H fun x H1=>r x H1 Q
def rI(C:Int→Int→Prop)(g:Int→Int→V):R2:=fun x y H Q=>∃ i j,x=.int i∧y=.int j∧C i j∧Q (g i j) H
def rI0(g:Int→Int→V):R2:=fun x y H Q=>∃ i j,x=.int i∧y=.int j∧Q (g i j) H
def rU(g:Int→V):V→Hp→VK→Prop:=fun x H Q=>∃ i,x=.int i∧Q (g i) H
section
variable{X:Cx}{a b c:Expr}{ta tb tc:TE}{pos:Pos}
theorem binT(ha:PE X a ta)(hb:PE X b tb){pins:List (Addr×Obj)}{s:Shared}{σ:St}{H:Hp}{R:V→V→Hp→Prop}(I:Inv X pins σ H s)
  (h:ta σ H fun x H1=>tb σ H1 fun y H2=>R x y H2){Q:Value→Shared→Prop}{f:Value→Value→Sem Value}
  (hf:∀ v u s2 x y H2,Inv X pins σ H2 s2→RelV x v→RelV y u→R x y H2→wpAny (model X.prog X.w) X.A (f v u) Q X.xe s2) :
  wpAny (model X.prog X.w) X.A (eval a X.env) (fun v s₁=>wpAny (model X.prog X.w) X.A (eval b X.env) (fun u s₂=>wpAny (model X.prog X.w) X.A (f v u) Q X.xe s₂) X.xe s₁) X.xe s:=by
 refine thn (ha pins s σ H _ I h) fun v s1 ⟨x,H1,I1,r1,q1⟩=>?_
 refine thn (hb pins s1 σ H1 _ I1 q1) fun u s2 ⟨y,H2,I2,r2,q2⟩=>?_
 exact hf v u s2 x y H2 I2 r1 r2 q2
theorem pe_op{op:Operator}{r:R2}(ho:OpR X (binaryOp op) r)(ha:PE X a ta)(hb:PE X b tb):PE X (.BinOp a op b pos) (tOp r ta tb):=by
 intro pins s σ H Q I h
 exact wpAny_BinOp (binT ha hb I h fun v u s2 x y H2 I2 rx ry q=>ho pins s2 σ H2 x y v u Q I2 rx ry q)
theorem pe_un{op:UnaryOp}{r:V→Hp→VK→Prop}(ho:UnR X (unaryOp op) r)(ha:PE X a ta):PE X (.UnaryOp op a pos) (tUn r ta):=by
 intro pins s σ H Q I h
 exact UnaryOp_ (thn (ha pins s σ H _ I h) fun v s1 ⟨x,H1,I1,r1,q1⟩=>ho pins s1 σ H1 x v Q I1 r1 q1)
theorem opI{f:Value→Value→Sem Value}{C:Int→Int→Prop}{g:Int→Int→Int}
  (rule:∀ (i j:Int)(t u:Tok)(s:Shared)(Q:Value→Shared→Prop)(E:Value→Shared→Prop),C i j→Q (.int (g i j) s.toks) { s with toks:=s.toks+1 }→wpAny (model X.prog X.w) X.A (f (.int i t) (.int j u)) Q E s) :
  OpR X f (rI C fun i j=>.int (g i j)):=by
 intro pins s σ H x y v u Q I rx ry h
 obtain⟨i,j,rfl,rfl,hc,q⟩:=h
 obtain⟨t,rfl⟩:=rx
 obtain⟨t',rfl⟩:=ry
 exact rule i j t t' s _ _ hc ⟨.int (g i j),H,I.tok _,⟨_,rfl⟩,q⟩
theorem opI0{f:Value→Value→Sem Value}{g:Int→Int→Int}
  (rule:∀ (i j:Int)(t u:Tok)(s:Shared)(Q:Value→Shared→Prop)(E:Value→Shared→Prop),Q (.int (g i j) s.toks) { s with toks:=s.toks+1 }→wpAny (model X.prog X.w) X.A (f (.int i t) (.int j u)) Q E s) :
  OpR X f (rI0 fun i j=>.int (g i j)):=by
 intro pins s σ H x y v u Q I rx ry h
 obtain⟨i,j,rfl,rfl,q⟩:=h
 obtain⟨t,rfl⟩:=rx
 obtain⟨t',rfl⟩:=ry
 exact rule i j t t' s _ _ ⟨.int (g i j),H,I.tok _,⟨_,rfl⟩,q⟩
theorem opB0{f:Value→Value→Sem Value}{g:Int→Int→Bool}
  (rule:∀ (i j:Int)(t u:Tok)(s:Shared)(Q:Value→Shared→Prop)(E:Value→Shared→Prop),Q (.bool (g i j)) s→wpAny (model X.prog X.w) X.A (f (.int i t) (.int j u)) Q E s) :
  OpR X f (rI0 fun i j=>.bl (g i j)):=by
 intro pins s σ H x y v u Q I rx ry h
 obtain⟨i,j,rfl,rfl,q⟩:=h
 obtain⟨t,rfl⟩:=rx
 obtain⟨t',rfl⟩:=ry
 exact rule i j t t' s _ _ ⟨.bl (g i j),H,I,rfl,q⟩
def CMul(i j:Int):Prop:=(-(2 ^ 64)<i∧i<2 ^ 64)∨(-(2 ^ 64)<j∧j<2 ^ 64)
theorem CMul.ok{i j:Int}(h:CMul i j):IntMulOk i j:=by
 rcases h with⟨h1,h2⟩ |⟨h1,h2⟩
 ·exact .of_left (intBits_le_64 h1 h2)
 ·exact .of_right (intBits_le_64 h1 h2)
theorem Z2X:OpR X (binaryOp .Add) (rI0 fun i j=>.int (i+j)):=opI0 fun _ _ _ _ _ _ _ q=>add_int q
theorem Z4n:OpR X (binaryOp .Sub) (rI0 fun i j=>.int (i-j)):=opI0 fun _ _ _ _ _ _ _ q=>sub_int q
theorem Z4G:OpR X (binaryOp .Mult) (rI CMul fun i j=>.int (i*j)):=opI fun _ _ _ _ _ _ _ hc q=>mul_int q hc.ok
theorem op_mod:OpR X (binaryOp .Mod) (rI (fun _ j=>0<j) fun i j=>.int (i % j)):=opI fun i j _ _ _ _ _ hc q=>by
 have h1:(0:Int)<j:=hc
 exact mod_int' (by omega) (by rw [Int.fmod_eq_emod_of_nonneg i (by omega)];exact q)
theorem unI{f:Value→Sem Value}{g:Int→Int}
  (rule:∀ (i:Int)(t:Tok)(s:Shared)(Q:Value→Shared→Prop)(E:Value→Shared→Prop),Q (.int (g i) s.toks) { s with toks:=s.toks+1 }→wpAny (model X.prog X.w) X.A (f (.int i t)) Q E s) :
  UnR X f (rU fun i=>.int (g i)):=by
 intro pins s σ H x v Q I rx h
 obtain⟨i,rfl,q⟩:=h
 obtain⟨t,rfl⟩:=rx
 exact rule i t s _ _ ⟨.int (g i),H,I.tok _,⟨_,rfl⟩,q⟩
theorem Z8U:UnR X (unaryOp .USub) (rU fun i=>.int (-i)):=unI fun _ _ _ _ _ q=>neg_int q
end
def scal:V→V→Bool
 |.non,.non=>true |.non,.int _=>true |.int _,.non=>true |.non,.bl _=>true |.bl _,.non=>true |.non,.str _=>true |.str _,.non=>true
 |.int _,.int _=>true |.bl _,.bl _=>true |.str _,.str _=>true |.byt _,.byt _=>true
 |.int _,.str _=>true |.str _,.int _=>true |.bl _,.str _=>true |.str _,.bl _=>true
 |_,_=>false
def rEq:R2:=fun x y H Q=>scal x y=true∧Q (.bl (decide (x=y))) H
def rNe:R2:=fun x y H Q=>scal x y=true∧Q (.bl (!decide (x=y))) H
theorem Z9o{i j:Int}:decide (V.int i=V.int j)=(i==j):=by
 rw [Z1w]
 simp
theorem dec_bl{i j:Bool}:decide (V.bl i=V.bl j)=(i==j):=by
 rw [Z1w]
 simp
theorem Z9A{i j:Str}:decide (V.str i=V.str j)=(i==j):=by
 rw [Z1w]
 simp
theorem Z9w{i j:Array UInt8}:decide (V.byt i=V.byt j)=(i.toList==j.toList):=by
 rw [Z1w]
 cases i
 cases j
 simp
section
variable{X:Cx}{a b c:Expr}{ta tb tc:TE}{pos:Pos}
theorem Z2q{pins:List (Addr×Obj)}{σ:St}{H:Hp}{s:Shared}{Q:VK}{k k':Bool}(I:Inv X pins σ H s)(q:Q (.bl k) H)(e:k=k'):EP X pins σ Q (.bool k') s:=by
 subst e
 exact⟨.bl k,H,I,rfl,q⟩
theorem op_eq:OpR X (compareOp .Eq) rEq:=by
 intro pins s σ H x y v u Q I rx ry h
 obtain⟨hs,q⟩:=h
 cases x with
 |non =>
  cases rx
  cases y with
  |non=>cases ry;exact PySem.EqNone.eq_none_none (Z2q I q (by simp))
  |bl j=>cases ry;exact PySem.EqNone.eq_none_bool (Z2q I q (by simp))
  |int j=>obtain⟨t',rfl⟩:=ry;exact PySem.EqNone.eq_none_int (Z2q I q (by simp))
  |str j=>obtain⟨t',rfl⟩:=ry;exact PySem.EqNone.eq_none_str (Z2q I q (by simp))
  |_=>exact absurd (show false=true from hs) Z0t
 |bl i =>
  cases rx
  cases y with
  |non=>cases ry;exact PySem.EqNone.eq_bool_none (Z2q I q (by simp))
  |bl j=>cases ry;exact eq_bool (Z2q I q dec_bl)
  |str j=>obtain⟨t',rfl⟩:=ry;exact PySem.EqMixed.eq_bool_str (Z2q I q (by simp))
  |_=>exact absurd (show false=true from hs) Z0t
 |int i =>
  obtain⟨t,rfl⟩:=rx
  cases y with
  |non=>cases ry;exact PySem.EqNone.eq_int_none (Z2q I q (by simp))
  |int j=>obtain⟨t',rfl⟩:=ry;exact eq_int (Z2q I q Z9o)
  |str j=>obtain⟨t',rfl⟩:=ry;exact PySem.EqMixed.eq_int_str (Z2q I q (by simp))
  |_=>exact absurd (show false=true from hs) Z0t
 |str i =>
  obtain⟨t,rfl⟩:=rx
  cases y with
  |non=>cases ry;exact PySem.EqNone.eq_str_none (Z2q I q (by simp))
  |bl j=>cases ry;exact PySem.EqMixed.eq_str_bool (Z2q I q (by simp))
  |int j=>obtain⟨t',rfl⟩:=ry;exact PySem.EqMixed.eq_str_int (Z2q I q (by simp))
  |str j=>obtain⟨t',rfl⟩:=ry;exact eq_str (Z2q I q Z9A)
  |_=>exact absurd (show false=true from hs) Z0t
 |byt i =>
  obtain⟨t,rfl⟩:=rx
  cases y with
  |byt j=>obtain⟨t',rfl⟩:=ry;exact PySem.W.eq_bytes (Z2q I q Z9w)
  |_=>exact absurd (show false=true from hs) Z0t
 |_=>cases y<;>exact absurd (show false=true from hs) Z0t
theorem op_ne:OpR X (compareOp .NotEq) rNe:=by
 intro pins s σ H x y v u Q I rx ry h
 obtain⟨hs,q⟩:=h
 cases x with
 |non =>
  cases rx
  cases y with
  |non=>cases ry;exact PySem.EqNone.ne_none_none (Z2q I q (by simp))
  |bl j=>cases ry;exact PySem.EqNone.ne_none_bool (Z2q I q (by simp))
  |int j=>obtain⟨t',rfl⟩:=ry;exact PySem.EqNone.ne_none_int (Z2q I q (by simp))
  |str j=>obtain⟨t',rfl⟩:=ry;exact PySem.EqNone.ne_none_str (Z2q I q (by simp))
  |_=>exact absurd (show false=true from hs) Z0t
 |bl i =>
  cases rx
  cases y with
  |non=>cases ry;exact PySem.EqNone.ne_bool_none (Z2q I q (by simp))
  |bl j=>cases ry;exact ne_bool (Z2q I q (congrArg not dec_bl))
  |str j=>obtain⟨t',rfl⟩:=ry;exact PySem.EqMixed.ne_bool_str (Z2q I q (by simp))
  |_=>exact absurd (show false=true from hs) Z0t
 |int i =>
  obtain⟨t,rfl⟩:=rx
  cases y with
  |non=>cases ry;exact PySem.EqNone.ne_int_none (Z2q I q (by simp))
  |int j=>obtain⟨t',rfl⟩:=ry;exact ne_int (Z2q I q (congrArg not Z9o))
  |str j=>obtain⟨t',rfl⟩:=ry;exact PySem.EqMixed.ne_int_str (Z2q I q (by simp))
  |_=>exact absurd (show false=true from hs) Z0t
 |str i =>
  obtain⟨t,rfl⟩:=rx
  cases y with
  |non=>cases ry;exact PySem.EqNone.ne_str_none (Z2q I q (by simp))
  |bl j=>cases ry;exact PySem.EqMixed.ne_str_bool (Z2q I q (by simp))
  |int j=>obtain⟨t',rfl⟩:=ry;exact PySem.EqMixed.ne_str_int (Z2q I q (by simp))
  |str j=>obtain⟨t',rfl⟩:=ry;exact ne_str (Z2q I q (congrArg not Z9A))
  |_=>exact absurd (show false=true from hs) Z0t
 |byt i =>
  obtain⟨t,rfl⟩:=rx
  cases y with
  |byt j=>obtain⟨t',rfl⟩:=ry;exact PySem.W.ne_bytes (Z2q I q (congrArg not Z9w))
  |_=>exact absurd (show false=true from hs) Z0t
 |_=>cases y<;>exact absurd (show false=true from hs) Z0t
theorem op_lt:OpR X (compareOp .Lt) (rI0 fun i j=>.bl (decide (i<j))):=opB0 fun _ _ _ _ _ _ _ q=>lt_int q
theorem op_le:OpR X (compareOp .LtE) (rI0 fun i j=>.bl (decide (i≤j))):=opB0 fun _ _ _ _ _ _ _ q=>le_int q
theorem op_gt:OpR X (compareOp .Gt) (rI0 fun i j=>.bl (decide (j<i))):=opB0 fun _ _ _ _ _ _ _ q=>gt_int q
theorem op_ge:OpR X (compareOp .GtE) (rI0 fun i j=>.bl (decide (j≤i))):=opB0 fun _ _ _ _ _ _ _ q=>ge_int q
theorem Z2n(b:Expr){op:CmpOp}(h:op≠.In:=by decide)(h2:op≠.NotIn:=by decide):behindInMarks op b=false:=by
 have e1:(op==CmpOp.In)=false:=by cases op<;>first |rfl |exact absurd rfl h
 have e2:(op==CmpOp.NotIn)=false:=by cases op<;>first |rfl |exact absurd rfl h2
 cases b<;>simp [behindInMarks,e1,e2]
theorem Z4b{op:CmpOp}{r:R2}(ho:OpR X (compareOp op) r)(ha:PE X a ta)(hb:PE X b tb)(hm:behindInMarks op b=false):PE X (.Compare a [op] [b] pos) (tOp r ta tb):=by
 intro pins s σ H Q I h
 exact wpAny_Compare1 (binT ha hb I h fun v u s2 x y H2 I2 rx ry q=>ho pins s2 σ H2 x y v u Q I2 rx ry q) hm
def tTest(t:TE):TT:=fun σ H Q=>t σ H fun x H'=>∃ k,x=.bl k∧Q k H'
theorem Z2p{op:CmpOp}{r:R2}(ho:OpR X (compareOp op) r)(ha:PE X a ta)(hb:PE X b tb)(hm:behindInMarks op b=false):PT X (.Compare a [op] [b] pos) (tTest (tOp r ta tb)):=by
 intro pins s σ H Q I h
 refine wpAny_isTrue_Compare1 (thn (ha pins s σ H _ I h) fun v s1 ⟨x,H1,I1,r1,q1⟩=>thn (hb pins s1 σ H1 _ I1 q1) fun u s2 ⟨y,H2,I2,r2,q2⟩ =>
  thn (ho pins s2 σ H2 x y v u _ I2 r1 r2 q2) fun c s3 ⟨z,H3,I3,r3,k,e,q3⟩=>?_) hm
 subst e
 cases r3
 exact wpAny_truthy_bool ⟨H3,I3,q3⟩
def TruV(K:Z0a)(x:V)(H:Hp)(k:Bool):Prop :=
 match x with
 |.non=>k=false
 |.bl b=>k=b
 |.int i=>k=(i != 0)
 |.str y=>y.length≤sizeLine∧k=((y.length:Int) != 0)
 |.byt y=>y.size≤sizeLine∧k=((y.size:Int) != 0)
 |.ref p=>(∃ xs,SqL K H p xs∧k = !xs.isEmpty)∨(∃ xs,SqT K H p xs∧k = !xs.isEmpty)∨∃ kvs,H p=some (.dK kvs)∧k = !kvs.isEmpty
 |_=>False
theorem Z9L{κ:Type}{kvs:List (κ×V)}{vs:List (κ×Value)}(r:KV kvs vs):(!vs.isEmpty) = !kvs.isEmpty:=by
 cases r<;>rfl
theorem Z6N{xs:List V}{its:List Value}(r:Vals xs its):(!its.toArray.isEmpty) = !xs.isEmpty:=by
 cases r<;>simp
theorem Z5b:(sizeLine:Nat)<2 ^ 63:=by rw [sizeLine_eq];decide
theorem tru_ok:TruR X (fun x H Q=>∃ k,TruV X.K x H k∧Q k H):=by
 intro pins s σ H x v Q I rx h
 obtain⟨k,e,q⟩:=h
 have hl:=Z5b
 have hs:sizeLine=16777216:=sizeLine_eq
 cases x with
 |non =>
  cases rx
  have e':k=false:=e
  subst e'
  exact truthy_none ⟨H,I,q⟩
 |bl b =>
  cases rx
  have e':k=b:=e
  subst e'
  exact wpAny_truthy_bool ⟨H,I,q⟩
 |int i =>
  obtain⟨t,rfl⟩:=rx
  have e':k=(i != 0):=e
  subst e'
  exact PySem.P.truthy_int ⟨H,I,q⟩
 |str y =>
  obtain⟨t,rfl⟩:=rx
  obtain⟨hy,e'⟩:y.length≤sizeLine∧k=((y.length:Int) != 0):=e
  subst e'
  exact PySem.P.truthy_str (by omega) ⟨H,I.tok _,q⟩
 |byt y =>
  obtain⟨t,rfl⟩:=rx
  obtain⟨hy,e'⟩:y.size≤sizeLine∧k=((y.size:Int) != 0):=e
  subst e'
  exact PySem.W.truthy_bytes (by omega) ⟨H,I.tok _,q⟩
 |ref p =>
  cases rx
  have e':(∃ xs,SqL X.K H p xs∧k = !xs.isEmpty)∨(∃ xs,SqT X.K H p xs∧k = !xs.isEmpty)∨∃ kvs,H p=some (.dK kvs)∧k = !kvs.isEmpty:=e
  rcases e' with⟨xs,hx,e'⟩ |⟨xs,hx,e'⟩ |⟨kvs,hx,e'⟩
  ·subst e'
   obtain⟨its,r,pl,hz⟩:=I.list hx
   have hlen:=r.length
   exact wpAny_truthy_list pl.isList (by simp only [Z0r];omega) ⟨H,I.tok _,by rw [Z6N r];exact q⟩
  ·subst e'
   obtain⟨its,r,pl,hz⟩:=I.tuple hx
   have hlen:=r.length
   exact truthy_tuple pl (by simp only [Z0r];omega) ⟨H,I.tok _,by rw [Z6N r];exact q⟩
  ·subst e'
   obtain⟨hz,hS,vs,r,m⟩:kvs.length≤sizeLine∧(p==sysModules)=false∧∃ vs,KV kvs vs∧s.heap.DictOf (Z2C X.prog X.w) p vs:=I.hok p _ hx
   have hlen:kvs.length=vs.length:=Paired.length r
   exact wpAny_truthy_dict hS m (by omega) ⟨H,I.tok _,by rw [Z9L r];exact q⟩
 |_=>exact(show False from e).elim
theorem pt_truth(ha:PE X a ta)(he:∀ whole,isTrue a X.env whole=(do let v ←whole;standAt a.pos;holding [v] (truthy v))) :
  PT X a (fun σ H Q=>ta σ H fun x H'=>∃ k,TruV X.K x H' k∧Q k H'):=by
 intro pins s σ H Q I h
 exact isTrue_plain (thn (ha pins s σ H _ I h) fun v s1 ⟨x,H1,I1,r1,q1⟩=>tru_ok pins s1 σ H1 x v Q I1 r1 q1) (he _)
theorem vals1{x:V}{us:List Value}(r:Vals [x] us):∃ u,us=[u]∧RelV x u:=by
 cases r with
 |cons r1 r2=>cases r2;exact⟨_,rfl,r1⟩
end
end L2
namespace L2
open PySem PySem.Spec PyProof.Rows
structure ObjM(h:Heap)(x dx C:Addr)(mA:Str→Option Value):Prop where
 obj:h.get? x=some (PySem.W.instObj C dx)
 ns:h.Ns1 dx mA
 ne:dx≠x
theorem Z7z{h:Heap}{dx:Addr}{mA:Str→Option Value}(n:h.Ns1 dx mA):∃ od,h.get? dx=some od∧∀ name,PySem.W.lookIn name od=some (mA name):=by
 obtain⟨o,es,ep,ho,hd,hk,_,hm⟩:=n
 refine⟨o,ho,fun name=>?_⟩
 have e:=hm name
 unfold nsFind findBy at e
 rw [←Array.find?_toList]at e
 unfold PySem.W.lookIn
 rw [hd]
 dsimp only
 split
 ·rename_i y q
  rw [q]at e
  exact congrArg some e
 ·rename_i q
  rw [q]at e
  have a:es.toList.any (·.refKey)=false:=by
   rw [List.any_eq_false]
   intro y hy
   obtain⟨z,t,hkey⟩:=hk y (Array.mem_toList_iff.mp hy)
   simp [DictEntry.refKey,hkey]
  have a':¬ es.toList.any (·.refKey)=true:=by rw [a];exact Z0t
  rw [if_neg a']
  exact congrArg some e
theorem ObjM.look{h:Heap}{x dx C:Addr}{mA:Str→Option Value}(I:ObjM h x dx C mA):∃ od,PySem.W.InstAt h x (PySem.W.instObj C dx) C (some od)∧∀ name,PySem.W.lookIn name od=some (mA name) :=
 let ⟨od,ho,hl⟩:=Z7z I.ns
 ⟨od,⟨I.obj,rfl,rfl,ho⟩,hl⟩
section
variable{prog:Program}{w:World}{A:Around}{E:Value→Shared→Prop}{s:Shared}{K:Z0a}{x dx C f:Addr}{mA:Str→Option Value}{name:Str}{v:Value}
theorem get_map{expr:Bool}{Q:Value→Shared→Prop}(X:K.In s.heap)(I:ObjM s.heap x dx C mA)(hg:PySem.W.plainGet K C name=true)(hh:PySem.W.hasDictIn K C=true)
  (ha:PySem.W.findIn K (.ref C) name=some none)(hv:mA name=some v)(hv':PySem.W.handedIn v=true)(h:Q v { s with toks:=s.toks+1 }) :
  wpAny (model prog w) A (getAttr (.ref x) name expr) Q E s:=by
 obtain⟨od,J,hl⟩:=I.look
 exact PySem.W.get_value X J (Z1L hg).1 (PySem.W.findObj_own hh ha rfl (by rw [hl,hv])) hv' h
theorem get_meth{pl:Sem Bool}{Q:Value×List Value→Shared→Prop}(X:K.In s.heap)(I:ObjM s.heap x dx C mA)(hg:PySem.W.plainGet K C name=true)
  (hf:PySem.W.findIn K (.ref C) name=some (some (.ref f)))(ht:PySem.W.isFn K (.ref f)=true)(hv:mA name=none)(h:Q (.ref f,[.ref x]) s) :
  wpAny (model prog w) A (getMethod (.ref x) name pl) Q E s:=by
 obtain⟨od,J,hl⟩:=I.look
 exact PySem.W.method_fn X J (Z1L hg).1 (Z1L hg).2 hf (beq_iff_eq.mp ht) (by show(PySem.W.lookIn name od).map (·.isSome)=some false;rw [hl,hv];rfl) h
theorem set_map{ns:List Str}{Q:Unit→Shared→Prop}(X:K.In s.heap)(I:ObjM s.heap x dx C mA)
  (hs:PySem.W.findIn K (.ref C) "__setattr__" = some (some (.builtin "object.__setattr__")))(hp:PySem.W.plainOver K C=true)(ht:PySem.W.takerIn K C name=some none)(hh:PySem.W.hasDictIn K C=true)
  (hw:PySem.Within mA ns)(hsz:ns.length≤sizeLine)
  (h:∀ h',ObjM h' x dx C (fun y=>if y=name then some v else mA y)→Heap.SameBut dx s.heap h'→Q () { s with heap:=h',toks:=s.toks+2 }) :
  wpAny (model prog w) A (setAttr (.ref x) name v) Q E s:=by
 obtain⟨od,J,hl⟩:=I.look
 refine PySem.W.set_plain X J hs (PySem.W.osa_open (s:={ s with toks:=s.toks+1 }) (r:=none) X J hp ht fun b=>?_)
 obtain⟨cd,hc,hd'⟩:=PySem.W.any_some hh
 have hx:s.heap.get? x=some ⟨.ref C,some dx,.plain,#[]⟩:=I.obj
 refine wpAny_bind (wpAny_pure (wpAny_bind (wpAny_bind (wpAny_loadPart hx (wpAny_bind (PySem.W.Looks.here (s:={ s with toks:=s.toks+1 }) (PySem.W.looks_clsIn X hc) ?_))))))
 rw [hd']
 refine wpAny_pure (a:=some dx) (wpAny_bind (wpAny_pure (wpAny_bind ?_)))
 refine wpAny_nsSet1 (s:={ s with toks:=s.toks+1 }) I.ns fun h' hn2 hs2=>?_
 obtain⟨oD,esD,epD,hoD,hdD,hcD⟩:=hn2.count (PySem.Within.cons name v hw)
 refine wpAny_bind (wpAny_lookBehind hoD (by rw [hdD];exact pastItsLine_dict (Z0x hcD (by rw [Z0s];omega))) ?_)
 exact wpAny_pure (h _ ⟨(hs2.2 _ (Ne.symm I.ne)).trans I.obj,hn2,I.ne⟩ hs2)
theorem make_map{R:Result→Shared→Prop}{vs:List Value}{kw:List (Str×Value)}(X:K.In s.heap)(hm:PySem.W.makesIn K C=true)
  (hi:PySem.W.findIn K (.ref C) "__init__" = some (some (.ref f)))(hf:PySem.W.typeIn K (.ref f)=some (.type "function"))
  (h:codeAny (model prog w) (A.under (.builtin "type.__call__" ⟨.ref C::vs,kw⟩)) (.call (.ref f) ⟨.ref (s.heap.objs.size+1)::vs,kw⟩) (PySem.W.InitBack (s.heap.objs.size+1) R)
    { s with heap:=(s.heap.push PySem.W.emptyDict).push (PySem.W.instObj C s.heap.objs.size) }) :
  codeAny (model prog w) A (.call (.ref C) ⟨vs,kw⟩) R s:=by
 obtain⟨hh,g,d,t,os⟩:=s
 exact PySem.W.make_core (PySem.W.makes_of X hm) (Z1M X hi) (fun self=>PySem.W.bind_fn X self hf) (.inl rfl) h
end
def putF(f:Str)(v:V):List (Str×V)→List (Str×V)
 |[]=>[(f,v)]
 |(g,x)::r=>if g=f then(g,v)::r else(g,x)::putF f v r
theorem Z6l(f g:Str)(v:V):∀ fs:List (Str×V),(putF f v fs).lookup g=if g=f then some v else fs.lookup g
 |[]=>by
  show List.lookup g [(f,v)]=_
  by_cases h:g=f
  ·have hb:(g==f)=true:=beq_iff_eq.mpr h
   simp only [List.lookup,hb,if_pos h]
  ·have hb:(g==f)=false:=beq_eq_false_iff_ne.mpr h
   simp only [List.lookup,hb,if_neg h]
 |(k,x)::r=>by
  have ih:=Z6l f g v r
  rw [show putF f v ((k,x)::r)=(if k=f then(k,v)::r else(k,x)::putF f v r)from rfl]
  by_cases hk:k=f
  ·rw [if_pos hk]
   by_cases h:g=k
   ·have hb:(g==k)=true:=beq_iff_eq.mpr h
    simp only [List.lookup,hb,if_pos (h.trans hk)]
   ·have hb:(g==k)=false:=beq_eq_false_iff_ne.mpr h
    simp only [List.lookup,hb,if_neg (fun e:g=f=>h (e.trans hk.symm))]
  ·rw [if_neg hk]
   by_cases h:g=k
   ·have hb:(g==k)=true:=beq_iff_eq.mpr h
    simp only [List.lookup,hb,if_neg (fun e:g=f=>hk (h.symm.trans e))]
   ·have hb:(g==k)=false:=beq_eq_false_iff_ne.mpr h
    simp only [List.lookup,hb]
    exact ih
theorem Z5X(f:Str)(v:V):∀ fs:List (Str×V),f∈(putF f v fs).map (·.1)∧∀ g,g∈fs.map (·.1)→g∈(putF f v fs).map (·.1)
 |[]=>⟨by simp [putF],fun g h=>by simp at h⟩
 |(k,x)::r=>by
  obtain⟨i1,i2⟩:=Z5X f v r
  rw [show putF f v ((k,x)::r)=(if k=f then(k,v)::r else(k,x)::putF f v r)from rfl]
  by_cases hk:k=f
  ·rw [if_pos hk]
   subst hk
   exact⟨by simp,fun g h=>by simpa using h⟩
  ·rw [if_neg hk]
   refine⟨?_,fun g h=>?_⟩
   ·rw [Z0B]
    exact Z0f _ i1
   ·rw [Z0B]at h ⊢
    rcases Z0d.mp h with e |e
    ·exact Z0d.mpr (.inl e)
    ·exact Z0f _ (i2 g e)
theorem Z6j(f:Str)(v:V):∀ fs:List (Str×V),(putF f v fs).length≤fs.length+1
 |[]=>by simp [putF]
 |(k,x)::r=>by
  have ih:=Z6j f v r
  rw [show putF f v ((k,x)::r)=(if k=f then(k,v)::r else(k,x)::putF f v r)from rfl]
  by_cases hk:k=f
  ·rw [if_pos hk,Z0s,Z0s];omega
  ·rw [if_neg hk,Z0s,Z0s];omega
theorem RelO.some_of{v:V}{o:Option Value}(r:RelO (some v) o):∃ u,o=some u∧RelV v u:=by
 cases o with
 |none=>exact(show False from r).elim
 |some u=>exact⟨u,rfl,r⟩
theorem RelO.none_of{o:Option Value}(r:RelO none o):o=none:=by
 cases o with
 |none=>rfl
 |some u=>exact(show False from r).elim
theorem Z7I{v:V}{u:Value}(r:RelV v u):PySem.W.handedIn u=true:=by
 cases v with
 |non=>cases (show u=Value.none from r);rfl
 |bl b=>cases (show u=Value.bool b from r);rfl
 |int i=>obtain⟨t,e⟩:=(show ∃ t,u=Value.int i t from r);cases e;rfl
 |str x=>obtain⟨t,e⟩:=(show ∃ t,u=Value.str x t from r);cases e;rfl
 |byt b=>obtain⟨t,e⟩:=(show ∃ t,u=Value.bytes b t from r);cases e;rfl
 |flt b=>obtain⟨t,e⟩:=(show ∃ t,u=Value.float b t from r);cases e;rfl
 |ref a=>cases (show u=Value.ref a from r);rfl
 |ty n=>cases (show u=Value.type n from r);rfl
section
variable{P:Program}{w:World}{H H':Hp}{h h':Heap}{a C dx:Addr}{fs fs':List (Str×V)}
theorem Z7s(hok:HOk P w H h)(e:H a=some (.ins C dx fs)):∃ mA,ObjM h a dx C mA∧(∀ f,RelO (fs.lookup f) (mA f))∧PySem.Within mA (fs.map (·.1))∧fs.length≤1000∧H dx=some (.own a):=by
 obtain⟨d,z,ne,ob,mA,n,r,q⟩:=(show ObjOk P w H h a (.ins C dx fs)from hok a _ e)
 exact⟨mA,⟨ob,n,ne⟩,r,q,z,d⟩
end
structure Cls(K:Z0a)(C:Addr):Prop where
 pg:PySem.W.plainGet K C Str.empty=true
 hd:PySem.W.hasDictIn K C=true
 po:PySem.W.plainOver K C=true
 sa:PySem.W.findIn K (.ref C) "__setattr__" = some (some (.builtin "object.__setattr__"))
theorem Cls.get{K:Z0a}{C:Addr}(c:Cls K C)(f:Str):PySem.W.plainGet K C f=true:=c.pg
def NoAttr(K:Z0a)(C:Addr)(f:Str):Prop:=PySem.W.findIn K (.ref C) f=some none
theorem NoAttr.taker{K:Z0a}{C:Addr}{f:Str}(n:NoAttr K C f):PySem.W.takerIn K C f=some none:=by
 unfold PySem.W.takerIn
 rw [show PySem.W.findIn K (.ref C) f=some none from n]
 rfl
structure Meth(K:Z0a)(C:Addr)(m:Str)(f:Addr):Prop where
 at_:PySem.W.findIn K (.ref C) m=some (some (.ref f))
 fn:PySem.W.isFn K (.ref f)=true
 kp:PySem.W.keepIn K (.ref f)=true
section
variable{X:Cx}{pins:List (Addr×Obj)}{σ:St}{H:Hp}{s:Shared}{a C dx:Addr}{fs:List (Str×V)}{f:Str}{v:V}{A:Around}{E:Value→Shared→Prop}
theorem Z7a{b:Bool}{Q:Value→Shared→Prop}(I:Inv X pins σ H s)(e:H a=some (.ins C dx fs))(c:Cls X.K C)(n:NoAttr X.K C f)(l:fs.lookup f=some v)
  (h:∀ u s',Inv X pins σ H s'→RelV v u→Q u s'):wpAny (model X.prog X.w) A (getAttr (.ref a) f b) Q E s:=by
 obtain⟨mA,O,r,_,_,_⟩:=Z7s I.hok e
 obtain⟨u,hu,ru⟩:=RelO.some_of (v:=v) (o:=mA f) (by rw [←l];exact r f)
 exact get_map I.kIn O (c.get f) c.hd n hu (Z7I ru) (h u _ (I.tok _) ru)
theorem Z5z{m:Str}{g:Addr}{pl:Sem Bool}{Q:Value×List Value→Shared→Prop}(I:Inv X pins σ H s)(e:H a=some (.ins C dx fs))(c:Cls X.K C)(k:Meth X.K C m g)(l:fs.lookup m=none)
  (h:Q (.ref g,[.ref a]) s):wpAny (model X.prog X.w) A (getMethod (.ref a) m pl) Q E s:=by
 obtain⟨mA,O,r,_,_,_⟩:=Z7s I.hok e
 have hn:mA m=none:=RelO.none_of (by rw [←l];exact r m)
 exact get_meth I.kIn O (c.get m) k.at_ k.fn hn h
theorem Z6R{y:V}{u:Value}{Q:Unit→Shared→Prop}(I:Inv X pins σ H s)(e:H a=some (.ins C dx fs))(c:Cls X.K C)(n:NoAttr X.K C f)(hl:fs.length<1000)(ry:RelV y u)
  (h:∀ s',Inv X pins σ (upd H a (.ins C dx (putF f y fs))) s'→Q () s'):wpAny (model X.prog X.w) A (setAttr (.ref a) f u) Q E s:=by
 obtain⟨mA,O,r,wi,_,ho⟩:=Z7s I.hok e
 have hz:(fs.map (·.1)).length≤sizeLine:=by rw [Z0c,sizeLine_eq];omega
 refine set_map I.kIn O c.sa c.po n.taker c.hd wi hz fun h' O' sb=>h _ ?_
 have hd:∃ o,h'.get? dx=some o:=let ⟨o,_,_,e',_⟩:=O'.ns;⟨o,e'⟩
 refine I.write (x:=a) (e:=dx) (by rw [e];exact True.intro) (.inr ho) (fun b q hb z=>(sb.2 b hb).trans z) hd ?_
 refine⟨by rw [Z1W O.ne];exact ho,?_,O.ne,O'.obj,_,O'.ns,fun g=>?_,fun g hg=>?_⟩
 ·have:=Z6j f y fs;omega
 ·show RelO ((putF f y fs).lookup g) (if g=f then some u else mA g)
  rw [Z6l]
  by_cases q:g=f
  ·rw [if_pos q,if_pos q];exact ry
  ·rw [if_neg q,if_neg q];exact r g
 ·by_cases q:g=f
  ·rw [q];exact(Z5X f y fs).1
  ·refine(Z5X f y fs).2 g (wi g fun z=>hg ?_)
   show(if g=f then some u else mA g)=none
   rw [if_neg q];exact z
theorem Inv.made(I:Inv X pins σ H s):Inv X pins σ (upd (upd H s.heap.objs.size (.own (s.heap.objs.size+1))) (s.heap.objs.size+1) (.ins C s.heap.objs.size []))
  { s with heap:=(s.heap.push PySem.W.emptyDict).push (PySem.W.instObj C s.heap.objs.size) }:=by
 have e1:(s.heap.push PySem.W.emptyDict).get? s.heap.objs.size=some PySem.W.emptyDict:=Z0C s.heap rfl
 have e2:((s.heap.push PySem.W.emptyDict).push (PySem.W.instObj C s.heap.objs.size)).get? (s.heap.objs.size+1)=some (PySem.W.instObj C s.heap.objs.size):=by
  have:=Z0C (s.heap.push PySem.W.emptyDict) (o:=PySem.W.instObj C s.heap.objs.size) rfl
  rwa [Z0I]at this
 have e3:(s.heap.push PySem.W.emptyDict).Ns s.heap.objs.size (fun _=>none):=⟨PySem.W.emptyDict,#[],_,e1,rfl,(fun e he=>absurd he (by simp)),fun _=>rfl⟩
 have I1:=I.laid (a:=s.heap.objs.size) (o:=.own (s.heap.objs.size+1)) (h':=s.heap.push PySem.W.emptyDict) (t':=s.toks) (fun b u q=>Z0m _ q) (Z0e _) ⟨_,e1⟩
 refine I1.laid (a:=s.heap.objs.size+1) (o:=.ins C s.heap.objs.size []) (t':=s.toks) (fun b u q=>Z0m _ q) (Z0U (Z0I _ _)) ?_
 have ne:s.heap.objs.size≠s.heap.objs.size+1:=Z0o (Z1x _)
 refine⟨by rw [Z1W ne,Z1X],Z0q _,ne,e2,fun _=>none,(Heap.Ns1.of_empty e3).at fun o q=>Z0m _ q,fun _=>True.intro,fun y hy=>absurd rfl hy⟩
theorem Z9z{prog:Program}{w:World}{env:Env}{e:Expr}{f:Str}{pos:Pos}{s:Shared}{Q:Value→Shared→Prop}(hb:attributeBase e f env (eval e env)=eval e env)
  (h:wpAny (model prog w) A (eval e env) (fun o s₁=>wpAny (model prog w) A (getAttr o f true) Q E s₁) E s):wpAny (model prog w) A (eval (.Attribute e f pos) env) Q E s :=
 Attribute_any_ h (by rw [arm_eval_Attribute,hb])
end
def tFld(K:Z0a)(ta:TE)(f:Str):TE:=fun σ H Q=>ta σ H fun x H1=>∃ a C dx fs v,x=.ref a∧H1 a=some (.ins C dx fs)∧Cls K C∧NoAttr K C f∧fs.lookup f=some v∧Q v H1
def sFld(K:Z0a)(ta tv:TE)(f:Str):TS:=fun D σ H=>tv σ H fun y H1=>ta σ H1 fun x H2=>∃ a C dx fs,x=.ref a∧H2 a=some (.ins C dx fs)∧Cls K C∧NoAttr K C f∧fs.length<1000 ∧
 D.nx σ (upd H2 a (.ins C dx (putF f y fs)))
def InOp(X:Cx)(op:Operator)(rd:V→V→Hp→VK→Prop):Prop :=
 ∀ (pins:List (Addr×Obj))(s:Shared)(σ:St)(H:Hp)(x y:V)(u v:Value)(Q:VK),Inv X pins σ H s→RelV x u→RelV y v→rd x y H Q→wpAny (model X.prog X.w) X.A (inplaceOp op u v) (EP X pins σ Q) X.xe s
def sFldAug(K:Z0a)(ta tv:TE)(rd:V→V→Hp→VK→Prop)(f:Str):TS:=fun D σ H=>ta σ H fun x H1=>∃ a C dx fs v,x=.ref a∧H1 a=some (.ins C dx fs)∧Cls K C∧NoAttr K C f∧fs.lookup f=some v ∧
 tv σ H1 fun y H2=>rd v y H2 fun z H3=>∃ dx' fs',H3 a=some (.ins C dx' fs')∧fs'.length<1000∧D.nx σ (upd H3 a (.ins C dx' (putF f z fs')))
section
variable{X:Cx}{o e value:Expr}{f:Str}{pos pos' tpos:Pos}{ta tv:TE}
theorem Z2d(he:PE X e ta)(hb:attributeBase e f X.env (eval e X.env)=eval e X.env):PE X (.Attribute e f pos) (tFld X.K ta f):=by
 intro pins s σ H Q I h
 refine Z9z hb (thn (he pins s σ H _ I h) fun u s1 ⟨x,H1,I1,rx,a,C,dx,fs,v,ex,ea,c,n,l,q⟩=>?_)
 subst ex
 obtain rfl:u=Value.ref a:=rx
 exact Z7a I1 ea c n l fun u' s2 I2 ru=>⟨v,H1,I2,ru,q⟩
theorem Z2t(ha:PE X o ta)(hv:PE X value tv)(hs:swapsWith value (some (.Attribute o f pos')) pos.line X.env=pure false):PS X (.Assign [.Attribute o f pos'] value pos) (sFld X.K ta tv f):=by
 intro pins s σ H D I h
 refine plainObj_wpAny_Assign_Attribute (thn (hv pins s σ H _ I h) fun u s1 ⟨y,H1,I1,ry,q⟩=>thn (ha pins s1 σ H1 _ I1 q) fun ov s2 ⟨x,H2,I2,rx,a,C,dx,fs,ex,ea,c,n,l,q2⟩=>?_) hs
 subst ex
 obtain rfl:ov=Value.ref a:=rx
 exact Z6R I2 ea c n l ry fun s3 I3=>⟨σ,_,I3,q2⟩
theorem Zac{op:Operator}{rd:V→V→Hp→VK→Prop}(ha:PE X o ta)(hv:PE X value tv)(hop:InOp X op rd):PS X (.AugAssign (.Attribute o f tpos) op value pos) (sFldAug X.K ta tv rd f):=by
 intro pins s σ H D I h
 refine wpAny_AugAssign_AttributeAny (thn (ha pins s σ H _ I h) fun ov s1 ⟨x,H1,I1,rx,a,C,dx,fs,v,ex,ea,c,n,l,q⟩=>?_)
 subst ex
 obtain rfl:ov=Value.ref a:=rx
 refine Z7a I1 ea c n l fun u s2 I2 ru=>thn (hv pins s2 σ H1 _ I2 q) fun w3 s3 ⟨y,H2,I3,ry,q3⟩=>thn (hop pins s3 σ H2 v y u w3 _ I3 ru ry q3) fun w4 s4 ⟨z,H3,I4,rz,dx',fs',ea',l',q4⟩=>?_
 exact Z6R I4 ea' c n l' rz fun s5 I5=>⟨σ,_,I5,q4⟩
def rAdd:V→V→Hp→VK→Prop:=fun x y H Q=>∃ i j,x=.int i∧y=.int j∧Q (.int (i+j)) H
theorem in_add:InOp X .Add rAdd:=by
 rintro pins s σ H x y u v Q I rx ry ⟨i,j,rfl,rfl,q⟩
 obtain⟨t,rfl⟩:=(show ∃ t,u=Value.int i t from rx)
 obtain⟨t',rfl⟩:=(show ∃ t',v=Value.int j t' from ry)
 exact PyProof.Rows.iadd_int ⟨.int (i+j),H,I.tok _,⟨_,rfl⟩,q⟩
theorem methcall_of{pl:Sem Bool}{m:Str}{apos:Pos}{args:List Expr}{pins:List (Addr×Obj)}{s:Shared}{σ:St}{H:Hp}{Q:Value→Shared→Prop}{te:TE}(he:PE X e te)(I:Inv X pins σ H s)
  (h:te σ H fun x H1=>∃ a C dx fs g,x=.ref a∧H1 a=some (.ins C dx fs)∧Cls X.K C∧Meth X.K C m g∧fs.lookup m=none ∧
    ∀ s1,Inv X pins σ H1 s1→wpAny (model X.prog X.w) X.A (callWith pos (.ref g) [.ref a] (backTo pos (starEach args X.env)) (backToKw pos (keywordEach [] X.env))) Q X.xe s1)
  (ht:eval (.Call (.Attribute e m apos) args [] pos) X.env=(do
    let ov ←eval e X.env
    standAt apos.atName
    let (f,first) ←holding [ov] (getMethod ov m pl)
    callWith pos f first (backTo pos (starEach args X.env)) (backToKw pos (keywordEach [] X.env)))) :
  wpAny (model X.prog X.w) X.A (eval (.Call (.Attribute e m apos) args [] pos) X.env) Q X.xe s:=by
 refine Z1N (pl:=pl) (thn (he pins s σ H _ I h) fun u s1 ⟨x,H1,I1,rx,a,C,dx,fs,g,ex,ea,c,k,l,q⟩=>?_) ht
 subst ex
 obtain rfl:u=Value.ref a:=rx
 exact Z5z I1 ea c k l (q s1 I1)
end
section
variable{X:Cx}{pins:List (Addr×Obj)}{σ:St}{H:Hp}{s:Shared}{A:Around}{E:Value→Shared→Prop}{Q:Value→Shared→Prop}{c:Value}{b:Bool}
end
end L2
namespace L2
open PySem PySem.Spec PyProof.Rows
structure Room(k:Nat)(A:Around):Prop where
 hd:A.handled=none
 dp:A.depth+3*k+5<recursionLimit
 un:A.units+16*k+200<cLine
theorem Room.mono{j k:Nat}{A:Around}(r:Room k A)(h:j≤k):Room j A:=⟨r.hd,by have:=r.dp;omega,by have:=r.un;omega⟩
theorem Room.deeper{k:Nat}{A:Around}(r:Room (k+1) A)(env:Env):Room k (A.deeper env) :=
 ⟨r.hd,by have:=r.dp;show A.depth+1+3*k+5<_;omega,by have:=r.un;show A.units+3+16*k+200<_;omega⟩
theorem Z6L{A:Around}{C:Addr}{us:List Value}{kw:List (Str×Value)}:(A.under (.builtin "type.__call__" ⟨.ref C::us,kw⟩)).depth=A.depth+1:=by
 first |rfl |simp [Around.under,Code.weight,Code.isCreation,Code.isGuard,Code.isCaller,Code.frames,Code.isFrame,guardIds]
theorem Z9R{A:Around}{C:Addr}{us:List Value}{kw:List (Str×Value)}:(A.under (.builtin "type.__call__" ⟨.ref C::us,kw⟩)).units=A.units+1:=by
 first |rfl |simp [Around.under,Code.cUnits,Code.frames,Code.isFrame]
theorem Room.make{k:Nat}{A:Around}(r:Room (k+1) A)(C:Addr)(us:List Value)(kw:List (Str×Value)):Room k (A.under (.builtin "type.__call__" ⟨.ref C::us,kw⟩)) :=
 ⟨r.hd,by have:=r.dp;rw [Z6L];omega,by have:=r.un;rw [Z9R];omega⟩
theorem Room.depth{k:Nat}{A:Around}(r:Room k A):A.depth<recursionLimit:=by have:=r.dp;omega
theorem Room.units{k:Nat}{A:Around}(r:Room k A):A.units+64<cLine:=by have:=r.un;omega
theorem Room.units0{k:Nat}{A:Around}(r:Room k A):A.units<cLine:=by have:=r.un;omega
def tNil:TA:=fun _ H Q=>Q [] H
def tCons(ta:TE)(tr:TA):TA:=fun σ H Q=>ta σ H fun x H1=>tr σ H1 fun xs H2=>Q (x::xs) H2
section
variable{X:Cx}{e:Expr}{es:List Expr}{te:TE}{t:TA}{pos:Pos}
theorem Z2a:PA X [] tNil:=fun _ _ _ _ H Q I h=>Calls.spliced_nil ⟨[],H,I,.nil,h⟩
theorem Z1V(ha:PE X e te)(hr:PA X es t)(hs:starEach (e::es) X.env=(false,eval e X.env)::starEach es X.env:=by rfl):PA X (e::es) (tCons te t):=by
 intro pos pins s σ H Q I h
 rw [hs]
 show wpAny _ _ (spliced ((false,eval e X.env)::backTo pos (starEach es X.env))) _ _ s
 refine Calls.spliced_cons (thn (ha pins s σ H _ I h) fun u s1 ⟨x,H1,I1,r1,q1⟩=>?_)
 exact thn (hr pos pins s1 σ H1 _ I1 q1) fun us s2 ⟨xs,H2,I2,r2,q2⟩=>⟨x::xs,H2,I2,.cons r1 r2,q2⟩
def tTup(t:TA):TE:=fun σ H Q=>t σ H fun xs H1=>xs.length≤sizeLine∧∀ p,H1 p=none→Q (.ref p) (upd H1 p (.tup xs))
def tLst(t:TA):TE:=fun σ H Q=>t σ H fun xs H1=>xs.length≤sizeLine∧∀ p,H1 p=none→Q (.ref p) (upd H1 p (.lst xs))
theorem Z4i{x1}(h:PA X es t):PE X (.Tuple es x1 pos) (tTup t):=by
 intro pins s σ H Q I hq
 refine wpAny_Tuple_spliced (thn (h pos pins s σ H _ I hq) fun us s1 ⟨xs,H1,I1,r,z,q⟩=>⟨by rw [←r.length];exact z,?_⟩)
 have hf:H1 s1.heap.objs.size=none:=I1.hok.fresh (Z0e _)
 refine⟨.ref s1.heap.objs.size,upd H1 s1.heap.objs.size (.tup xs),I1.laid (t':=s1.toks) (fun b u e=>Z0m _ e) (Z0e _) ?_,rfl,q _ hf⟩
 exact⟨z,us,r,⟨_,Z0C _ rfl,rfl,_,rfl⟩⟩
theorem Z3n(h:PA X es t):PE X (.List es pos) (tLst t):=by
 intro pins s σ H Q I hq
 refine wpAny_List_spliced (thn (h pos pins s σ H _ I hq) fun us s1 ⟨xs,H1,I1,r,z,q⟩=>⟨by rw [←r.length];exact z,?_⟩)
 have hf:H1 s1.heap.objs.size=none:=I1.hok.fresh (Z0e _)
 refine⟨.ref s1.heap.objs.size,upd H1 s1.heap.objs.size (.lst xs),I1.laid (t':=s1.toks) (fun b u e=>Z0m _ e) (Z0e _) ?_,rfl,q _ hf⟩
 exact⟨z,us,0,r,Z0C _ rfl⟩
end
abbrev Sp:=List V→Hp→VK→XK→Prop
abbrev CXT:=List Env→Hp→Shared→XK→Value→Shared→Prop
structure Env0(P:Program)(w:World)(K:Z0a)(mg:Str→Option Value)(base:Heap)(A:Around)(outer:List Env)(s:Shared)(H:Hp):Prop where
 frames:A.frames=some outer
 mod:Mod K mg base
 bs:∀ b o,base.get? b=some o→s.heap.get? b=some o∧H b=none
 bsz:base.objs.size≤s.heap.objs.size
 funs:s.heap.FunFrames base outer
 frf:∀ b∈frs outer,H b=none
 hok:HOk P w H s.heap
 bare:AllBare s.gens
def CE(outer:List Env)(P:Program)(w:World)(H:Hp)(s:Shared)(Q:VK)(u:Value)(s':Shared):Prop :=
 ∃ v H',s'.os=s.os∧AllBare s'.gens∧Un (frs outer) [] H H' s.heap s'.heap∧HOk P w H' s'.heap∧RelV v u∧Q v H'
def CR(CX:CXT)(outer:List Env)(P:Program)(w:World)(H:Hp)(s:Shared)(Q:VK)(E:XK)(r:Result)(s':Shared):Prop :=
 match r with
 |.ok (.ret u)=>CE outer P w H s Q u s'
 |.ok _=>False
 |.error e=>CX outer H s E e s'
structure FnOk(P:Program)(w:World)(K:Z0a)(mg:Str→Option Value)(base:Heap)(CX:CXT)(k:Nat)(f:Addr)(fd:FuncData)(ps:List Str)(sp:Sp):Prop where
 len:∀ vs H Q E,sp vs H Q E→vs.length=ps.length
 run:∀ (A:Around)(outer:List Env)(s:Shared)(H:Hp)(args:Args)(us:List Value)(vs:List V)(Q:VK)(E:XK),Room k A→Env0 P w K mg base A outer s H→BindsTo s fd args (ps.zip us)→Vals vs us→sp vs H Q E →
  codeAny (model P w) A (.call (.ref f) args) (CR CX outer P w H s Q E) s
theorem Env0.make{P:Program}{w:World}{K:Z0a}{mg:Str→Option Value}{base:Heap}{A:Around}{outer:List Env}{s:Shared}{H:Hp}(e:Env0 P w K mg base A outer s H)(C:Addr)(us:List Value)(kw:List (Str×Value)) :
  Env0 P w K mg base (A.under (.builtin "type.__call__" ⟨.ref C::us,kw⟩)) outer s H:=⟨by first |exact e.frames |(simpa [Around.under,Code.envs,Code.isFrame,pushEnvs]using e.frames),e.mod,e.bs,e.bsz,e.funs,e.frf,e.hok,e.bare⟩
section
variable{X:Cx}{pins:List (Addr×Obj)}{σ:St}{H:Hp}{s s':Shared}
theorem Inv.env0(I:Inv X pins σ H s):Env0 X.prog X.w X.K X.mg X.base X.A X.stack s H :=
 ⟨I.ok.frames,I.ok.mod,I.bs,Z0x I.ok.bsz I.sz,I.stack,I.stkFree,I.hok,I.bare⟩
theorem Inv.after{Q:VK}{u:Value}(I:Inv X pins σ H s)(h:CE X.stack X.prog X.w H s Q u s'):EP X pins σ Q u s':=by
 obtain⟨v,H',os,bare,un,hok,r,q⟩:=h
 obtain⟨hh,g,d,t,os'⟩:=s'
 obtain rfl:os'=s.os:=os
 exact⟨v,H',I.call (h':=hh) (g':=g) (d':=d) (t':=t) (ch:=[]) un hok bare (fun b z=>absurd z (by simp)),r,q⟩
end
def tCall(sp:Sp)(dvs:List V)(E:XK)(t:TA):TE:=fun σ H Q=>t σ H fun vs H1=>sp (vs++dvs) H1 Q E
def tMeth(C:Addr)(m:Str)(sp:Sp)(dvs:List V)(E:XK)(ta:TE)(t:TA):TE:=fun σ H Q=>ta σ H fun x H1=>∃ a dx fs,x=.ref a∧H1 a=some (.ins C dx fs)∧fs.lookup m=none ∧
 t σ H1 fun vs H2=>sp (x::(vs++dvs)) H2 Q E
def tMake(C:Addr)(sp:Sp)(dvs:List V)(E:XK)(t:TA):TE:=fun σ H Q=>t σ H fun vs H1=>∀ x dx,H1 x=none→H1 dx=none→dx≠x →
 sp (.ref x::(vs++dvs)) (upd (upd H1 dx (.own x)) x (.ins C dx [])) (fun v H2=>v=.non∧Q (.ref x) H2) E
def Binds(K:Z0a)(fd:FuncData)(ps:List Str)(ds:List Value):Prop :=
 ∀ (s:Shared)(us:List Value),K.In s.heap→(us++ds).length=ps.length→BindsTo s fd ⟨us,[]⟩ (ps.zip (us++ds))
theorem Binds.all{K:Z0a}{fd:FuncData}{ps:List Str}(h:∀ us:List Value,us.length=ps.length→bindArgs fd ⟨us,[]⟩=pure (ps.zip us)):Binds K fd ps []:=fun s us _ hl=>by
 rw [Z0G]at hl ⊢
 exact .of_eq (h us hl)
def Z2I(CX:CXT)(X:Cx)(E:XK):Prop:=∀ (pins:List (Addr×Obj))(σ:St)(H:Hp)(s:Shared)(e:Value)(s':Shared),Inv X pins σ H s→CX X.stack H s E e s'→X.xe e s'
section
variable{X:Cx}{CX:CXT}{k:Nat}{f C:Addr}{fd:FuncData}{ps:List Str}{sp:Sp}{dvs:List V}{ds:List Value}{E:XK}{x m:Str}{p pos apos:Pos}{e o:Expr}{es:List Expr}{ta:TE}{t:TA}
theorem Z6D{pins:List (Addr×Obj)}{σ:St}{H:Hp}{s:Shared}{Q:VK}{us:List Value}{vs:List V}(F:FnOk X.prog X.w X.K X.mg X.base CX k f fd ps sp)(hr:Room k X.A)(hb:Binds X.K fd ps ds)(hd:Vals dvs ds)(hx:Z2I CX X E)
  (I:Inv X pins σ H s)(r:Vals vs us)(h:sp (vs++dvs) H Q E):wpAny (model X.prog X.w) X.A (call (.ref f) us) (EP X pins σ Q) X.xe s:=by
 have r2:Vals (vs++dvs) (us++ds):=r.append hd
 have hl:(us++ds).length=ps.length:=by rw [←r2.length];exact F.len _ _ _ _ h
 refine wpAny_call (codeAny_mono (F.run X.A X.stack s H ⟨us,[]⟩ (us++ds) (vs++dvs) Q E hr I.env0 (hb s us I.kIn hl) r2 h) fun r s' hq=>?_)
 cases r with
 |error e=>exact hx pins σ H s e s' I hq
 |ok fl =>
  cases fl with
  |ret u=>exact I.after hq
  |next=>exact False.elim hq
  |brk=>exact False.elim hq
  |cont=>exact False.elim hq
theorem Z2m(F:FnOk X.prog X.w X.K X.mg X.base CX k f fd ps sp)(hr:Room k X.A)(hg:Gl X x)(hm:X.mg x=some (.ref f))(hk:PySem.W.keepIn X.K (.ref f)=true)(hb:Binds X.K fd ps ds)(hd:Vals dvs ds)(hx:Z2I CX X E)
  (ha:PA X (e::es) t)(hdb:(x==("__debug__" : Str))=false:=by decide)(he:starEach (e::es) X.env=(false,eval e X.env)::starEach es X.env:=by rfl)(hpl:(backTo pos (starEach es X.env)).any (·.1)=false:=by rfl) :
  PE X (.Call (.Name x p) (e::es) [] pos) (tCall sp dvs E t):=by
 intro pins s σ H Q I h
 refine wpAny_Call_Name_kw (Z2V I hg hm ?_ hdb)
 refine Z0V (h₀:=X.base) I.ok.mod.kin hk (thn (ha pos pins s σ H _ I h) fun us s1 ⟨vs,H1,I1,r,q⟩=>⟨I1.kIn,?_⟩) he hpl
 exact Z6D F hr hb hd hx I1 r q
theorem Z2j{pl:Sem Bool}(he:PE X o ta)(c:Cls X.K C)(hm:Meth X.K C m f)(F:FnOk X.prog X.w X.K X.mg X.base CX k f fd ps sp)(hr:Room k X.A)(hb:Binds X.K fd ps ds)(hd:Vals dvs ds)(hx:Z2I CX X E)(ha:PA X (e::es) t)
  (hst:starEach (e::es) X.env=(false,eval e X.env)::starEach es X.env:=by rfl)(hpl:(backTo pos (starEach es X.env)).any (·.1)=false:=by rfl)
  (ht:eval (.Call (.Attribute o m apos) (e::es) [] pos) X.env=(do
    let ov ←eval o X.env
    standAt apos.atName
    let (f,first) ←holding [ov] (getMethod ov m pl)
    callWith pos f first (backTo pos (starEach (e::es) X.env)) (backToKw pos (keywordEach [] X.env))):=by rfl) :
  PE X (.Call (.Attribute o m apos) (e::es) [] pos) (tMeth C m sp dvs E ta t):=by
 intro pins s σ H Q I h
 refine Z1N (pl:=pl) (thn (he pins s σ H _ I h) fun u s1 ⟨x,H1,I1,rx,a,dx,fs,ex,ea,l,q⟩=>?_) ht
 subst ex
 obtain rfl:u=Value.ref a:=rx
 refine Z5z I1 ea c hm l ?_
 refine Z0V (first:=[.ref a]) (h₀:=X.base) I.ok.mod.kin hm.kp (thn (ha pos pins s1 σ H1 _ I1 q) fun us s2 ⟨vs,H2,I2,r,q2⟩=>⟨I2.kIn,?_⟩) hst hpl
 exact Z6D (us:=.ref a::us) (vs:=.ref a::vs) F hr hb hd hx I2 (.cons rfl r) q2
theorem Z6r{pl:Sem Bool}(he:PE X o ta)(c:Cls X.K C)(hm:Meth X.K C m f)(F:FnOk X.prog X.w X.K X.mg X.base CX k f fd ps sp)(hr:Room k X.A)(hb:Binds X.K fd ps ds)(hd:Vals dvs ds)(hx:Z2I CX X E)
  (ht:eval (.Call (.Attribute o m apos) [] [] pos) X.env=(do
    let ov ←eval o X.env
    standAt apos.atName
    let (f,first) ←holding [ov] (getMethod ov m pl)
    callWith pos f first (backTo pos (starEach [] X.env)) (backToKw pos (keywordEach [] X.env))):=by rfl) :
  PE X (.Call (.Attribute o m apos) [] [] pos) (tMeth C m sp dvs E ta tNil):=by
 intro pins s σ H Q I h
 refine Z1N (pl:=pl) (thn (he pins s σ H _ I h) fun u s1 ⟨x,H1,I1,rx,a,dx,fs,ex,ea,l,q⟩=>?_) ht
 subst ex
 obtain rfl:u=Value.ref a:=rx
 refine Z5z I1 ea c hm l ?_
 exact PySem.W.callWith_K0 (first:=[.ref a]) I1.kIn hm.kp (Z6D (us:=[.ref a]) (vs:=[.ref a]) F hr hb hd hx I1 (.cons rfl .nil) q)
structure Mk(K:Z0a)(C f:Addr):Prop where
 makes:PySem.W.makesIn K C=true
 init:PySem.W.findIn K (.ref C) "__init__" = some (some (.ref f))
 fn:PySem.W.isFn K (.ref f)=true
 kp:PySem.W.keepIn K (.ref C)=true
theorem run_make{pins:List (Addr×Obj)}{σ:St}{H:Hp}{s:Shared}{Q:VK}{us:List Value}{vs:List V}(M:Mk X.K C f)(F:FnOk X.prog X.w X.K X.mg X.base CX k f fd ps sp)(hr:Room (k+1) X.A)(hb:Binds X.K fd ps ds)(hd:Vals dvs ds)
  (hx:Z2I CX X E)(I:Inv X pins σ H s)(r:Vals vs us)
  (h:∀ x dx,H x=none→H dx=none→dx≠x→sp (.ref x::(vs++dvs)) (upd (upd H dx (.own x)) x (.ins C dx [])) (fun v H2=>v=.non∧Q (.ref x) H2) E) :
  wpAny (model X.prog X.w) X.A (call (.ref C) us) (EP X pins σ Q) X.xe s:=by
 have hq:=h (s.heap.objs.size+1) s.heap.objs.size (I.hok.fresh (Nat.le_succ _)) (I.hok.fresh (Z0e _)) (Z0o (Z1x _))
 have I2:=Inv.made (C:=C) I
 have r2:Vals (V.ref (s.heap.objs.size+1)::(vs++dvs)) (Value.ref (s.heap.objs.size+1)::(us++ds)):=.cons rfl (r.append hd)
 have hl:(Value.ref (s.heap.objs.size+1)::us++ds).length=ps.length:=by
  have e:=r2.length
  rw [F.len _ _ _ _ hq]at e
  exact e.symm
 refine wpAny_call (make_map (f:=f) I.kIn M.makes M.init (beq_iff_eq.mp M.fn) (codeAny_mono (F.run _ X.stack _ _ ⟨Value.ref (s.heap.objs.size+1)::us,[]⟩ (Value.ref (s.heap.objs.size+1)::(us++ds)) _ _ E (hr.make C us [])
  (I2.env0.make C us []) (hb _ (Value.ref (s.heap.objs.size+1)::us) I2.kIn hl) r2 hq) fun r s' hq'=>?_))
 cases r with
 |error e=>exact hx pins σ _ _ e s' I2 hq'
 |ok fl =>
  cases fl with
  |ret u =>
   obtain⟨v,H',I3,rv,ev,q3⟩:=I2.after hq'
   subst ev
   exact⟨rv,⟨V.ref (s.heap.objs.size+1),H',I3,rfl,q3⟩⟩
  |next=>exact False.elim hq'
  |brk=>exact False.elim hq'
  |cont=>exact False.elim hq'
theorem Z3p(M:Mk X.K C f)(F:FnOk X.prog X.w X.K X.mg X.base CX k f fd ps sp)(hr:Room (k+1) X.A)(hg:Gl X x)(hm:X.mg x=some (.ref C))(hb:Binds X.K fd ps ds)(hd:Vals dvs ds)(hx:Z2I CX X E)
  (ha:PA X (e::es) t)(hdb:(x==("__debug__" : Str))=false:=by decide)(he:starEach (e::es) X.env=(false,eval e X.env)::starEach es X.env:=by rfl)(hpl:(backTo pos (starEach es X.env)).any (·.1)=false:=by rfl) :
  PE X (.Call (.Name x p) (e::es) [] pos) (tMake C sp dvs E t):=by
 intro pins s σ H Q I h
 refine wpAny_Call_Name_kw (Z2V I hg hm ?_ hdb)
 refine Z0V (h₀:=X.base) I.ok.mod.kin M.kp (thn (ha pos pins s σ H _ I h) fun us s1 ⟨vs,H1,I1,r,q⟩=>⟨I1.kIn,?_⟩) he hpl
 exact run_make M F hr hb hd hx I1 r q
end
section
variable{X:Cx}{CX:CXT}{k:Nat}{f C:Addr}{fd:FuncData}{ps ks:List Str}{sp:Sp}{E:XK}{x m:Str}{p pos apos kpos:Pos}{e o:Expr}{es:List Expr}{kws:List Keyword}{te ta:TE}{t tk:TA}{nm:Option Str}
variable{g:List Value→List Value→List Value}{gV:List V→List V→List V}
end
structure Z2e(N P:List Str)(sc:Scope):Prop where
 kind:sc.kind=.function
 co:sc.isCoroutine=false
 gen:sc.isGenerator=false
 nd:N.Nodup
 pre:N.take P.length=P
 par:∀ x∈P,sc.names.lookup x=some .local∨sc.names.lookup x=some .cell
 nofree:∀ y∈sc.names,y.2≠.free
theorem Z7A{kindOf:Str→Option NameKind}{x:Str}:∀ {binds:List (Str×Value)}{m:Str→Option Value},(∀ v,(x,v)∉binds)→bindL kindOf binds m x=m x
 |[],_,_=>rfl
 |(n,v)::r,m,h=>by
  unfold bindL
  rw [Z7A fun w hw=>h w (Z0f _ hw)]
  split
  ·have:x≠n:=by rintro rfl;exact h v Z0g
   simp [this]
  ·rfl
theorem Z7B{kindOf:Str→Option NameKind}{x:Str}:∀ {binds:List (Str×Value)}{m:Str→Option Value},(∀ v,(x,v)∉binds)→bindC kindOf binds m x=m x
 |[],_,_=>rfl
 |(n,v)::r,m,h=>by
  unfold bindC
  rw [Z7B fun w hw=>h w (Z0f _ hw)]
  split
  ·rfl
  ·have:x≠n:=by rintro rfl;exact h v Z0g
   simp [this]
theorem Z5F{kindOf:Str→Option NameKind}{x:Str}{v:Value}:∀ {P:List Str}{vs:List Value}{i:Nat}{m:Str→Option Value},P.Nodup→P[i]?=some x→vs[i]?=some v→kindOf x=some .local →
  bindL kindOf (P.zip vs) m x=some v
 |[],_,_,_,_,h,_,_=>by simp at h
 |_::_,[],_,_,_,_,h,_=>by simp at h
 |p::P,w::vs,0,m,nd,h1,h2,hk=>by
  simp at h1 h2;subst h1;subst h2
  show bindL kindOf ((p,w)::P.zip vs) m p=_
  unfold bindL
  rw [Z7A fun v hv=>(Z0L.mp nd).1 (Z1y hv).1,if_pos hk]
  simp
 |p::P,w::vs,i+1,m,nd,h1,h2,hk=>by
  show bindL kindOf ((p,w)::P.zip vs) m x=_
  unfold bindL
  exact Z5F (i:=i) (Z0L.mp nd).2 (by simpa using h1) (by simpa using h2) hk
theorem Z7L{kindOf:Str→Option NameKind}{x:Str}{v:Value}:∀ {P:List Str}{vs:List Value}{i:Nat}{m:Str→Option Value},P.Nodup→P[i]?=some x→vs[i]?=some v→kindOf x≠some .local →
  bindC kindOf (P.zip vs) m x=some v
 |[],_,_,_,_,h,_,_=>by simp at h
 |_::_,[],_,_,_,_,h,_=>by simp at h
 |p::P,w::vs,0,m,nd,h1,h2,hk=>by
  simp at h1 h2;subst h1;subst h2
  show bindC kindOf ((p,w)::P.zip vs) m p=_
  unfold bindC
  rw [Z7B fun v hv=>(Z0L.mp nd).1 (Z1y hv).1,if_neg hk]
  simp
 |p::P,w::vs,i+1,m,nd,h1,h2,hk=>by
  show bindC kindOf ((p,w)::P.zip vs) m x=_
  unfold bindC
  exact Z7L (i:=i) (Z0L.mp nd).2 (by simpa using h1) (by simpa using h2) hk
def start(N:List Str)(vs:List V):St:=vs.map some++List.replicate (N.length-vs.length) none
def cxOf(CX:CXT)(P:Program)(w:World)(K:Z0a)(mg:Str→Option Value)(base:Heap)(N:List Str)(qual:Str)(scope:Scope)(f:Addr)(cd:Value)(A:Around)(outer:List Env)(s:Shared)(H:Hp)(E:XK):Cx where
 prog:=P
 w:=w
 K:=K
 mg:=mg
 base:=base
 A:=A.deeper (envOfC qual scope s.heap.objs.size f cd)
 N:=N
 s_0:=s
 H_0:=H
 env:=envOfC qual scope s.heap.objs.size f cd
 outer:=outer
 stack:=envOfC qual scope s.heap.objs.size f cd::outer
 ex:=[]
 calm:=true
 fn:=fun _=>true
 pn:=[]
 xe:=fun e s'=>wpAny (model P w) (A.deeper (envOfC qual scope s.heap.objs.size f cd)) (leaving (envOfC qual scope s.heap.objs.size f cd) e) (fun _ s''=>CX outer H s E e s'') (fun e' s''=>CX outer H s E e' s'') s'
theorem Z8p{sc:Scope}{n:Nat}{x:Str}(h:sc.names.lookup x=some .cell):∃ c,(cellsFrom n sc.names []).lookup x=some c:=by
 have q:=PySem.W.cellsFrom_some sc.names n [] (.inl h)
 exact Option.isSome_iff_exists.mp q
theorem Zad{CX:CXT}{P:Program}{w:World}{K:Z0a}{mg:Str→Option Value}{base:Heap}{N ps:List Str}{qual:Str}{scope:Scope}{f:Addr}{cd:Value}{A:Around}{outer:List Env}{s s1:Shared}{H:Hp}{E:XK}{us:List Value}{vs:List V}
  (S:Z2e N ps scope)(hd:A.handled=none)(e0:Env0 P w K mg base A outer s H)(hl:vs.length=ps.length)(r:Vals vs us)
  (x:InCallC s s.heap.objs.size (bindL (envOfC qual scope s.heap.objs.size f cd).kindOf (ps.zip us) fun _=>none) (cellsFrom (s.heap.objs.size+1) scope.names []) (bindC (envOfC qual scope s.heap.objs.size f cd).kindOf (ps.zip us) fun _=>none) s1) :
  Inv (cxOf CX P w K mg base N qual scope f cd A outer s H E) [] (start N vs) H s1:=by
 have hpl:ps.length≤N.length:=by have:=congrArg List.length S.pre;rw [Z1c]at this;omega
 obtain⟨h1,tk,rfl,hk⟩:=x.done
 have noA:∀ b:Addr,b∉(cxOf CX P w K mg base N qual scope f cd A outer s H E).ex:=fun b z=>absurd (show b∈([]:List Addr)from z) (by simp)
 refine⟨⟨e0.mod,S.kind,rfl,rfl,Z0e _,fun y z c h1 h2=>?_,fun y hy=>?_,fun y c _ h=>?_,fun _=>hd,Around.frames_deeper e0.frames,.inr ⟨rfl,rfl⟩,fun b z=>absurd z (noA b),e0.bs,e0.bsz,fun b _ _=>noA b,fun b z=>absurd z (noA b),e0.funs,e0.frf⟩,
  rfl,e0.bare,Un.kept hk,⟨_,x.toInCall.ns,fun i y v h1 h2 h3=>?_⟩,fun y c h=>⟨_,x.cell y c h⟩,e0.hok.fresh (Z0e _),fun y c h=>?_,fun p hp=>absurd (show p∈([]:List (Addr×Obj))from hp) (by simp),e0.hok.kept hk,?_⟩
 ·exact name_of_addr x.apart (PySem.mem_of_lookup h1) (PySem.mem_of_lookup h2)
 ·have hy:scope.names.lookup y=some .cell∨scope.names.lookup y=some .free:=hy
  rcases hy with hy |hy
  ·exact Z8p hy
  ·exact absurd rfl (S.nofree _ (PySem.mem_of_lookup hy))
 ·exact Z1k (x.above y c (PySem.mem_of_lookup h))
 ·have hi:i<vs.length:=by
   unfold start at h2
   by_cases hi:i<vs.length
   ·exact hi
   ·rw [Z1z (by simpa using hi)]at h2
    rw [List.getElem?_replicate]at h2
    split at h2<;>cases h2
  have ha:vs[i]?=some v:=by
   unfold start at h2
   rw [Z0W (by simpa using hi),Z0n]at h2
   cases e:vs[i]? with
   |none=>rw [e]at h2;cases h2
   |some a=>rw [e]at h2;cases h2;rfl
  obtain⟨u,hu,rv⟩:=r.get ha
  have hp:ps[i]?=some y:=by
   rw [←S.pre,List.getElem?_take_of_lt (by omega)];exact h1
  have ndP:ps.Nodup:=by rw [←S.pre];exact S.nd.sublist (List.take_sublist _ _)
  refine⟨u,rv,?_⟩
  rcases S.par y (Z0z hp)with k |k
  ·exact .inl ⟨k,Z5F ndP hp hu k⟩
  ·obtain⟨c,e⟩:=Z8p (n:=s.heap.objs.size+1) k
   refine .inr ⟨.inl k,c,e,?_⟩
   have q:=x.cell y c e
   rw [Z7L ndP hp hu (by show scope.names.lookup y≠_;rw [k];decide)]at q
   exact q
 ·exact e0.hok.fresh (Z1k (x.above y c (PySem.mem_of_lookup h)))
 ·unfold start
  show _=N.length
  rw [Z0A,Z0c,Z1O]
  omega
theorem fn_of{CX:CXT}{P:Program}{w:World}{K:Z0a}{mg:Str→Option Value}{base:Heap}{k:Nat}{f:Addr}{name qual:Str}{params:Arguments}{body:List Stmt}{scope:Scope}{dV kV doc pm cdv ct oc:Value}{an od:Option Addr}
  {osl:Array (Option Value)}{N ps:List Str}{sp:Sp}(lk:K.lookup f=some ⟨oc,od,.func (PySem.W.fnOf name qual params body scope dV kV doc pm an cdv ct),osl⟩)(hcd:PySem.W.codeIn K cdv qual=true)(S:Z2e N ps scope)
  (len:∀ vs H Q E,sp vs H Q E→vs.length=ps.length)
  (hbody:∀ (A:Around)(outer:List Env)(s:Shared)(H:Hp)(vs:List V)(Q:VK)(E:XK),Room k (A.deeper (envOfC qual scope s.heap.objs.size f cdv))→sp vs H Q E →
    ∃ t,PSs (cxOf CX P w K mg base N qual scope f cdv A outer s H E) body t∧t { nx:=fun _ H'=>Q .non H',rt:=Q } (start N vs) H) :
  FnOk P w K mg base CX (k+1) f (PySem.W.fnOf name qual params body scope dV kV doc pm an cdv ct) ps sp:=by
 refine⟨len,fun A outer s H args us vs Q E hr e0 hb r hsp=>?_⟩
 have hl:=len _ _ _ _ hsp
 have KX:K.In s.heap:=e0.mod.kin.keeps fun b o e=>(e0.bs b o e).1
 have lim:s.heap.NoLimit:=e0.mod.nolimit.keeps fun b o e=>(e0.bs b o e).1
 have hkind:∀ y∈ps.zip us,scope.names.lookup y.1=some .local∨(scope.names.lookup y.1=some .cell∧((cellsFrom (s.heap.objs.size+1) scope.names []).lookup y.1).isSome=true):=fun⟨n,v⟩ hy=>by
  rcases S.par n (Z1y hy).1 with q |q
  ·exact .inl q
  ·exact .inr ⟨q,PySem.W.cellsFrom_some _ _ _ (.inl q)⟩
 refine codeAny_call_function hr.depth (KX _ _ lk) rfl S.co S.gen rfl (PySem.W.codeRec_of KX hcd) (hb _ _ _ _ ?_)
 refine wpAny_newFunctionEnv_cells S.kind hkind fun env he s1 x=>?_
 subst he
 refine⟨lim.keeps x.toInCall.keep,codeAny_func ?_⟩
 obtain⟨t,ht,hq⟩:=hbody A outer s H vs Q E (hr.deeper _) hsp
 have I:Inv (cxOf CX P w K mg base N qual scope f cdv A outer s H E) [] (start N vs) H s1:=Zad S hr.hd e0 hl r x
 refine wpAny_mono (ht [] s1 (start N vs) H _ I hq) (fun fl s' hs=>?_) fun e s' hs=>hs
 have fin:∀ {σ':St}{H':Hp}{v:V}{u:Value},Inv (cxOf CX P w K mg base N qual scope f cdv A outer s H E) [] σ' H' s'→RelV v u→Q v H'→CE outer P w H s Q u s' :=
  fun{σ' H' v u} J rv q=>⟨v,H',J.os,J.bare,J.base,J.hok,rv,q⟩
 cases fl with
 |ret u =>
  obtain⟨v,σ',H',J,rv,q⟩:=hs
  exact fin J rv q
 |next =>
  obtain⟨σ',H',J,q⟩:=hs
  exact fin (v:=V.non) (u:=Value.none) J rfl q
 |brk =>
  obtain⟨_,_,_,q⟩:=hs
  exact False.elim q
 |cont =>
  obtain⟨_,_,_,q⟩:=hs
  exact False.elim q
end L2
namespace L2
open PySem PySem.Spec PyProof.Rows
section
variable{X:Cx}{x:Str}{p pos:Pos}{e:Expr}{es:List Expr}{t:TA}{id T:String}{r:List V→Hp→VK→Prop}
def tCB(r:List V→Hp→VK→Prop)(t:TA):TE:=fun σ H Q=>t σ H fun vs H1=>r vs H1 Q
theorem Z2M(hc:CallR X (.builtin id) r)(hg:Gl X x)(hm:X.mg x=none)(hv:bootBuiltins x=some (.builtin id))(ha:PA X (e::es) t)(hn:x≠"__name__":=by decide)(hdb:(x==("__debug__" : Str))=false:=by decide)
  (he:starEach (e::es) X.env=(false,eval e X.env)::starEach es X.env:=by rfl)(hpl:(backTo pos (starEach es X.env)).any (·.1)=false:=by rfl):PE X (.Call (.Name x p) (e::es) [] pos) (tCB r t):=by
 intro pins s σ H Q I h
 refine wpAny_Call_Name_kw (Z6H I hg hm hv ?_ hn hdb)
 exact PyProof.Rows.callWith_builtin1 (thn (ha pos pins s σ H _ I h) fun us s1 ⟨vs,H1,I1,r1,q1⟩=>hc pins s1 σ H1 vs us Q I1 r1 q1) he hpl
end
end L2
namespace HT
open PySem PyProof.Rows
theorem eqAt_int(A:Around)(s:Shared)(a:Int)(t:Tok)(c:Int)(u:Tok):∃ e,SeqAt.EqAt A s (.int a t) (.int c u) e∧(e=true↔a=c) :=
 ⟨(a==c),SeqAt.EqAt.int_int a t c u,by simp⟩
section
open PySem.SeqAt
open PySem.AutoSeq1 (wpAny_loadPart')
open PySem.MeetsSeq PySem.MeetsSeq2 PySem.MeetsSeq3
end
section
variable{prog:Program}{w:World}{A:Around}{E:Value→Shared→Prop}{s:Shared}
def sIx(n d:Nat):Option Int→Nat
 |none=>d
 |some v=>if v<0 then(v+(n:Int)).toNat else min v.toNat n
theorem sIx_nat(n d k:Nat):sIx n d (some (k:Int))=min k n:=by
 show(if (k:Int)<0 then((k:Int)+(n:Int)).toNat else min (k:Int).toNat n)=min k n
 rw [if_neg (by omega),Int.toNat_natCast]
end
end HT
namespace L2
open PySem PySem.Spec PyProof.Rows
abbrev TO:=St→Hp→(Option Int→Hp→Prop)→Prop
def PO(X:Cx)(e:Option Expr)(t:TO):Prop :=
 ∀ (pins:List (Addr×Obj))(s:Shared)(σ:St)(H:Hp)(Q:Option Int→Hp→Prop),Inv X pins σ H s→t σ H Q →
  wpAny (model X.prog X.w) X.A (evalPart e X.env) (fun u s'=>∃ o H',Inv X pins σ H' s'∧IsPart u o∧Q o H') X.xe s
def tPart(t:TE):TO:=fun σ H Q=>t σ H fun x H1=>∃ i,x=.int i∧Q (some i) H1
theorem Z6U{ns:List Int}:∀ {us:List Value},Vals (ns.map V.int) us→IntsAre us ns:=by
 induction ns with
 |nil=>intro us r;rw [List.map_nil]at r;cases r;exact .nil
 |cons n ns ih =>
  intro us r
  rw [Z0B]at r
  cases r with
  |cons r1 r2 =>
   obtain⟨t,e⟩:=r1
   subst e
   exact .cons n t (ih r2)
section
variable{X:Cx}{e:Expr}{te:TE}{lo hi:Option Expr}{tl th:TO}{pos p2:Pos}
theorem Z9E(h:PE X e te):PO X (some e) (tPart te):=by
 intro pins s σ H Q I hw
 rw [evalPart_some]
 refine thn (h pins s σ H _ I hw) fun u s1 ⟨x,H1,I1,r1,q1⟩=>?_
 obtain⟨i,rfl,q⟩:=q1
 obtain⟨t,rfl⟩:=r1
 exact⟨some i,H1,I1,.int i t,q⟩
def SlR(X:Cx)(r:V→Option Int→Option Int→Hp→VK→Prop):Prop :=
 ∀ (pins:List (Addr×Obj))(s:Shared)(σ:St)(H:Hp)(x:V)(v vl vu:Value)(lo hi:Option Int)(sl:Addr)(Q:VK),Inv X pins σ H s→RelV x v→s.heap.IsSliceOf sl vl vu .none→IsPart vl lo→IsPart vu hi→r x lo hi H Q →
  ∃ T id,typeLookup (.type T) "__getitem__" = pure (some (.builtin id))∧s.TypeIs v T∧wpAny (model X.prog X.w) X.A (getItem v (.ref sl)) (EP X pins σ Q) X.xe s
def tSl(r:V→Option Int→Option Int→Hp→VK→Prop)(te:TE)(tl th:TO):TE:=fun σ H Q=>te σ H fun x H1=>tl σ H1 fun l H2=>th σ H2 fun u H3=>r x l u H3 Q
theorem pe_slice{r:V→Option Int→Option Int→Hp→VK→Prop}(hr:SlR X r)(he:PE X e te)(hl:PO X lo tl)(hu:PO X hi th):PE X (.Subscript e (.Slice lo hi none p2) pos) (tSl r te tl th):=by
 intro pins s σ H Q I h
 refine Subscript_ (thn (he pins s σ H _ I h) fun v s1 ⟨x,H1,I1,r1,q1⟩=>?_)
 refine wpAny_Slice (thn (hl pins s1 σ H1 _ I1 q1) fun vl s2 ⟨l,H2,I2,pl,q2⟩=>thn (hu pins s2 σ H2 _ I2 q2) fun vu s3 ⟨u,H3,I3,pu,q3⟩=>?_)
 rw [evalPart_none]
 refine wpAny_pure ?_
 have I4:Inv X pins σ H3 { s3 with heap:=s3.heap.push { cls:=.type "slice",data:=.fields #[vl,vu,.none] } }:=I3.kept (t':=s3.toks) fun b ob q=>Z0m _ q
 obtain⟨T,id,hT,ht,hg⟩:=hr pins { s3 with heap:=s3.heap.push { cls:=.type "slice",data:=.fields #[vl,vu,.none] } } σ H3 x v vl vu l u s3.heap.objs.size Q I4 r1 (Heap.IsSliceOf.new ..) pl pu q3
 show wpAny (model X.prog X.w) X.A (subscriptTail e (.Slice lo hi none p2) v (.ref s3.heap.objs.size)) (EP X pins σ Q) X.xe { s3 with heap:=s3.heap.push { cls:=.type "slice",data:=.fields #[vl,vu,.none] } }
 exact tail_any (ops:=[.ref s3.heap.objs.size,v]) ht hT hg (by with_unfolding_all rfl)
def cutV(xs:List V)(lo hi:Option Int):List V:=(xs.drop (HT.sIx xs.length 0 lo)).take (HT.sIx xs.length xs.length hi-HT.sIx xs.length 0 lo)
theorem Z8Y(xs:List V)(lo hi:Option Int):(cutV xs lo hi).length≤xs.length:=by
 unfold cutV
 rw [Z1c,Z1o]
 omega
end
end L2
namespace L2
open PySem PySem.Spec PyProof.Rows
def ixN(n:Nat)(i:Int):Option Nat:=if 0≤i then(if i<n then some i.toNat else none)else if -(n:Int)≤i then some (i+n).toNat else none
def atI{α:Type}(xs:List α)(i:Int):Option α:=(ixN xs.length i).bind fun j=>xs[j]?
theorem Z9v{n:Nat}{i:Int}{j:Nat}(h:ixN n i=some j):seqIndex? i n=some j∧j<n∧-(n:Int)≤i∧i<n:=by
 unfold ixN at h
 by_cases h0:0≤i
 ·rw [if_pos h0]at h
  by_cases h1:i<n
  ·rw [if_pos h1]at h
   have e:i.toNat=j:=Option.some.inj h
   exact⟨by rw [seqIndex_of h0 h1,e],by omega,by omega,h1⟩
  ·rw [if_neg h1]at h;cases h
 ·rw [if_neg h0]at h
  by_cases h1:-(n:Int)≤i
  ·rw [if_pos h1]at h
   have e:(i+n).toNat=j:=Option.some.inj h
   exact⟨by rw [seqIndex_neg (by omega) h1,e],by omega,h1,by omega⟩
  ·rw [if_neg h1]at h;cases h
theorem Z9D{α:Type}{xs:List α}{i:Int}{v:α}(h:atI xs i=some v):∃ j,seqIndex? i xs.length=some j∧xs[j]?=some v∧j<xs.length∧-(xs.length:Int)≤i∧i<xs.length:=by
 unfold atI at h
 cases e:ixN xs.length i with
 |none=>rw [e]at h;cases h
 |some j =>
  rw [e]at h
  obtain⟨h1,h2,h3,h4⟩:=Z9v e
  exact⟨j,h1,h,h2,h3,h4⟩
theorem Z3a{α:Type}{xs:List α}{j:Nat}{v:α}(h:xs[j]?=some v):atI xs (j:Int)=some v:=by
 have hj:j<xs.length:=(Z0p.mp h).1
 have e:ixN xs.length (j:Int)=some j:=by
  unfold ixN
  rw [if_pos (by omega),if_pos (by omega)];simp
 unfold atI;rw [e];exact h
def PlainIx(b:Expr):Prop:=∀ o i,subscripted b false o i=operate [o,i] (getItem o i)
def IxR(X:Cx)(r:R2):Prop :=
 ∀ (value slice:Expr)(pins:List (Addr×Obj))(s:Shared)(σ:St)(H:Hp)(x y:V)(v u:Value)(Q:VK),Inv X pins σ H s→RelV x v→RelV y u→r x y H Q →
  subscripted slice false v u=operate [v,u] (getItem v u)→wpAny (model X.prog X.w) X.A (subscriptTail value slice v u) (EP X pins σ Q) X.xe s
def MtR(X:Cx)(id:String)(r:V→List V→Hp→VK→Prop):Prop :=
 ∀ (pins:List (Addr×Obj))(s:Shared)(σ:St)(H:Hp)(x:V)(xs:List V)(v:Value)(us:List Value)(Q:VK),Inv X pins σ H s→RelV x v→Vals xs us→r x xs H Q →
  wpAny (model X.prog X.w) X.A (call (.builtin id) (v::us)) (EP X pins σ Q) X.xe s
section
variable{X:Cx}{a b:Expr}{ta tb:TE}{pos:Pos}
theorem pe_ix{r:R2}(hr:IxR X r)(ha:PE X a ta)(hb:PE X b tb)(hs:PlainIx b):PE X (.Subscript a b pos) (tOp r ta tb):=by
 intro pins s σ H Q I h
 exact Subscript_ (binT ha hb I h fun v u s2 x y H2 I2 rx ry q=>hr a b pins s2 σ H2 x y v u Q I2 rx ry q (hs _ _))
def rIxL(K:Z0a):R2:=fun x y H Q=>∃ p xs i v,x=.ref p∧y=.int i∧SqL K H p xs∧atI xs i=some v∧Q v H
def rIxT(K:Z0a):R2:=fun x y H Q=>∃ p xs i v,x=.ref p∧y=.int i∧SqT K H p xs∧atI xs i=some v∧Q v H
theorem Z2Z:IxR X (rIxL X.K):=by
 intro value slice pins s σ H x y v u Q I rx ry h hs
 obtain⟨p,xs,i,z,rfl,rfl,hq,he,q⟩:=h
 cases rx
 obtain⟨t,rfl⟩:=ry
 obtain⟨its,r,pl,hz⟩:=I.list hq
 obtain⟨j,h1,h2,h3,h4,h5⟩:=Z9D he
 obtain⟨w,ew,rw'⟩:=r.get h2
 have hl:=r.length
 have hn:=Z5b
 have fin:EP X pins σ Q w s:=⟨z,H,I,rw',q⟩
 by_cases h0:0≤i
 ·have hj:i.toNat=j:=by
   rw [seqIndex_of h0 h5]at h1
   exact Option.some.inj h1
  exact item_listR pl.isList h0 (by omega) (by rw [hj];simpa using ew) fin hs
 ·have hj:(i+(its.toArray.size:Int)).toNat=j:=by
   rw [seqIndex_neg (by omega) h4]at h1
   rw [Z0r,←hl]
   exact Option.some.inj h1
  exact subscriptTail_builtinR (x:=w) pl.isList.typeIs slot_list_getitem.lookup
   (wpAny_getItem_list_neg (Q:=fun r s'=>r=w∧EP X pins σ Q r s') pl.isList (by omega) (by rw [Z0r]<;>omega) (by omega) (by rw [hj];simpa using ew) ⟨rfl,fin⟩) hs
theorem Z4l:IxR X (rIxT X.K):=by
 intro value slice pins s σ H x y v u Q I rx ry h hs
 obtain⟨p,xs,i,z,rfl,rfl,hq,he,q⟩:=h
 cases rx
 obtain⟨t,rfl⟩:=ry
 obtain⟨its,r,pl,hz⟩:=I.tuple hq
 obtain⟨j,h1,h2,h3,h4,h5⟩:=Z9D he
 obtain⟨w,ew,rw'⟩:=r.get h2
 have hl:=r.length
 have hn:=Z5b
 have fin:EP X pins σ Q w s:=⟨z,H,I,rw',q⟩
 exact subscriptTail_builtinR (x:=w) pl.typeIs slot_tuple_getitem.lookup
  (getItem_tuple (j:=j) (Q:=fun r s'=>r=w∧EP X pins σ Q r s') pl (by omega) (by omega) (by rw [Z0r,←hl];exact h1) (by simpa using ew) ⟨rfl,fin⟩) hs
theorem Z9S(its:List Value)(n j:Nat)(u:Value):Obj.mapSeq (·.setIfInBounds j u) { cls:=.type "list",data:=.seq its.toArray n }={ cls:=.type "list",data:=.seq (its.set j u).toArray n }:=by
 simp [Obj.mapSeq]
theorem Inv.lst{pins:List (Addr×Obj)}{σ:St}{H:Hp}{s:Shared}{p:Addr}{xs:List V}(I:Inv X pins σ H s)(h:H p=some (.lst xs)) :
  ∃ (its:List Value)(n:Nat),Vals xs its∧s.heap.get? p=some { cls:=.type "list",data:=.seq its.toArray n }∧xs.length≤sizeLine:=by
 obtain⟨z,its,n,r,e⟩:=I.hok p _ h
 exact⟨its,n,r,e,z⟩
theorem Inv.lstUpd{pins:List (Addr×Obj)}{σ:St}{H:Hp}{s:Shared}{p:Addr}{xs ys:List V}{its its':List Value}{n n':Nat}{f:Obj→Obj}(I:Inv X pins σ H s)(h:H p=some (.lst xs))
  (ho:s.heap.get? p=some { cls:=.type "list",data:=.seq its.toArray n })(hf:f { cls:=.type "list",data:=.seq its.toArray n }={ cls:=.type "list",data:=.seq its'.toArray n' })(r:Vals ys its')(hz:ys.length≤sizeLine)(t:Nat) :
  Inv X pins σ (upd H p (.lst ys)) { s with heap:=s.heap.update p f,toks:=t }:=by
 have e:(s.heap.update p f).get? p=some { cls:=.type "list",data:=.seq its'.toArray n' }:=by
  rw [Z0M f ho (by rw [hf]<;>rfl),hf]
 refine I.write (x:=p) (e:=p) (by rw [h];trivial) (.inl rfl) (fun b u hb q=>(Z0H _ _ (Ne.symm hb)).trans q) ⟨_,e⟩ ?_
 exact⟨hz,its',n',r,e⟩
def rSetL:V→V→V→Hp→(Hp→Prop)→Prop:=fun o i v H Q=>∃ p xs k j,o=.ref p∧i=.int k∧H p=some (.lst xs)∧ixN xs.length k=some j∧Q (upd H p (.lst (xs.set j v)))
theorem Z8F:PSet X rSetL:=by
 intro pins s σ H o i v ov iv u Q I ro ri rv h
 obtain⟨p,xs,k,j,rfl,rfl,hp,hj,q⟩:=h
 cases ro
 obtain⟨t,rfl⟩:=ri
 obtain⟨its,n,r,ho,hz⟩:=I.lst hp
 obtain⟨h1,h2,h3,h4⟩:=Z9v hj
 have hl:=r.length
 have hn:=Z5b
 have I':Inv X pins σ (upd H p (.lst (xs.set j v))) { s with heap:=s.heap.update p (Obj.mapSeq (·.setIfInBounds j u)) } :=
  I.lstUpd hp ho (Z9S its n j u) (r.set rv j) (by rw [List.length_set];exact hz) s.toks
 by_cases h0:0≤k
 ·have hk:k.toNat=j:=by
   rw [seqIndex_of h0 h4]at h1
   exact Option.some.inj h1
  exact PySem.W.ki_setAt ho h0 (by omega) (by rw [Z0r,←hl];exact h4) (by rw [hk];exact⟨_,I',q⟩)
 ·have hk:(k+(its.toArray.size:Int)).toNat=j:=by
   rw [seqIndex_neg (by omega) h3]at h1
   rw [Z0r,←hl]
   exact Option.some.inj h1
  exact PySem.W.ki_setBack ho (by omega) (by rw [Z0r,←hl];exact h3) (by omega) (by rw [hk];exact⟨_,I',q⟩)
theorem Z8K(lo hi:Option Int)(n:Nat):(sliceBounds lo hi none n).1=((HT.sIx n 0 lo:Nat):Int)∧(sliceBounds lo hi none n).2.1=((HT.sIx n n hi:Nat):Int)∧(sliceBounds lo hi none n).2.2=1:=by
 refine⟨?_,?_,rfl⟩
 ·cases lo with
  |none=>simp [sliceBounds,HT.sIx]
  |some i =>
   simp only [sliceBounds,HT.sIx,Option.getD_none,show(1:Int) > 0 by decide,if_true]
   by_cases h:i<0
   ·simp only [h,if_true]<;>omega
   ·simp only [h,if_false]<;>omega
 ·cases hi with
  |none=>simp [sliceBounds,HT.sIx]
  |some i =>
   simp only [sliceBounds,HT.sIx,Option.getD_none,show(1:Int) > 0 by decide,if_true]
   by_cases h:i<0
   ·simp only [h,if_true]<;>omega
   ·simp only [h,if_false]<;>omega
theorem Z7T(its:List Value)(lo hi:Option Int):slicePick its.toArray lo hi none=((its.drop (HT.sIx its.length 0 lo)).take (HT.sIx its.length its.length hi-HT.sIx its.length 0 lo)).toArray:=by
 obtain⟨h1,h2,h3⟩:=Z8K lo hi its.toArray.size
 unfold slicePick
 rw [h1,h2,h3]
 simp only [sliceRange_one,pick_run,Z0r]<;>rfl
def rSlL(K:Z0a):V→Option Int→Option Int→Hp→VK→Prop:=fun x lo hi H Q=>∃ a xs,x=.ref a∧SqL K H a xs∧∀ p,H p=none→Q (.ref p) (upd H p (.lst (cutV xs lo hi)))
theorem sl_list:SlR X (rSlL X.K):=by
 intro pins s σ H x v vl vu lo hi sl Q I rx hs pl pu h
 obtain⟨a,xs,rfl,hx,q⟩:=h
 cases rx
 obtain⟨its,r,ht,hz⟩:=I.list hx
 have hlen:=r.length
 refine⟨"list",_,slot_list_getitem.lookup,ht.isList.typeIs,?_⟩
 refine wpAny_getItem_list_slice ht.isList hs pl pu .none (by simp) ?_ (by rw [Z0r]<;>omega)
 rw [Z7T,←hlen]
 refine⟨.ref s.heap.objs.size,_,I.laid (t':=s.toks) (o:=.lst (cutV xs lo hi)) (fun b ob q=>Z0m _ q) (Z0e _) ?_,rfl,q _ (I.hok.fresh (Z0e _))⟩
 exact⟨Z0x (Z8Y xs lo hi) hz,_,0,(r.drop (HT.sIx xs.length 0 lo)).take (HT.sIx xs.length xs.length hi-HT.sIx xs.length 0 lo),Z0C _ rfl⟩
def flatV:V→Bool
 |.non=>true
 |.bl _=>true
 |.int _=>true
 |.str _=>true
 |_=>false
def eqV:V→V→Bool
 |.non,.non=>true
 |.bl a,.bl b=>a==b
 |.bl a,.int b=>(if a then 1 else 0)==b
 |.int a,.bl b=>a==(if b then 1 else 0)
 |.int a,.int b=>a==b
 |.str a,.str b=>a==b
 |_,_=>false
theorem eqAt_V{A:Around}{s:Shared}{y x:V}{u v:Value}(ry:RelV y u)(rx:RelV x v)(fy:flatV y=true)(fx:flatV x=true):SeqAt.EqAt A s u v (eqV y x):=by
 cases y with
 |non =>
  cases ry
  cases x with
  |non=>cases rx;exact SeqAt.EqAt.same _
  |bl b=>cases rx;exact SeqAt.EqAt.none_bool b
  |int b=>obtain⟨t,rfl⟩:=rx;exact SeqAt.EqAt.none_int b t
  |str b=>obtain⟨t,rfl⟩:=rx;exact SeqAt.EqAt.none_str b t
  |_=>exact absurd (show false=true from fx) Z0t
 |bl a =>
  cases ry
  cases x with
  |non=>cases rx;exact SeqAt.EqAt.bool_none a
  |bl b=>cases rx;exact SeqAt.EqAt.bool_bool a b
  |int b=>obtain⟨t,rfl⟩:=rx;exact SeqAt.EqAt.bool_int a b t
  |str b=>obtain⟨t,rfl⟩:=rx;exact SeqAt.EqAt.bool_str a b t
  |_=>exact absurd (show false=true from fx) Z0t
 |int a =>
  obtain⟨t',rfl⟩:=ry
  cases x with
  |non=>cases rx;exact SeqAt.EqAt.int_none a t'
  |bl b=>cases rx;exact SeqAt.EqAt.int_bool a t' b
  |int b=>obtain⟨t,rfl⟩:=rx;exact SeqAt.EqAt.int_int a t' b t
  |str b=>obtain⟨t,rfl⟩:=rx;exact SeqAt.EqAt.int_str a t' b t
  |_=>exact absurd (show false=true from fx) Z0t
 |str a =>
  obtain⟨t',rfl⟩:=ry
  cases x with
  |non=>cases rx;exact SeqAt.EqAt.str_none a t'
  |bl b=>cases rx;exact SeqAt.EqAt.str_bool a t' b
  |int b=>obtain⟨t,rfl⟩:=rx;exact SeqAt.EqAt.str_int a t' b t
  |str b=>obtain⟨t,rfl⟩:=rx;exact SeqAt.EqAt.str_str a t' b t
  |_=>exact absurd (show false=true from fx) Z0t
 |_=>exact absurd (show false=true from fy) Z0t
def eqU(x:V)(u:Value):Bool:=match u with
 |.none=>eqV .non x
 |.bool b=>eqV (.bl b) x
 |.int i _=>eqV (.int i) x
 |.str z _=>eqV (.str z) x
 |_=>false
theorem eqU_of{x y:V}{u:Value}(r:RelV y u)(f:flatV y=true):eqU x u=eqV y x:=by
 cases y with
 |non=>cases r;rfl
 |bl b=>cases r;rfl
 |int i=>obtain⟨t,rfl⟩:=r;rfl
 |str z=>obtain⟨t,rfl⟩:=r;rfl
 |_=>exact absurd (show false=true from f) Z0t
theorem Z7i{x:V}:∀ {xs:List V}{us:List Value},Vals xs us→xs.all flatV=true→us.any (eqU x)=xs.any fun y=>eqV y x
 |_,_,.nil,_=>rfl
 |y::xs,u::us,.cons r t,f=>by
  rw [List.all_cons,Z0y]at f
  rw [Z1d,Z1d,eqU_of r f.1,Z7i t f.2]
theorem Z6z{A:Around}{s:Shared}{x:V}{v:Value}(rx:RelV x v)(fx:flatV x=true):∀ {xs:List V}{us:List Value},Vals xs us→xs.all flatV=true→∀ u∈us,SeqAt.EqAt A s u v (eqU x u)
 |_,_,.nil,_=>fun u hu=>by cases hu
 |y::xs,u::us,.cons r t,f=>fun u' hu=>by
  rw [List.all_cons,Z0y]at f
  rcases Z0d.mp hu with rfl |hu
  ·rw [eqU_of r f.1];exact eqAt_V r rx f.1 fx
  ·exact Z6z rx fx t f.2 u' hu
def inV(x:V)(xs:List V):Bool:=xs.any fun y=>eqV y x
def rIn(K:Z0a)(neg:Bool):R2:=fun x y H Q=>∃ p xs,y=.ref p∧(SqL K H p xs∨SqT K H p xs)∧flatV x=true∧xs.all flatV=true∧Q (.bl (if neg then !inV x xs else inV x xs)) H
theorem Zax:OpR X (compareOp .In) (rIn X.K false):=by
 intro pins s σ H x y v u Q I rx ry h
 obtain⟨p,xs,rfl,hq,fx,fs,q⟩:=h
 cases ry
 rcases hq with hq |hq
 ·obtain⟨its,r,pl,hz⟩:=I.list hq
  refine SeqAt.in_listAt (eqU x) pl.isList (fun w hw=>Z6z rx fx r fs w (by simpa using hw)) ⟨.bl _,H,I,rfl,?_⟩
  rw [show its.toArray.any (eqU x)=its.any (eqU x) by simp,Z7i r fs]
  exact q
 ·obtain⟨its,r,pl,hz⟩:=I.tuple hq
  refine SeqAt.in_tupleAt (eqU x) pl (fun w hw=>Z6z rx fx r fs w (by simpa using hw)) ⟨.bl _,H,I,rfl,?_⟩
  rw [show its.toArray.any (eqU x)=its.any (eqU x) by simp,Z7i r fs]
  exact q
theorem Z2v:CallR X (.builtin "len") (fun xs H Q=>∃ p ys,xs=[.ref p]∧(SqL X.K H p ys∨SqT X.K H p ys)∧Q (.int ys.length) H):=by
 intro pins s σ H xs us Q I r h
 obtain⟨p,ys,rfl,hq,q⟩:=h
 obtain⟨u,rfl,rx⟩:=vals1 r
 cases rx
 have hn:=Z5b
 rcases hq with hq |hq
 ·obtain⟨its,r',pl,hz⟩:=I.list hq
  have hlen:=r'.length
  exact Calls.call_len_list pl.isList (by simp only [Z0r]<;>omega) ⟨.int ys.length,H,I.tok _,⟨s.toks+1,by rw [Z0r,hlen]⟩,q⟩
 ·obtain⟨its,r',pl,hz⟩:=I.tuple hq
  have hlen:=r'.length
  exact len_tuple pl (by simp only [Z0r]<;>omega) ⟨.int ys.length,H,I.tok _,⟨s.toks+1,by rw [Z0r,hlen]⟩,q⟩
def tyV(K:Z0a)(T:String)(x:V)(H:Hp):Prop:=match x with
 |.str _=>T = "str"
 |.int _=>T = "int"
 |.ref p=>(T = "list"∧∃ xs,SqL K H p xs)∨(T = "tuple"∧∃ o,K.lookup p=some o∧o.cls=.type "tuple"∧o.dict=none) ∨
   (T = "dict"∧((∃ kvs,H p=some (.dK kvs))∨∃ kvs,H p=some (.dT kvs)))∨(T = "set"∧∃ S n,H p=some (.set S n))
 |_=>False
theorem tyV_is{pins:List (Addr×Obj)}{σ:St}{H:Hp}{s:Shared}{T:String}{x:V}{v:Value}(I:Inv X pins σ H s)(r:RelV x v)(ty:tyV X.K T x H) :
  s.TypeIs v T∧∀ a,v=.ref a→∃ ob,s.heap.get? a=some ob∧ob.dict=none:=by
 cases x with
 |str z =>
  obtain⟨t,rfl⟩:=r
  cases (show T = "str" from ty)
  exact⟨typeIs_str s z t,fun _ e=>nomatch e⟩
 |int i =>
  obtain⟨t,rfl⟩:=r
  cases (show T = "int" from ty)
  exact⟨typeIs_int s i t,fun _ e=>nomatch e⟩
 |ref p =>
  cases r
  rcases ty with⟨rfl,xs,hq⟩ |⟨rfl,o,hk,hc,hd⟩ |⟨rfl,hk⟩ |⟨rfl,S,n,hk⟩
  ·obtain⟨its,_,pl,_⟩:=I.list hq
   refine⟨pl.isList.typeIs,fun a e=>?_⟩
   cases e
   obtain⟨o,n,e,c,hd,_⟩:=pl
   exact⟨o,e,hd⟩
  ·refine⟨⟨o,I.kIn p o hk,hc⟩,fun a e=>?_⟩
   cases e
   exact⟨o,I.kIn _ o hk,hd⟩
  ·have z:∃ o,s.heap.get? p=some o∧o.ExactDict:=by
    rcases hk with⟨kvs,hk⟩ |⟨kvs,hk⟩
    ·obtain⟨_,_,_,_,o,_,_,e,ex,_⟩:=I.hok p _ hk
     exact⟨o,e,ex⟩
    ·obtain⟨_,_,_,_,o,_,_,e,ex,_⟩:=I.hok p _ hk
     exact⟨o,e,ex⟩
   obtain⟨o,e,ex⟩:=z
   refine⟨⟨o,e,ex.1⟩,fun a e2=>?_⟩
   cases e2
   exact⟨o,e,ex.2.1⟩
  ·obtain⟨o,_,_,_,e,ex,_⟩:=I.hok p _ hk
   refine⟨⟨o,e,ex.1⟩,fun a e2=>?_⟩
   cases e2
   exact⟨o,e,ex.2.1⟩
 |_=>exact False.elim ty
def tBM0(K:Z0a)(T:String)(r:V→List V→Hp→VK→Prop)(to:TE):TE:=fun σ H Q=>to σ H fun x H1=>tyV K T x H1∧r x [] H1 Q
def tBM(K:Z0a)(T:String)(r:V→List V→Hp→VK→Prop)(to:TE)(t:TA):TE:=fun σ H Q=>to σ H fun x H1=>tyV K T x H1∧t σ H1 fun xs H2=>r x xs H2 Q
variable{o e:Expr}{es:List Expr}{to:TE}{t:TA}{name:Str}{apos cpos:Pos}{T id:String}{r:V→List V→Hp→VK→Prop}
theorem pe_bm0(pa:PlainAttrs T)(slot:Slot T name id)(hty:typeOf (.builtin id)=pure (.type "method_descriptor"))(hm:MtR X id r)(ho:PE X o to)
  (hbase:attributeBase o name X.env (eval o X.env)=eval o X.env:=by rfl)(hline:(apos.endLine==cpos.line)=true:=by rfl):PE X (.Call (.Attribute o name apos) [] [] cpos) (tBM0 X.K T r to):=by
 intro pins s σ H Q I h
 refine wpAny_Call_method0_late hbase hline (thn (ho pins s σ H _ I h) fun v s1 ⟨x,H1,I1,r1,ty,q1⟩=>?_)
 obtain⟨h1,h2⟩:=tyV_is I1 r1 ty
 exact⟨T,id,pa,slot,hty,h1,h2,Calls.callWith_builtin rfl (PySem.evalArgs_none (hm pins s1 σ H1 x [] v [] Q I1 r1 .nil q1))⟩
theorem pe_bm(pa:PlainAttrs T)(slot:Slot T name id)(hty:typeOf (.builtin id)=pure (.type "method_descriptor"))(hm:MtR X id r)(ho:PE X o to)(ha:PA X (e::es) t)
  (hbase:attributeBase o name X.env (eval o X.env)=eval o X.env:=by rfl)
  (hfew:((backTo cpos (starEach (e::es) X.env)).all (fun x=>!x.1)&&(backToKw cpos (keywordEach [] X.env)).all (fun x=>x.1.isSome)
    && decide ((e::es).length+([]:List Keyword).length+(if ([]:List Keyword).isEmpty then 0 else 1)<30))=true:=by rfl)
  (hline:(apos.endLine==cpos.line)=true:=by rfl)(hs:starEach (e::es) X.env=(false,eval e X.env)::starEach es X.env:=by rfl)(hplain:(backTo cpos (starEach es X.env)).any (·.1)=false:=by rfl) :
  PE X (.Call (.Attribute o name apos) (e::es) [] cpos) (tBM X.K T r to t):=by
 intro pins s σ H Q I h
 refine wpAny_Call_method_late hbase hfew hline rfl (thn (ho pins s σ H _ I h) fun v s1 ⟨x,H1,I1,r1,ty,q1⟩=>?_)
 obtain⟨h1,h2⟩:=tyV_is I1 r1 ty
 refine⟨T,id,pa,slot,hty,h1,h2,?_⟩
 have hA:=ha cpos pins s1 σ H1 _ I1 q1
 rw [hs]at hA ⊢
 refine Calls.callWith_builtin (by show(false ||(backTo cpos (starEach es X.env)).any (·.1))=false;rw [hplain]<;>rfl) (Calls.evalArgs_plain ?_)
 exact thn hA fun us s2 ⟨vs,H2,I2,r2,q2⟩=>hm pins s2 σ H2 x vs v us Q I2 r1 r2 q2
end
end L2
namespace L2
open PySem PySem.Spec PyProof.Rows
def MtM(X:Cx)(id:String)(r:V→List V→Hp→VK→Prop):Prop :=
 ∀ (pins:List (Addr×Obj))(s:Shared)(σ:St)(H:Hp)(x:V)(xs:List V)(v:Value)(us:List Value)(Q:VK),Inv X pins σ H s→RelV x v→Vals xs us→r x xs H Q →
  wpAny (model X.prog X.w) X.A (call (.builtin id) (v::us)) (EP X pins σ Q) X.xe s
theorem Vals.one:∀ {x:V}{us:List Value},Vals [x] us→∃ u,us=[u]∧RelV x u
 |_,_,.cons r .nil=>⟨_,rfl,r⟩
theorem Vals.zero:∀ {us:List Value},Vals [] us→us=[]
 |_,.nil=>rfl
theorem Vals.dropLast{xs:List V}{us:List Value}(h:Vals xs us):Vals xs.dropLast us.dropLast:=by
 induction h with
 |nil=>exact .nil
 |cons r t ih =>
  cases t with
  |nil=>exact .nil
  |cons q t'=>exact .cons r ih
theorem Z9K{α:Type}(l:List α):l.eraseIdx (l.length-1)=l.dropLast:=by
 induction l with
 |nil=>rfl
 |cons a r ih =>
  cases r with
  |nil=>rfl
  |cons b r =>
   have e:(a::b::r).length-1=((b::r).length-1)+1:=by
    have h1:(a::b::r).length=r.length+2:=rfl
    have h2:(b::r).length=r.length+1:=rfl
    omega
   rw [e,List.eraseIdx_cons_succ,ih]
   all_goals rfl
section
variable{X:Cx}{pins:List (Addr×Obj)}{σ:St}{H:Hp}{s:Shared}{l b:Addr}{xs ys zs:List V}
theorem Inv.lset{its its':List Value}{n:Nat}{f:Array Value→Array Value}{t':Nat}(I:Inv X pins σ H s)(hH:H l=some (.lst xs))
  (e:s.heap.get? l=some { cls:=.type "list",data:=.seq its.toArray n })(hf:f its.toArray=its'.toArray)(hv:Vals ys its')(hz:ys.length≤sizeLine) :
  Inv X pins σ (upd H l (.lst ys)) { s with heap:=s.heap.update l (Obj.mapSeq f),toks:=t' }:=by
 have q:=PySem.IsL.update e f
 rw [hf]at q
 refine I.write (x:=l) (e:=l) (by rw [hH];exact trivial) (.inl rfl) (fun b' u hb hu=>(Z0H s.heap (Obj.mapSeq f) (Ne.symm hb)).trans hu) ⟨_,q⟩ ?_
 exact⟨hz,its',_,hv,q⟩
theorem Inv.lnew{its:List Value}{t':Nat}(I:Inv X pins σ H s)(hv:Vals ys its)(hz:ys.length≤sizeLine) :
  Inv X pins σ (upd H s.heap.objs.size (.lst ys)) { s with heap:=s.heap.push { cls:=.type "list",data:=.seq its.toArray },toks:=t' } :=
 I.laid (fun _ _ q=>Z0m _ q) (Z0e _) ⟨hz,its,0,hv,Z0C _ rfl⟩
theorem Inv.fresh(I:Inv X pins σ H s):H s.heap.objs.size=none:=I.hok.fresh (Z0e _)
theorem Inv.lstM(I:Inv X pins σ H s)(hH:H l=some (.lst xs)):xs.length≤sizeLine∧∃ (its:List Value)(n:Nat),Vals xs its∧xs.length=its.length∧s.heap.get? l=some { cls:=.type "list",data:=.seq its.toArray n }:=by
 obtain⟨z,its,n,r,e⟩:=I.hok l _ hH
 exact⟨z,its,n,r,r.length,e⟩
theorem notLongL{n:Nat}(h:n≤sizeLine):Builtin.List.listTooLong n=false:=by
 unfold Builtin.List.listTooLong
 exact decide_eq_false (by omega)
end
section
variable{X:Cx}
def rAppend:V→List V→Hp→VK→Prop:=fun x vs H Q=>∃ l xs y,x=.ref l∧vs=[y]∧H l=some (.lst xs)∧xs.length<sizeLine∧Q .non (upd H l (.lst (xs++[y])))
theorem Z4R:MtM X "list.append" rAppend:=by
 intro pins s σ H x vs v us Q I rx rv h
 obtain⟨l,xs,y,rfl,rfl,hH,hz,q⟩:=h
 cases rx
 obtain⟨u,rfl,ru⟩:=rv.one
 obtain⟨z,its,n,r,hl,e⟩:=I.lstM hH
 refine call_meets F.slot_list_append ⟨_,e,rfl⟩ F.entry_list_append (F.args_list_append_2 _ _) (PySem.list_append l its.toArray n u (by rw [Z0r];omega)) ⟨e,?_⟩
 refine⟨.non,_,I.lset (its':=its++[u]) hH e (by simp) (r.append (.cons ru .nil)) ?_,rfl,q⟩
 rw [Z0A,Z1P]
 omega
def rExtend:V→List V→Hp→VK→Prop:=fun x vs H Q=>∃ l b xs zs,x=.ref l∧vs=[.ref b]∧H l=some (.lst xs)∧H b=some (.lst zs)∧xs.length+zs.length≤sizeLine∧Q .non (upd H l (.lst (xs++zs)))
theorem Zae:MtM X "list.extend" rExtend:=by
 intro pins s σ H x vs v us Q I rx rv h
 obtain⟨l,b,xs,zs,rfl,rfl,hH,hB,hz,q⟩:=h
 cases rx
 obtain⟨u,rfl,ru⟩:=rv.one
 cases ru
 obtain⟨z,its,n,r,hl,e⟩:=I.lstM hH
 obtain⟨z2,its2,n2,r2,hl2,e2⟩:=I.lstM hB
 have hsz:its.toArray.size+its2.toArray.size≤sizeLine:=by rw [Z0r,Z0r];omega
 have hlong:¬ (!its.toArray.isEmpty&&Builtin.List.listTooLong (its.toArray.size+its2.toArray.size))=true:=by
  rw [notLongL hsz,Bool.and_false]
  exact Z0t
 refine call_meets F.slot_list_extend ⟨_,e,rfl⟩ F.entry_list_extend (F.args_list_extend_2 _ _)
  (AutoSeq1.list_extend_list_list_0 l its.toArray n b its2.toArray n2 hlong (by rw [Z0r];omega) (by omega)) ⟨e,e2,?_⟩
 refine⟨.non,_,I.lset (its':=its++its2) hH e (by simp) (r.append r2) ?_,rfl,q⟩
 rw [Z0A]
 omega
def rPop:V→List V→Hp→VK→Prop:=fun x vs H Q=>∃ l xs y,x=.ref l∧vs=[]∧H l=some (.lst xs)∧xs[xs.length-1]?=some y∧Q y (upd H l (.lst xs.dropLast))
theorem mt_pop:MtM X "list.pop" rPop:=by
 intro pins s σ H x vs v us Q I rx rv h
 obtain⟨l,xs,y,rfl,rfl,hH,hy,q⟩:=h
 cases rx
 have hus:=rv.zero
 subst hus
 obtain⟨z,its,n,r,hl,e⟩:=I.lstM hH
 obtain⟨u,hu,ru⟩:=r.get hy
 have hy':its.toArray[its.toArray.size-1]?=some u:=by
  show its.toArray[its.length-1]?=some u
  rw [←Array.getElem?_toList,←hl]
  exact hu
 refine call_meets F.slot_list_pop ⟨_,e,rfl⟩ F.entry_list_pop (F.args_list_pop_1 _) (MeetsSeq.list_pop_last l its.toArray n u hy' (by rw [Z0r];omega)) ⟨e,?_⟩
 refine⟨y,_,I.lset (its':=its.dropLast) hH e ?_ r.dropLast ?_,ru,q⟩
 ·show its.toArray.eraseIdxIfInBounds (its.toArray.size-1)=its.dropLast.toArray
  rw [Z0r,List.eraseIdxIfInBounds_toArray,Z9K]
 ·rw [List.length_dropLast]
  omega
def rCat:R2:=fun x y H Q=>∃ l b xs zs,x=.ref l∧y=.ref b∧H l=some (.lst xs)∧H b=some (.lst zs)∧xs.length+zs.length≤sizeLine∧∀ p,H p=none→Q (.ref p) (upd H p (.lst (xs++zs)))
theorem op_cat:OpR X (binaryOp .Add) rCat:=by
 intro pins s σ H x y v u Q I rx ry h
 obtain⟨l,b,xs,zs,rfl,rfl,hH,hB,hz,q⟩:=h
 cases rx
 cases ry
 obtain⟨z,its,n,r,hl,e⟩:=I.lstM hH
 obtain⟨z2,its2,n2,r2,hl2,e2⟩:=I.lstM hB
 refine PySem.P.add_list e e2 ?_ (by rw [Z0r,Z0r];omega)
 have ea:its.toArray++its2.toArray=(its++its2).toArray:=by simp
 rw [ea]
 exact⟨.ref _,_,I.lnew (t':=s.toks) (r.append r2) (by rw [Z0A];omega),rfl,q _ I.fresh⟩
end
section
variable{prog:Program}{w:World}{A:Around}{E:Value→Shared→Prop}{s:Shared}
end
section
variable{X:Cx}
end
end L2
namespace L2
open PySem PySem.Spec PyProof.Rows
section
variable{prog:Program}{w:World}{A:Around}{E:Value→Shared→Prop}{s:Shared}{l:Addr}{its:List Value}{ns:List Int}{Q:Value→Shared→Prop}
end
section
variable{X:Cx}
end
section
variable{X:Cx}
end
section
variable{X:Cx}
end
section
variable{X:Cx}
end
section
variable{X:Cx}{pins:List (Addr×Obj)}{σ:St}{H:Hp}{s:Shared}
end
section
variable{X:Cx}
end
end L2
namespace L2
open PySem PySem.Spec PyProof.Rows
abbrev CellAt(h:Heap)(c:Addr)(v:Option Value):Prop:=h.IsCell c v
def relS(scope sc:Scope):Scope :=
 { scope with names:=scope.names.map fun(n,k)=>if (k==.free&&sc.kind==.function&&sc.names.lookup n==some .cell)then(n,.cell)else(n,k) }
def Z2l(cells:List (Str×Addr)):List (Str×NameKind)→List (Str×Addr)→List (Str×Addr)
 |[],acc=>acc
 |(n,k)::r,acc=>if k==.free then Z2l cells r ((n,(cells.lookup n).getD 0)::acc)else Z2l cells r acc
theorem Z5T(env:Env)(f:Str×NameKind→List (Str×Addr)→Sem (ForInStep (List (Str×Addr))))
  (hf:∀ n k c,f (n,k) c=if k==.free then(do let a ←cellOf env n;pure (.yield ((n,a)::c)))else pure (.yield c)) :
  ∀ (names:List (Str×NameKind))(acc:List (Str×Addr)),(∀ y∈names,y.2=.free→∃ c,env.cells.lookup y.1=some c)→forIn names acc f=pure (Z2l env.cells names acc)
 |[],acc,_=>by rw [List.forIn_nil];rfl
 |(n,k)::r,acc,h=>by
  rw [List.forIn_cons,hf]
  have ih:=fun acc=>Z5T env f hf r acc fun y hy=>h y (Z0f _ hy)
  unfold Z2l
  by_cases hk:(k==NameKind.free)=true
  ·rw [if_pos hk,if_pos hk]
   obtain⟨c,hc⟩:=h (n,k) Z0g (by simpa using hk)
   have e:cellOf env n=pure c:=by unfold cellOf;rw [hc]
   rw [e]
   have e2:(env.cells.lookup n).getD 0=c:=by rw [hc];rfl
   rw [e2]
   exact ih _
  ·rw [if_neg hk,if_neg hk]
   exact ih _
theorem Z5o{scope:Scope}{env:Env}(h:∀ y∈scope.names,y.2=.free→∃ c,env.cells.lookup y.1=some c):closureFor scope env=pure (Z2l env.cells scope.names []):=by
 simp only [closureFor]
 rw [Z5T env _ (fun n k c=>rfl) scope.names [] h]
 rfl
theorem Z3K{α:Type}:∀ {l:List (Str×α)}{n:Str}{c:α},(n,c)∈l→∃ c',l.lookup n=some c'
 |(k,v)::r,n,c,h=>by
  rw [Z0b]
  cases hb:n==k with
  |true=>exact⟨_,rfl⟩
  |false =>
   rcases Z0d.mp h with e |h
   ·cases e;simp at hb
   ·exact Z3K h
theorem Z3x{cells:List (Str×Addr)}:∀ {names:List (Str×NameKind)}{acc:List (Str×Addr)}{n:Str}{c:Addr},(n,c)∈Z2l cells names acc→(n,c)∈acc∨((n,.free)∈names∧c=(cells.lookup n).getD 0)
 |[],_,_,_,h=>.inl h
 |(m,k)::r,acc,n,c,h=>by
  unfold Z2l at h
  split at h
  ·rename_i hk
   have hk:k=.free:=by simpa using hk
   rcases Z3x h with h |⟨h1,h2⟩
   ·rcases Z0d.mp h with e |h
    ·cases e;exact .inr ⟨hk ▸ Z0g,rfl⟩
    ·exact .inl h
   ·exact .inr ⟨Z0f _ h1,h2⟩
  ·rcases Z3x h with h |⟨h1,h2⟩
   ·exact .inl h
   ·exact .inr ⟨Z0f _ h1,h2⟩
theorem Z4X{cells:List (Str×Addr)}:∀ {names:List (Str×NameKind)}{acc:List (Str×Addr)}{p:Str×Addr},p∈acc→p∈Z2l cells names acc
 |[],_,_,h=>h
 |(m,k)::r,acc,p,h=>by
  unfold Z2l
  split
  ·exact Z4X (Z0f _ h)
  ·exact Z4X h
theorem Z3w{cells:List (Str×Addr)}:∀ {names:List (Str×NameKind)}{acc:List (Str×Addr)}{n:Str},(n,.free)∈names→(n,(cells.lookup n).getD 0)∈Z2l cells names acc
 |(m,k)::r,acc,n,h=>by
  unfold Z2l
  rcases Z0d.mp h with e |h
  ·cases e
   exact Z4X Z0g
  ·split
   ·exact Z3w h
   ·exact Z3w h
theorem Z4h:∀ {names:List (Str×NameKind)}{h:Heap}{acc:List (Str×Addr)}{x:Str}{c:Addr},(x,c)∈cellsFrom h.objs.size names acc →
  (x,c)∈acc∨((x,.cell)∈names∧h.objs.size≤c∧CellAt (pushCells h names) c none)
 |[],_,_,_,_,h=>.inl h
 |(n,k)::r,h,acc,x,c,hm=>by
  unfold cellsFrom at hm
  unfold pushCells
  split at hm
  ·rename_i hk
   rw [if_pos hk]
   have hk:k=.cell:=by simpa using hk
   rw [←Z0I h { cls:=.type "cell",data:=.cell none }]at hm
   rcases Z4h hm with hm |⟨h1,h2,h3⟩
   ·rcases Z0d.mp hm with e |hm
    ·cases e
     exact .inr ⟨hk ▸ Z0g,Z0e _,_,pushCells_keeps r _ _ _ (Z0C _ rfl),rfl⟩
    ·exact .inl hm
   ·rw [Z0I]at h2
    exact .inr ⟨Z0f _ h1,Z1A h2,h3⟩
  ·rename_i hk
   rw [if_neg hk]
   rcases Z4h hm with hm |⟨h1,h2,h3⟩
   ·exact .inl hm
   ·exact .inr ⟨Z0f _ h1,h2,h3⟩
theorem Z4S:∀ {names:List (Str×NameKind)}{n:Nat}{acc:List (Str×Addr)}{p:Str×Addr},p∈acc→p∈cellsFrom n names acc
 |[],_,_,_,h=>h
 |(m,k)::r,n,acc,p,h=>by
  unfold cellsFrom
  split
  ·exact Z4S (Z0f _ h)
  ·exact Z4S h
theorem Z5H:∀ {names:List (Str×NameKind)}{n:Nat}{acc:List (Str×Addr)}{x:Str},(x,.cell)∈names→∃ c,(x,c)∈cellsFrom n names acc
 |(m,k)::r,n,acc,x,h=>by
  unfold cellsFrom
  rcases Z0d.mp h with e |h
  ·cases e
   exact⟨n,Z4S Z0g⟩
  ·split
   ·exact Z5H h
   ·exact Z5H h
theorem Z5M:∀ {names:List (Str×NameKind)}{h:Heap}{acc:List (Str×Addr)}{x y:Str}{c:Addr},(∀ p∈acc,p.2<h.objs.size)→(∀ x y c,(x,c)∈acc→(y,c)∈acc→x=y) →
  (x,c)∈cellsFrom h.objs.size names acc→(y,c)∈cellsFrom h.objs.size names acc→x=y
 |[],_,_,_,_,_,_,hi,h1,h2=>hi _ _ _ h1 h2
 |(n,k)::r,h,acc,x,y,c,hl,hi,h1,h2=>by
  unfold cellsFrom at h1 h2
  split at h1
  ·rename_i hk
   rw [if_pos hk]at h2
   rw [←Z0I h { cls:=.type "cell",data:=.cell none }]at h1 h2
   refine Z5M (h:=h.push _) (fun p hp=>?_) (fun x y c a b=>?_) h1 h2
   ·rw [Z0I]
    rcases Z0d.mp hp with rfl |hp
    ·exact Z1x _
    ·exact Z1p (hl p hp)
   ·rcases Z0d.mp a with e |a<;>rcases Z0d.mp b with e' |b
    ·cases e;cases e';rfl
    ·cases e;exact absurd (hl _ b) (Z0u _)
    ·cases e';exact absurd (hl _ a) (Z0u _)
    ·exact hi _ _ _ a b
  ·rename_i hk
   rw [if_neg hk]at h2
   exact Z5M hl hi h1 h2
theorem Z6k{M:Model}{A:Around}{E:Value→Shared→Prop}{s:Shared}{scope:Scope}{globals:Addr}{closure:List (Str×Addr)}{qual:Str}{func:Option Addr}{code:Value}{around:Env}{builtins:Addr}{Q:Env→Shared→Prop}
  (h:Q (newEnv scope s.heap.objs.size globals (cellsFrom (s.heap.objs.size+1) scope.names closure) qual func code (some around) builtins)
    { s with heap:=pushCells (s.heap.push { cls:=.type "dict",data:=.dict #[] }) scope.names }) :
  wpAny M A (newFunctionEnv scope globals closure [] qual func code (some around) builtins) Q E s:=by
 simp only [newFunctionEnv,Option.isSome_some,if_true]
 refine wpAny_bind (wpAny_alloc ?_)
 refine wpAny_bind (wpAny_layCells _ (fun n k c=>rfl) scope.names closure _ _ ?_)
 rw [show({ s with heap:=s.heap.push { cls:=.type "dict",data:=.dict #[] } }:Shared).heap.objs.size=s.heap.objs.size+1 from Z0I ..]
 rw [List.forIn_nil]
 exact wpAny_bind (wpAny_pure (wpAny_pure h))
theorem Z4Z{sc:Scope}:∀ {names:List (Str×NameKind)}{x:Str}{k:NameKind},
  (names.map fun(n,k)=>if (k==NameKind.free&&sc.kind==.function&&sc.names.lookup n==some .cell)then(n,NameKind.cell)else(n,k)).lookup x=some k →
  ∃ k',names.lookup x=some k'∧(k=k'∨(k'=.free∧k=.cell))
 |[],_,_,h=>by simp at h
 |(n,k₀)::r,x,k,h=>by
  have ih:=@Z4Z sc r x k
  have h':List.lookup x ((if (k₀==NameKind.free&&sc.kind==.function&&sc.names.lookup n==some .cell)=true then(n,NameKind.cell)else(n,k₀))::(r.map _))=some k:=h
  cases hx:x==n with
  |true =>
   simp only [Z0b,hx]
   by_cases hc:(k₀==NameKind.free&&sc.kind==.function&&sc.names.lookup n==some .cell)=true
   ·rw [if_pos hc]at h'
    simp only [Z0b,hx]at h'
    cases h'
    simp only [Z0y,beq_iff_eq]at hc
    exact⟨k₀,rfl,.inr ⟨hc.1.1,rfl⟩⟩
   ·rw [if_neg hc]at h'
    simp only [Z0b,hx]at h'
    cases h'
    exact⟨_,rfl,.inl rfl⟩
  |false =>
   simp only [Z0b,hx]
   by_cases hc:(k₀==NameKind.free&&sc.kind==.function&&sc.names.lookup n==some .cell)=true
   ·rw [if_pos hc]at h'
    simp only [Z0b,hx]at h'
    exact ih h'
   ·rw [if_neg hc]at h'
    simp only [Z0b,hx]at h'
    exact ih h'
structure BlkOk(N:List Str)(sc scope:Scope)(own:List (Str×Nat)):Prop where
 kind:scope.kind=.function
 uniq:∀ y∈scope.names,scope.names.lookup y.1=some y.2
 ix:∀ p∈own,N[p.2]?=some p.1
 free:∀ y∈scope.names,y.2=.free→sc.names.lookup y.1=some .cell∨sc.names.lookup y.1=some .free
 own:∀ y∈scope.names,y.2=.local∨y.2=.cell→y.1∈own.map (·.1)∨y.1∉N
def wipe(σ:St):List Nat→St
 |[]=>σ
 |v::vs=>(wipe σ vs).set v none
theorem Z4e(σ:St):∀ vs:List Nat,(wipe σ vs).length=σ.length
 |[]=>rfl
 |v::vs=>by unfold wipe;rw [List.length_set,Z4e σ vs]
theorem Z4T{σ:St}{i:Nat}{x:V}:∀ {vs:List Nat},(wipe σ vs)[i]?=some (some x)→σ[i]?=some (some x)∧i∉vs
 |[],h=>⟨h,by simp⟩
 |v::vs,h=>by
  unfold wipe at h
  by_cases hi:v=i
  ·subst hi
   by_cases hv:v<(wipe σ vs).length
   ·rw [Z1m hv]at h;cases h
   ·rw [List.getElem?_eq_none (by simpa using hv)]at h;cases h
  ·rw [Z1v hi]at h
   obtain⟨h1,h2⟩:=Z4T h
   exact⟨h1,by simp only [Z0d,not_or];exact⟨fun e=>hi e.symm,h2⟩⟩
abbrev Cx.blk(X:Cx)(s:Shared)(H:Hp)(scope:Scope)(cenv:Env)(fp:List Addr):Cx:={ X with s_0:=s,H_0:=H,env:=cenv,outer:=X.stack,ex:=fp,fn:=fun x=>scope.names.lookup x==some .cell,pn:=[],xe:=fun _ _=>False }
section
variable{X:Cx}{pins:List (Addr×Obj)}{σ:St}{H:Hp}{s:Shared}
theorem Z6i{scope:Scope}{own:List (Str×Nat)}{fp:List Addr}(I:Inv X pins σ H s)(ok:BlkOk X.N X.env.scope scope own)(hN:X.N.Nodup)(hfp:∀ b∈fp,FpOk X pins H b∧b<s.heap.objs.size) :
  Inv (X.blk s H scope (compEnvC scope (cellsFrom (s.heap.objs.size+1) scope.names (Z2l X.env.cells scope.names [])) s.heap.objs.size X.env) fp) [] (wipe σ (own.map (·.2))) H { s with heap:=pushCells (s.heap.push { cls:=.type "dict",data:=.dict #[] }) scope.names }:=by
 have hfree:∀ y∈scope.names,y.2=.free→∃ c,X.env.cells.lookup y.1=some c:=fun y hy e=>by
  rcases ok.free y hy e with k |k
  ·exact I.ok.has _ (.inl k)
  ·exact I.ok.has _ (.inr k)
 generalize hcenv:compEnvC scope (cellsFrom (s.heap.objs.size+1) scope.names (Z2l X.env.cells scope.names [])) s.heap.objs.size X.env=cenv
 have kp:∀ b o,s.heap.get? b=some o→(pushCells (s.heap.push { cls:=.type "dict",data:=.dict #[] }) scope.names).get? b=some o:=fun b o e=>pushCells_keeps _ _ _ _ (Z0m _ e)
 have hL:cenv.locals=s.heap.objs.size:=by rw [←hcenv];rfl
 have hcl:cenv.cells=cellsFrom (s.heap.objs.size+1) scope.names (Z2l X.env.cells scope.names []):=by rw [←hcenv];rfl
 have hsc:cenv.scope=relS scope X.env.scope:=by rw [←hcenv];rfl
 rw [←Z0I s.heap { cls:=.type "dict",data:=.dict #[] }]at hcl
 have cm:∀ {y c},(y,c)∈Z2l X.env.cells scope.names []→X.env.cells.lookup y=some c∧c<s.heap.objs.size:=fun{y c} hm=>by
  rcases Z3x hm with hm |⟨h1,rfl⟩
  ·cases hm
  ·obtain⟨c,hc⟩:=hfree _ h1 rfl
   rw [hc]
   obtain⟨w,z⟩:=I.cell _ _ hc
   exact⟨rfl,z.lt⟩
 have mem:∀ {y c},cenv.cells.lookup y=some c→(X.env.cells.lookup y=some c∧c<s.heap.objs.size)∨(s.heap.objs.size+1≤c∧CellAt (pushCells (s.heap.push { cls:=.type "dict",data:=.dict #[] }) scope.names) c none):=fun{y c} e=>by
  rw [hcl]at e
  rcases Z4h (PySem.mem_of_lookup e)with hm |⟨_,h2,h3⟩
  ·exact .inl (cm hm)
  ·rw [Z0I]at h2;exact .inr ⟨h2,h3⟩
 have look:∀ {y},scope.names.lookup y=some .free→∃ c,cenv.cells.lookup y=some c∧X.env.cells.lookup y=some c:=fun{y} hl=>by
  have hy:(y,NameKind.free)∈scope.names:=PySem.mem_of_lookup hl
  obtain⟨c',e'⟩:=Z3K (Z4S (names:=scope.names) (n:=(s.heap.push { cls:=.type "dict",data:=.dict #[] }).objs.size) (Z3w (cells:=X.env.cells) (acc:=[]) hy))
  rw [←hcl]at e'
  refine⟨c',e',?_⟩
  rw [hcl]at e'
  rcases Z4h (PySem.mem_of_lookup e')with hm |⟨h1,_,_⟩
  ·exact(cm hm).1
  ·have:=ok.uniq _ h1
   rw [hl]at this;cases this
 have okB:(X.blk s H scope cenv fp).Ok:=by
  refine⟨I.ok.mod,by show cenv.scope.kind=_;rw [hsc];exact ok.kind,by show cenv.globals=_;rw [←hcenv];exact I.ok.glob,by show cenv.builtins=_;rw [←hcenv];exact I.ok.blt,by show s.heap.objs.size≤cenv.locals;rw [hL];exact Z0e _,
   fun y z c e1 e2=>?_,fun y hy=>?_,fun y c z e=>?_,I.ok.hd,I.ok.frames,.inl rfl,fun b hb=>⟨?_,fun y c e z=>?_⟩,I.bs,Z0x I.ok.bsz I.sz,fun b o e hb=>?_,fun b hb z=>?_,I.stack,I.stkFree⟩
  ·have e1:cenv.cells.lookup y=some c:=e1
   have e2:cenv.cells.lookup z=some c:=e2
   rw [hcl]at e1 e2
   refine Z5M (fun p hp=>?_) (fun y z c a b=>I.ok.inj y z c (cm a).1 (cm b).1) (PySem.mem_of_lookup e1) (PySem.mem_of_lookup e2)
   rw [Z0I]
   exact Z1p (cm (y:=p.1) (c:=p.2) hp).2
  ·show ∃ c,cenv.cells.lookup y=some c
   have key:∀ k,cenv.kindOf y=some k→(k=.cell∨k=.free)→∃ c,cenv.cells.lookup y=some c:=fun k hk hk'=>by
    unfold Env.kindOf at hk
    rw [hsc]at hk
    obtain⟨k',e,r⟩:=Z4Z hk
    have:k'=.cell∨k'=.free:=by
     rcases r with rfl |⟨rfl,_⟩
     ·exact hk'
     ·exact .inr rfl
    rcases this with rfl |rfl
    ·obtain⟨c,hm⟩:=Z5H (n:=(s.heap.push { cls:=.type "dict",data:=.dict #[] }).objs.size) (acc:=Z2l X.env.cells scope.names []) (PySem.mem_of_lookup e)
     obtain⟨c',e'⟩:=Z3K hm
     exact⟨c',by rw [hcl];exact e'⟩
    ·obtain⟨c,h1,_⟩:=look e
     exact⟨c,h1⟩
   rcases hy with hy |hy
   ·exact key _ hy (.inl rfl)
   ·exact key _ hy (.inr rfl)
  ·have z:(scope.names.lookup y==some NameKind.cell)=true:=z
   have z:scope.names.lookup y=some .cell:=by simpa using z
   have e:cenv.cells.lookup y=some c:=e
   rw [hcl]at e
   rcases Z4h (PySem.mem_of_lookup e)with hm |⟨_,h2,_⟩
   ·rcases Z3x hm with hm |⟨h1,_⟩
    ·cases hm
    ·have q:=ok.uniq _ h1
     rw [z]at q;cases q
   ·rw [Z0I]at h2
    exact Z1A h2
  ·show b≠cenv.locals
   rw [hL];exact Z0o (hfp b hb).2
  ·have e:cenv.cells.lookup y=some c:=e
   rcases mem e with⟨h1,_⟩ |⟨h1,_⟩
   ·exact(hfp b hb).1.2.2.2.2.1 y c h1 z
   ·have h2:s.heap.objs.size+1≤b:=by rw [←z];exact h1
    exact absurd (Z0v (hfp b hb).2 (Z1A h2)) (Z0u _)
  ·rcases(hfp b hb).1.2.2.2.1 with z |z
   ·exact I.ok.noex b o e z
   ·exact absurd (Z0v (Z0h e) (Z0x I.ok.bsz z)) (Z0u _)
  ·rcases Z0d.mp (I.stkSub b z)with z |z
   ·exact(hfp b hb).1.2.1 z
   ·exact(hfp b hb).1.2.2.1 z
 refine⟨okB,rfl,I.bare,Un.kept kp,⟨fun _=>none,?_,fun i y av e1 e2 e3=>?_⟩,fun y c e=>?_,?_,fun y c e=>?_,fun p hp=>?_,I.hok.kept kp,by rw [Z4e];exact I.len⟩
 ·show Heap.Ns _ cenv.locals _
  rw [hL]
  exact Heap.Ns.keeps (Heap.Ns.new ..) fun b o e=>pushCells_keeps _ _ _ _ e
 ·obtain⟨e2,hne⟩:=Z4T e2
  have hfr:scope.names.lookup y=some .free∧(cenv.kindOf y=some .cell∨cenv.kindOf y=some .free):=by
   have key:∀ k,cenv.scope.names.lookup y=some k→k=.local∨k=.cell∨k=.free→scope.names.lookup y=some .free∧(cenv.kindOf y=some .cell∨cenv.kindOf y=some .free):=fun k hk hk'=>by
    have hk0:=hk
    rw [hsc]at hk
    obtain⟨k',e,r⟩:=Z4Z hk
    have no:¬ (k'=.local∨k'=.cell):=fun hh=>by
     rcases ok.own _ (PySem.mem_of_lookup e) hh with e' |e'
     ·obtain⟨p,hp,hpy⟩:=Z0N.mp e'
      have e3:=ok.ix p hp
      have:p.1=y:=hpy
      rw [this]at e3
      exact hne (Z0N.mpr ⟨p,hp,Z6w hN e3 e1⟩)
     ·exact e' (Z0z e1)
    rcases r with rfl |⟨rfl,rfl⟩
    ·rcases hk' with rfl |rfl |rfl
     ·exact absurd (.inl rfl) no
     ·exact absurd (.inr rfl) no
     ·exact⟨e,.inr hk0⟩
    ·exact⟨e,.inl hk0⟩
   have e3:Vis cenv.scope y:=e3
   rcases e3 with e3 |e3 |e3
   ·exact key _ e3 (.inl rfl)
   ·exact key _ e3 (.inr (.inl rfl))
   ·exact key _ e3 (.inr (.inr rfl))
  obtain⟨m,hn,hl⟩:=I.loc
  have hvis:Vis X.env.scope y:=(ok.free _ (PySem.mem_of_lookup hfr.1) rfl).elim (fun k=>.inr (.inl k)) (fun k=>.inr (.inr k))
  obtain⟨w,r,q⟩:=hl i y av e1 e2 hvis
  refine⟨w,r,.inr ⟨hfr.2,?_⟩⟩
  obtain⟨c,h1,h2⟩:=look hfr.1
  rcases q with⟨k,_⟩ |⟨_,c',e',z⟩
  ·have k:X.env.scope.names.lookup y=some .local:=k
   rcases ok.free _ (PySem.mem_of_lookup hfr.1) rfl with k' |k'<;>rw [show X.env.scope.names.lookup y=_ from k']at k<;>cases k
  ·rw [h2]at e';cases e'
   exact⟨c,h1,z.keeps kp⟩
 ·have e:cenv.cells.lookup y=some c:=e
  rcases mem e with⟨h1,_⟩ |⟨_,z⟩
  ·obtain⟨w,z⟩:=I.cell y c h1
   exact⟨w,z.keeps kp⟩
  ·exact⟨_,z⟩
 ·show H cenv.locals=none
  rw [hL];exact I.hok.fresh (Z0e _)
 ·have e:cenv.cells.lookup y=some c:=e
  rcases mem e with⟨h1,_⟩ |⟨h1,_⟩
  ·exact I.freeC y c h1
  ·exact I.hok.fresh (Z1A h1)
 ·exact absurd (show p∈([]:List (Addr×Obj))++[]from hp) (by simp)
theorem app_ok{E:Value→Shared→Prop}{D:Addr}{xs:List V}{y:V}{v:Value}{Q:Value→Shared→Prop}(I:Inv X pins σ H s)(hD:H D=some (.lst xs))(hz:xs.length<sizeLine)(r:RelV y v)
  (h:∀ s',Inv X pins σ (upd H D (.lst (xs++[y]))) s'→Q .none s'):wpAny (model X.prog X.w) X.A (call (.builtin "list.append") [.ref D,v]) Q E s:=by
 obtain⟨hz',its,n,ri,e⟩:=I.hok D _ hD
 have hl:=ri.length
 refine append_at (hsz:=by rw [Z0r];omega) e fun h' sb ho'=>?_
 refine h { s with heap:=h' } (I.write (t':=s.toks) (by rw [hD];trivial) (.inl rfl) (fun b u hb q=>(sb.2 b hb).trans q) ⟨_,ho'⟩ ⟨by rw [Z0A];exact hz,its++[v],n+1,ri.append (.cons r .nil),?_⟩)
 rw [ho']
 simp
def PTs(X:Cx)(ifs:List Expr)(t:TT):Prop :=
 ∀ (pins:List (Addr×Obj))(s:Shared)(σ:St)(H:Hp)(Q:Bool→Hp→Prop),Inv X pins σ H s→t σ H Q →
  wpAny (model X.prog X.w) X.A (forIn ifs true fun c r=>if r=true then do let ok ←isTrue c X.env (eval c X.env);pure (ForInStep.yield ok)else pure (ForInStep.yield r)) (TP X pins σ Q) X.xe s
def tYes:TT:=fun _ H Q=>Q true H
theorem Z4x:PTs X [] tYes:=fun _ _ _ H _ I h=>wpAny_tests_nil ⟨H,I,h⟩
end
theorem thnF{α:Type}{t:Sem α}{Q Q':α→Shared→Prop}{M:Model}{A:Around}{E:Value→Shared→Prop}{s:Shared}(h:wpAny M A t Q (fun _ _=>False) s)(hQ:∀ a s,Q a s→Q' a s):wpAny M A t Q' E s:=wpAny_mono h hQ fun _ _ z=>False.elim z
theorem Z5K{prog:Program}{w:World}{A:Around}{R:Result→Shared→Prop}{s:Shared}{elt target iter:Expr}{ifs:List Expr}{scope:Scope}{pos:Pos}{it acc:Value}{env:Env}(I:Nat→Shared→Prop)
  (turn:∀ n s,I n s→wpAny (model prog w) A (pyNext it) (fun r s₁=>match r with
    |none=>R (.ok .next) s₁
    |some v=>wpAny (model prog w) A (letOwnedTupleGo target it v) (fun _ s₁'=>wpAny (model prog w) A (assign target env v) (fun _ s₂ =>
      wpAny (model prog w) A (forIn ifs true fun c r=>if r=true then do let ok ←isTrue c env (eval c env);pure (ForInStep.yield ok)else pure (ForInStep.yield r)) (fun ok s₃ =>
       if ok=true then wpAny (model prog w) A (eval elt env) (fun x s₄ =>
        wpAny (model prog w) A (call (.builtin "list.append") [acc,x]) (fun _ s₅=>∃ m,m<n∧I m s₅) (notedBy (model prog w) A env fun e s'=>R (.error e) s') s₄) (notedBy (model prog w) A env fun e s'=>R (.error e) s') s₃
       else ∃ m,m<n∧I m s₃) (notedBy (model prog w) A env fun e s'=>R (.error e) s') s₂) (notedBy (model prog w) A env fun e s'=>R (.error e) s') s₁') (notedBy (model prog w) A env fun e s'=>R (.error e) s') s₁) (notedBy (model prog w) A env fun e s'=>R (.error e) s') s)
  (n:Nat)(h:I n s) :
  codeAny (model prog w) A (.compLoop (.ListComp elt [⟨target,iter,ifs,0⟩] scope pos) 0 it acc env) R s:=by
 refine codeAny_loop rfl I (fun n s hI=>?_) n h
 show wpAny _ A ((compTurn (.ListComp elt [⟨target,iter,ifs,0⟩] scope pos) 0 it acc env).onRaise (fun x=>do noteFrame x env;theTreesLotGoes x)) _ _ s
 refine wpAny_noted ?_
 rw [compTurn_list]
 refine wpAny_bind (wpAny_standAt (wpAny_bind (wpAny_mono (turn n s hI) (fun r s₁ h₁=>?_) fun _ _ h'=>h')))
 cases r with
 |none=>exact wpAny_pure h₁
 |some v =>
  refine wpAny_bind (wpAny_mono h₁ (fun _ s₁' h₁'=>?_) fun _ _ h'=>h')
  refine wpAny_bind (wpAny_mono h₁' (fun _ s₂ h₂=>wpAny_bind (wpAny_mono h₂ (fun ok s₃ h₃=>?_) fun _ _ h'=>h')) fun _ _ h'=>h')
  cases ok with
  |false=>exact wpAny_pure ⟨rfl,h₃⟩
  |true =>
   exact wpAny_bind (wpAny_bind (wpAny_mono h₃ (fun x s₄ h₄=>wpAny_bind (wpAny_mono h₄ (fun _ s₅ h₅=>wpAny_pure (wpAny_pure ⟨rfl,h₅⟩)) fun _ _ h'=>h')) fun _ _ h'=>h'))
section
variable{X:Cx}
def tLc(wi:TI)(g:TG)(tt:TT)(te:TE)(vs:List Nat):TE:=fun σ H Q=>wi σ H fun J H1=>∀ D,H1 D=none→∃ W:Nat→Nat→Hp→Prop,(∃ m,W 0 m (upd H1 D (.lst [])))∧∀ i m H,W i m H →
 (J.stop i H∧Q (.ref D) H)∨(J.go i H∧∃ Nx:Hp→Prop,(∀ H',Nx H'→∃ m',m' < m∧W (i+1) m' H')∧∀ x H',J.yld i H x H'→g x (wipe σ vs) H' fun σ2 H2=>wipe σ2 vs=wipe σ vs∧tt σ2 H2 fun b H3 =>
   if b=true then te σ2 H3 fun y H4=>∃ acc,H4 D=some (.lst acc)∧acc.length<sizeLine∧Nx (upd H4 D (.lst (acc++[y])))else Nx H3)
theorem Z9s{pins:List (Addr×Obj)}{s:Shared}{σ:St}{H:Hp}{Q:VK}{elt tg iter:Expr}{ifs:List Expr}{scope:Scope}{own:List (Str×Nat)}{pos pos':Pos}{wi:TI}{g:TG}{tt:TT}{te:TE}{use:Option (Value→Sem Unit)}{Qf:Value→Shared→Prop}
  (hc:X.calm=true)(hN:X.N.Nodup)(I:Inv X pins σ H s)(hi:PI X tg iter wi)(ok:BlkOk X.N X.env.scope scope own)
  (hg:∀ (s:Shared)(H:Hp)(C:Addr)(cl:List (Str×Addr))(fp:List Addr),PG (X.blk s H scope (compEnvC scope cl C X.env) fp) tg g)(ht:∀ (s:Shared)(H:Hp)(C:Addr)(cl:List (Str×Addr))(fp:List Addr),PTs (X.blk s H scope (compEnvC scope cl C X.env) fp) ifs tt)
  (he:∀ (s:Shared)(H:Hp)(C:Addr)(cl:List (Str×Addr))(fp:List Addr),PE (X.blk s H scope (compEnvC scope cl C X.env) fp) elt te)(hs:∀ x,foldedSetIterable iter X.env x=pure x)
  (h:tLc wi g tt te (own.map (·.2)) σ H Q)
  (hRR:∀ D C s' m H',Inv X pins σ H' s'→Q (.ref D) H'→s'.heap.Ns C m→FpOk X pins H' C→compPost (model X.prog X.w) X.A X.xe use Qf (.ref D) C (.ok .next) s') :
  wpAny (model X.prog X.w) X.A (comprehension (.ListComp elt [⟨tg,iter,ifs,0⟩] scope pos) scope X.env pos' (newList []) false (eval iter X.env) use) Qf X.xe s:=by
 have hfree:∀ y∈scope.names,y.2=.free→∃ c,X.env.cells.lookup y.1=some c:=fun y hy e=>by
  rcases ok.free y hy e with k |k
  ·exact I.ok.has _ (.inl k)
  ·exact I.ok.has _ (.inr k)
 refine wpAny_comprehension_free (use:=use) rfl hs (Z5o hfree) ok.kind (fun y hy e=>by rw [ok.uniq y hy,e])
  (thn (hi pins s σ H _ I h) fun xv s1 hx=>thn hx fun itv s2 h2=>?_)
 obtain⟨it,fp,tn,J,H2,e,I2,T,st2,f2,q⟩:=h2
 subst e
 refine wpAny_newObj_type (Z6k ?_) (by show 0≤sizeLine;decide)
 generalize hD:s2.heap.objs.size=D
 have hDn:H2 D=none:=I2.hok.fresh (Z0U hD)
 obtain⟨W,⟨m0,w0⟩,turn⟩:=q D hDn
 generalize hs3:({ s2 with heap:=s2.heap.push { cls:=.type "list",data:=.seq ([]:List Value).toArray } }:Shared)=s3
 have I3:Inv X pins σ (upd H2 D (.lst [])) s3:=by
  rw [←hs3]
  refine I2.laid (t':=s2.toks) (fun b o e=>Z0m _ e) (Z0U hD) ⟨Z0q _,[],0,.nil,?_⟩
  rw [←hD]
  exact Z0C _ rfl
 have h3:s3.heap=s2.heap.push { cls:=.type "list",data:=.seq ([]:List Value).toArray }:=by rw [←hs3]
 have sz:∀ b∈fp,b<s2.heap.objs.size:=fun b hb=>by
  obtain⟨o,e,_⟩:=T.obj _ _ st2 b hb
  exact Z0h e
 have f3:∀ b∈fp,FpOk X pins (upd H2 D (.lst [])) b∧b<s3.heap.objs.size:=fun b hb=>by
  have hlt:=sz b hb
  refine⟨⟨?_,(f2 b hb).2⟩,by rw [h3,Z0I];exact Z1p hlt⟩
  rw [Z1W (by rw [←hD];exact Z0o hlt)]
  exact(f2 b hb).1
 have st3:tn 0 s3.heap:=T.keep _ _ _ st2 fun b _ o e=>by rw [h3];exact Z0m _ e
 have I4:=Z6i I3 ok hN f3
 have pg:=hg s3 (upd H2 D (.lst [])) s3.heap.objs.size (cellsFrom (s3.heap.objs.size+1) scope.names (Z2l X.env.cells scope.names [])) fp
 have pt:=ht s3 (upd H2 D (.lst [])) s3.heap.objs.size (cellsFrom (s3.heap.objs.size+1) scope.names (Z2l X.env.cells scope.names [])) fp
 have pe:=he s3 (upd H2 D (.lst [])) s3.heap.objs.size (cellsFrom (s3.heap.objs.size+1) scope.names (Z2l X.env.cells scope.names [])) fp
 show codeAny _ _ (.compStart (.ListComp elt [⟨tg,iter,ifs,0⟩] scope pos) 0 (.ref it) (.ref D) (compEnvC scope (cellsFrom (s3.heap.objs.size+1) scope.names (Z2l X.env.cells scope.names [])) s3.heap.objs.size X.env)) (compPost (model X.prog X.w) X.A X.xe use Qf (.ref D) s3.heap.objs.size) { s3 with heap:=pushCells (s3.heap.push { cls:=.type "dict",data:=.dict #[] }) scope.names }
 have nfp:∀ b∈fp,(upd H2 D (.lst [])) b=none:=fun b hb=>(f3 b hb).1.1
 generalize hce:compEnvC scope (cellsFrom (s3.heap.objs.size+1) scope.names (Z2l X.env.cells scope.names [])) s3.heap.objs.size X.env=ce at I4 pg pt pe ⊢
 have cL:ce.locals=s3.heap.objs.size:=by subst hce;rfl
 generalize hH3:upd H2 D (.lst [])=H3 at I3 I4 pg pt pe w0 nfp f3
 generalize hs4:({ s3 with heap:=pushCells (s3.heap.push { cls:=.type "dict",data:=.dict #[] }) scope.names }:Shared)=s4 at I4 ⊢
 have st4:tn 0 s4.heap:=T.keep _ _ _ st3 fun b _ o e=>by rw [←hs4];exact pushCells_keeps _ _ _ _ (Z0m _ e)
 have stat:∀ {σ':St}{H':Hp}{s':Shared},Inv (X.blk s3 H3 scope ce fp) [] σ' H' s'→(∀ b∈fp,H' b=none)→∀ b∈fp,FpOk (X.blk s3 H3 scope ce fp) [] H' b:=fun{σ' H' s'} I' hn b hb =>
  ⟨hn b hb,(I'.ok.exf b hb).1,I'.ok.exfs b hb,.inl hb,fun x c e=>(I'.ok.exf b hb).2 x c e,fun p hp=>absurd (show p∈([]:List (Addr×Obj))++[]from hp) (by simp)⟩
 have loop:codeAny (model X.prog X.w) X.A (.compLoop (.ListComp elt [⟨tg,iter,ifs,0⟩] scope pos) 0 (.ref it) (.ref D) ce) (compPost (model X.prog X.w) X.A X.xe use Qf (.ref D) s3.heap.objs.size) s4:=by
  refine Z5K (fun n s'=>∃ i H',Inv (X.blk s3 H3 scope ce fp) [] (wipe σ (own.map (·.2))) H' s'∧tn i s'.heap∧(∀ b∈fp,H' b=none)∧W i n H') ?_ m0 ⟨0,H3,I4,st4,nfp,w0⟩
  rintro n s5 ⟨i,H5,I5,st5,n5,w5⟩
  rcases turn i n H5 w5 with⟨stop,qq⟩ |⟨go,Nx,hNx,step⟩
  ·have td:=T.done (X.blk s3 H3 scope ce fp) rfl rfl rfl hc i [] s5 _ H5 (fun _ _=>False) I5 (stat I5 n5) st5 stop
   refine thnF td fun r s6 ⟨hr,I6⟩=>?_
   subst hr
   have I7:Inv X pins σ H5 s6:=I3.call' (ch:=fp) I6.os I6.base I6.hok I6.bare fun b hb=>⟨(f3 b hb).1.2.2.2.1,(f3 b hb).1.2.1,(f3 b hb).1.2.2.2.2.1,(f3 b hb).1.2.2.2.2.2⟩
   have nC:H5 s3.heap.objs.size=none:=by
    have z:H5 ce.locals=none:=I6.free
    rw [cL]at z
    exact z
   obtain⟨m,hn,_⟩:=I6.loc
   have hn:s6.heap.Ns ce.locals m:=hn
   rw [cL]at hn
   exact hRR D s3.heap.objs.size s6 m H5 I7 qq hn (I3.fpOk (Z0e _) nC)
  ·have ti:=T.item (X.blk s3 H3 scope ce fp) rfl rfl rfl hc i [] s5 _ H5 (fun _ _=>False) I5 (stat I5 n5) st5 go
   refine thnF ti fun r s6 ⟨u,hr,h6⟩=>?_
   subst hr
   refine thnF h6 fun _ s7 ⟨x,H7,I7,r7,y7,st7,n7⟩=>?_
   have I7':=I7.pinned (stat I7 n7) (T.obj _ _ st7)
   refine thnF (pg _ s7 _ H7 x u _ I7' r7 (step x H7 y7)) fun _ s8 ⟨σ8,H8,I8,hw8,q8⟩=>?_
   refine thnF (pt _ s8 σ8 H8 _ I8 q8) fun b s9 ⟨H9,I9,q9⟩=>?_
   have fin:∀ {s':Shared}{H':Hp},Inv (X.blk s3 H3 scope ce fp) ([]++Z5f fp s7.heap) σ8 H' s'→Nx H'→∃ m,m<n∧∃ i H',Inv (X.blk s3 H3 scope ce fp) [] (wipe σ (own.map (·.2))) H' s'∧tn i s'.heap∧(∀ b∈fp,H' b=none)∧W i m H':=fun{s' H'} I' nx=>by
    obtain⟨m',hm,w'⟩:=hNx H' nx
    have pin':∀ b∈fp,∀ o,s7.heap.get? b=some o→s'.heap.get? b=some o∧H' b=none:=fun b hb o e =>
     let z:=I'.pin (b,o) (Z0J _ (Z0J _ (Z4q hb e)))
     ⟨z.1,z.2.1⟩
    have hl:(wipe σ (own.map (·.2))).length=σ8.length:=by rw [←hw8,Z4e]
    refine⟨m',hm,i+1,H',(I'.unpinned (pins:=[])).weak hl (fun j v e=>?_),T.keep _ _ _ st7 fun b hb o e=>(pin' b hb o e).1,fun b hb=>?_,w'⟩
    ·rw [←hw8]at e
     exact(Z4T e).1
    ·obtain⟨o,e,_⟩:=T.obj _ _ st7 b hb
     exact(pin' b hb o e).2
   cases b with
   |false =>
    simp only [Bool.false_eq_true,if_false]at q9 ⊢
    exact fin I9 q9
   |true =>
    simp only [if_true]at q9 ⊢
    refine thnF (pe _ s9 σ8 H9 _ I9 q9) fun z s10 ⟨yv,H10,I10,r10,acc,hD10,hz10,nx⟩=>?_
    exact app_ok (X:=X.blk s3 H3 scope ce fp) I10 hD10 hz10 r10 fun s11 I11=>fin I11 nx
 exact codeAny_compStart_list loop (T.self X.A 0 _ _ _ st4 loop)
theorem pe_lc{elt tg iter:Expr}{ifs:List Expr}{scope:Scope}{own:List (Str×Nat)}{pos:Pos}{wi:TI}{g:TG}{tt:TT}{te:TE}(hc:X.calm=true)(hN:X.N.Nodup)(hi:PI X tg iter wi)(ok:BlkOk X.N X.env.scope scope own)
  (hg:∀ (s:Shared)(H:Hp)(C:Addr)(cl:List (Str×Addr))(fp:List Addr),PG (X.blk s H scope (compEnvC scope cl C X.env) fp) tg g)(ht:∀ (s:Shared)(H:Hp)(C:Addr)(cl:List (Str×Addr))(fp:List Addr),PTs (X.blk s H scope (compEnvC scope cl C X.env) fp) ifs tt)
  (he:∀ (s:Shared)(H:Hp)(C:Addr)(cl:List (Str×Addr))(fp:List Addr),PE (X.blk s H scope (compEnvC scope cl C X.env) fp) elt te)(hs:∀ x,foldedSetIterable iter X.env x=pure x:=by intro _;rfl) :
  PE X (.ListComp elt [⟨tg,iter,ifs,0⟩] scope pos) (tLc wi g tt te (own.map (·.2))):=by
 intro pins s σ H Q I h
 rw [eval_ListComp]
 refine Z9s hc hN I hi ok hg ht he hs h fun D C s' m H' I' q hn f=>⟨m,hn,fun h'' sb=>?_⟩
 obtain⟨f0,f1,f2,f3,f4,f5⟩:=f
 exact⟨.ref D,H',I'.turned (t':=s'.toks) (fun b o hb e=>(sb.2 b hb).trans e) f0 f1 f3 f4 f5,rfl,q⟩
theorem Z8G{i:Nat}{y:Str}{py:Pos}{elt tg iter:Expr}{ifs:List Expr}{scope:Scope}{own:List (Str×Nat)}{pos spos:Pos}{wi:TI}{g:TG}{tt:TT}{te:TE}(hc:X.calm=true)(hN:X.N.Nodup)(hy:X.N[i]?=some y)(hyl:X.env.scope.names.lookup y=some .local)
  (hsw:swapsWith (.ListComp elt [⟨tg,iter,ifs,0⟩] scope pos) (some (.Name y py)) spos.line X.env=pure true)(hi:PI X tg iter wi)(ok:BlkOk X.N X.env.scope scope own)
  (hg:∀ (s:Shared)(H:Hp)(C:Addr)(cl:List (Str×Addr))(fp:List Addr),PG (X.blk s H scope (compEnvC scope cl C X.env) fp) tg g)(ht:∀ (s:Shared)(H:Hp)(C:Addr)(cl:List (Str×Addr))(fp:List Addr),PTs (X.blk s H scope (compEnvC scope cl C X.env) fp) ifs tt)
  (he:∀ (s:Shared)(H:Hp)(C:Addr)(cl:List (Str×Addr))(fp:List Addr),PE (X.blk s H scope (compEnvC scope cl C X.env) fp) elt te)(hs:∀ x,foldedSetIterable iter X.env x=pure x:=by intro _;rfl) :
  PS X (.Assign [.Name y py] (.ListComp elt [⟨tg,iter,ifs,0⟩] scope pos) spos) (tAsg (tLc wi g tt te (own.map (·.2))) (gName i)):=by
 intro pins s σ H D I h
 rw [exec_Assign_Name_used _ _ _ _ hsw]
 refine wpAny_bind (wpAny_standAt (wpAny_bind ?_))
 show wpAny _ X.A (do let _ ←comprehension (.ListComp elt [⟨tg,iter,ifs,0⟩] scope pos) scope X.env (firstIterPos [⟨tg,iter,ifs,0⟩] pos) (newList []) false (eval iter X.env) (some (assign (.Name y py) X.env))) _ _ s
 have h:tLc wi g tt te (own.map (·.2)) σ H (fun x H1=>gName i x σ H1 D.nx):=h
 refine wpAny_bind (thn (Z9s (Qf:=fun _ s'=>SP X pins D .next s') hc hN I hi ok hg ht he hs h fun L C s' m H' I' q hn f=>?_) fun _ s' hq=>wpAny_pure (wpAny_pure hq))
 show wpAny _ _ (assign (.Name y py) X.env (.ref L)) _ _ _
 refine wpAny_assign_Name (Z5R (v:=V.ref L) I' hN hy (.inl hyl) rfl (fun s2 I2 ⟨a,sb,ha⟩=>?_) (.inr hyl))
 obtain⟨f0,f1,f2,f3,f4,f5⟩:=f
 have haC:C≠a:=by
  rcases ha with z |z
  ·rw [z];exact f1
  ·exact fun e=>f4 y a z e.symm
 refine⟨m,hn.sameBut sb haC,fun h3 sb3=>?_⟩
 exact⟨_,H',I2.turned (t':=s2.toks) (fun b o hb e=>(sb3.2 b hb).trans e) f0 f1 f3 f4 f5,q⟩
theorem Z5d{elt:Expr}{gs:List Comprehension}{scope:Scope}{pos py:Pos}{y:Str}{l:Nat}{env:Env}(hk:env.scope.kind=.function)(hy:env.scope.names.lookup y=some .local)(hl:(py.line==pos.line)=true)
  (ha:(scope.names.any fun(n,k)=>n==y&&(k==.local ||k==.cell))=false):swapsWith (.ListComp elt gs scope pos) (some (.Name y py)) l env=pure true:=by
 have ky:env.kindOf y=some .local:=hy
 have hb:env.blockKind=.function:=by unfold Env.blockKind;rw [hk];rfl
 unfold swapsWith
 simp only [hb,ky,ha,Expr.pos,hl]
 rfl
end
theorem Z5t{lo:Int}{n:Nat}{g:TG}{tt:TT}{te:TE}{vs:List Nat}{σ:St}{H1:Hp}{D:Addr}{Qd:Hp→Prop}(Pv:Nat→Hp→Prop)(h0:Pv 0 (upd H1 D (.lst [])))
  (hs:∀ i H,i<n→Pv i H→g (.int (lo+i)) (wipe σ vs) H fun σ2 H2=>wipe σ2 vs=wipe σ vs∧tt σ2 H2 fun b H3 =>
    if b=true then te σ2 H3 fun y H4=>∃ acc,H4 D=some (.lst acc)∧acc.length<sizeLine∧Pv (i+1) (upd H4 D (.lst (acc++[y])))else Pv (i+1) H3)(hd:∀ H,Pv n H→Qd H) :
  ∃ W:Nat→Nat→Hp→Prop,(∃ m,W 0 m (upd H1 D (.lst [])))∧∀ i m H,W i m H →
   ((Itr lo n).stop i H∧Qd H)∨((Itr lo n).go i H∧∃ Nx:Hp→Prop,(∀ H',Nx H'→∃ m',m' < m∧W (i+1) m' H')∧∀ x H',(Itr lo n).yld i H x H'→g x (wipe σ vs) H' fun σ2 H2=>wipe σ2 vs=wipe σ vs∧tt σ2 H2 fun b H3 =>
     if b=true then te σ2 H3 fun y H4=>∃ acc,H4 D=some (.lst acc)∧acc.length<sizeLine∧Nx (upd H4 D (.lst (acc++[y])))else Nx H3):=by
 refine⟨fun i m H=>m=n-i∧i≤n∧Pv i H,⟨n,by simp,Z0q _,h0⟩,?_⟩
 rintro i m H ⟨rfl,hi,p⟩
 by_cases hlt:i<n
 ·refine .inr ⟨hlt,Pv (i+1),fun H' p'=>⟨n-(i+1),by omega,rfl,hlt,p'⟩,fun x H' y=>?_⟩
  obtain⟨e,y⟩:=y
  subst e y
  exact hs i _ hlt p
 ·have e:i=n:=by omega
  subst e
  exact .inl ⟨Z0e _,hd H p⟩
theorem Z9q{K:Z0a}{a:Addr}{xs:List V}{g:TG}{tt:TT}{te:TE}{vs:List Nat}{σ:St}{H1:Hp}{D:Addr}{Qd:Hp→Prop}(Pv:Nat→Hp→Prop)(h0:Pv 0 (upd H1 D (.lst [])))(hl:∀ i H,i≤xs.length→Pv i H→SqL K H a xs)
  (hs:∀ i x H,xs[i]?=some x→Pv i H→g x (wipe σ vs) H fun σ2 H2=>wipe σ2 vs=wipe σ vs∧tt σ2 H2 fun b H3 =>
    if b=true then te σ2 H3 fun y H4=>∃ acc,H4 D=some (.lst acc)∧acc.length<sizeLine∧Pv (i+1) (upd H4 D (.lst (acc++[y])))else Pv (i+1) H3)(hd:∀ H,Pv xs.length H→Qd H) :
  ∃ W:Nat→Nat→Hp→Prop,(∃ m,W 0 m (upd H1 D (.lst [])))∧∀ i m H,W i m H →
   ((Itl K a).stop i H∧Qd H)∨((Itl K a).go i H∧∃ Nx:Hp→Prop,(∀ H',Nx H'→∃ m',m' < m∧W (i+1) m' H')∧∀ x H',(Itl K a).yld i H x H'→g x (wipe σ vs) H' fun σ2 H2=>wipe σ2 vs=wipe σ vs∧tt σ2 H2 fun b H3 =>
     if b=true then te σ2 H3 fun y H4=>∃ acc,H4 D=some (.lst acc)∧acc.length<sizeLine∧Nx (upd H4 D (.lst (acc++[y])))else Nx H3):=by
 refine⟨fun i m H=>m=xs.length-i∧i≤xs.length∧Pv i H,⟨xs.length,by simp,Z0q _,h0⟩,?_⟩
 rintro i m H ⟨rfl,hi,p⟩
 have q:=hl i H hi p
 by_cases hlt:i<xs.length
 ·refine .inr ⟨⟨xs,xs[i],q,by simp [hlt]⟩,Pv (i+1),fun H' p'=>⟨xs.length-(i+1),by omega,rfl,hlt,p'⟩,fun x H' y=>?_⟩
  obtain⟨e,y⟩:=y
  subst e
  exact hs i x _ (y xs q) p
 ·have e:i=xs.length:=by omega
  subst e
  exact .inl ⟨⟨xs,q,Z0e _⟩,hd H p⟩
end L2
namespace L2
open PySem PySem.Spec PyProof.Rows
section
variable{prog:Program}{w:World}{A:Around}{R:Result→Shared→Prop}{s:Shared}{elt t0 i0 t1 i1:Expr}{ifs0 ifs1:List Expr}{scope:Scope}{pos:Pos}{it acc:Value}{env:Env}
end
section
variable{X:Cx}
end
end L2
namespace L2
open PySem PySem.Spec PyProof.Rows
section
variable{κ:Type}[DecidableEq κ]
def valV(kvs:List (κ×V))(k:κ):Option V:=(kvs.find? fun kv=>decide (kv.1=k)).map (·.2)
def putK(kvs:List (κ×V))(k:κ)(v:V):List (κ×V) :=
 if (kvs.any fun kv=>decide (kv.1=k))=true then kvs.map (fun kv=>if kv.1=k then(kv.1,v)else kv)else kvs++[(k,v)]
theorem valV_nil{k:κ}:valV ([]:List (κ×V)) k=none:=rfl
theorem Z2R{p:κ×V}{r:List (κ×V)}{k:κ}(e:p.1=k):valV (p::r) k=some p.2:=by simp [valV,Z0X,e]
theorem Z2S{p:κ×V}{r:List (κ×V)}{k:κ}(e:¬ p.1=k):valV (p::r) k=valV r k:=by simp [valV,Z0X,e]
theorem Z4A(k:κ):∀ kvs:List (κ×V),(kvs.any fun kv=>decide (kv.1=k))=(valV kvs k).isSome
 |[]=>rfl
 |p::r=>by
  rw [Z1d]
  by_cases e:p.1=k
  ·simp only [Z2R e,decide_eq_true e,Bool.true_or,Option.isSome_some]
  ·rw [Z2S e,decide_eq_false e,Bool.false_or];exact Z4A k r
theorem Z8n(k j:κ)(y:V):∀ kvs:List (κ×V),valV (kvs.map fun kv=>if kv.1=k then(kv.1,y)else kv) j=(valV kvs j).map fun x=>if j=k then y else x
 |[]=>rfl
 |p::r=>by
  have ih:=Z8n k j y r
  rw [Z0B]
  by_cases h:p.1=k
  ·rw [if_pos h]
   by_cases e:p.1=j
   ·rw [Z2R (p:=(p.1,y)) e,Z2R e,Z1e,if_pos (e.symm.trans h)]
   ·rw [Z2S (p:=(p.1,y)) e,Z2S e,ih]
  ·rw [if_neg h]
   by_cases e:p.1=j
   ·rw [Z2R (p:=p) e,Z2R e,Z1e,if_neg (fun z=>h (e.trans z))]
   ·rw [Z2S (p:=p) e,Z2S e,ih]
theorem Z7G(k j:κ)(y:V):∀ kvs:List (κ×V),valV kvs k=none→valV (kvs++[(k,y)]) j=if j=k then some y else valV kvs j
 |[],_=>by
  by_cases e:k=j
  ·rw [if_pos e.symm];exact Z2R (p:=(k,y)) e
  ·rw [if_neg (fun z=>e z.symm)];exact Z2S (p:=(k,y)) e
 |p::r,hn=>by
  rw [List.cons_append]
  have hk:¬ p.1=k:=fun z=>by rw [Z2R z]at hn;cases hn
  rw [Z2S hk]at hn
  have ih:=Z7G k j y r hn
  by_cases e:p.1=j
  ·rw [Z2R e,Z2R e,if_neg (fun z=>hk (e.trans z))]
  ·rw [Z2S e,Z2S e,ih]
theorem Z2s(kvs:List (κ×V))(k j:κ)(y:V):valV (putK kvs k y) j=if j=k then some y else valV kvs j:=by
 unfold putK
 by_cases a:(kvs.any fun kv=>decide (kv.1=k))=true
 ·rw [if_pos a,Z8n]
  rw [Z4A]at a
  by_cases e:j=k
  ·obtain⟨x,hx⟩:=Option.isSome_iff_exists.mp a
   rw [if_pos e,e,hx,Z1e,if_pos rfl]
  ·rw [if_neg e]
   cases valV kvs j with
   |none=>rfl
   |some x=>rw [Z1e,if_neg e]
 ·rw [if_neg a]
  refine Z7G k j y kvs ?_
  rw [Z4A]at a
  cases q:valV kvs k with
  |none=>rfl
  |some x=>rw [q]at a;exact(a rfl).elim
theorem Z2z(kvs:List (κ×V))(k:κ)(v:V):(putK kvs k v).length≤kvs.length+1:=by
 unfold putK
 split
 ·rw [Z0c];omega
 ·rw [Z0A,Z0s,Z0Q];omega
theorem RelO.isSome_eq{o:Option V}{u:Option Value}(r:RelO o u):o.isSome=u.isSome:=by
 cases o with
 |none=>cases u with
  |none=>rfl
  |some _=>exact(show False from r).elim
 |some _=>cases u with
  |none=>exact(show False from r).elim
  |some _=>rfl
theorem KV.val{kvs:List (κ×V)}{vs:List (κ×Value)}(r:KV kvs vs)(k:κ):RelO (valV kvs k) (valueAt vs k):=by
 unfold KV at r
 induction r with
 |nil=>exact True.intro
 | @cons p q ps qs h t ih =>
  obtain⟨h1,h2⟩:=h
  by_cases e:p.1=k
  ·have e':q.1=k:=h1.symm.trans e
   have b:valueAt (q::qs) k=some q.2:=by simp [valueAt,Z0X,e']
   rw [Z2R e,b];exact h2
  ·have e':¬ q.1=k:=fun z=>e (h1.trans z)
   have b:valueAt (q::qs) k=valueAt qs k:=by simp [valueAt,Z0X,e']
   rw [Z2S e,b];exact ih
theorem KV.any{kvs:List (κ×V)}{vs:List (κ×Value)}(r:KV kvs vs)(k:κ):(kvs.any fun kv=>decide (kv.1=k))=vs.any fun kv=>decide (kv.1=k):=by
 unfold KV at r
 induction r with
 |nil=>rfl
 |cons h t ih=>rw [Z1d,Z1d,ih,h.1]
theorem KV.repl{kvs:List (κ×V)}{vs:List (κ×Value)}(r:KV kvs vs)(k:κ){y:V}{u:Value}(ry:RelV y u) :
  KV (kvs.map fun kv=>if kv.1=k then(kv.1,y)else kv) (vs.map fun kv=>if kv.1=k then(kv.1,u)else kv):=by
 unfold KV at r ⊢
 induction r with
 |nil=>exact .nil
 | @cons p q ps qs h t ih =>
  rw [Z0B,Z0B]
  refine .cons ?_ ih
  obtain⟨h1,h2⟩:=h
  by_cases e:p.1=k
  ·rw [if_pos e,if_pos (h1.symm.trans e)];exact⟨h1,ry⟩
  ·rw [if_neg e,if_neg (fun z=>e (h1.trans z))];exact⟨h1,h2⟩
theorem KV.put{kvs:List (κ×V)}{vs:List (κ×Value)}(r:KV kvs vs)(k:κ){y:V}{u:Value}(ry:RelV y u):KV (putK kvs k y) (stored vs k u):=by
 unfold putK stored
 rw [r.any k]
 by_cases e:(vs.any fun kv=>decide (kv.1=k))=true
 ·rw [if_pos e,if_pos e];exact r.repl k ry
 ·rw [if_neg e,if_neg e];exact Paired.snoc r ⟨rfl,ry⟩
theorem KV.length{kvs:List (κ×V)}{vs:List (κ×Value)}(r:KV kvs vs):kvs.length=vs.length:=Paired.length r
end
theorem kV_is{P:Program}{w:World}{k:Key}{u:Value}(r:RelV (kV k) u):(Z2C P w).is k u=true:=by
 cases k with
 |inl i=>obtain⟨t,e⟩:=(show ∃ t,u=Value.int i t from r);subst e;exact Z9d P w i t
 |inr x=>obtain⟨t,e⟩:=(show ∃ t,u=Value.str x t from r);subst e;exact Z9a P w x t
theorem Z7v{P:Program}{w:World}:∀ {ks:List Key}{us:List Value},Vals (ks.map kV) us→ItemsAre (Z2C P w) ks us
 |[],_,r=>by rw [List.map_nil]at r;cases r;exact .nil
 |k::ks,_,r=>by
  rw [Z0B]at r
  cases r with
  |cons h t=>exact .cons (kV_is h) (Z7v t)
abbrev KT(H:Hp):List (List Key×V)→List (List Key×Addr×Value)→Prop:=Paired fun p q=>p.1=q.1∧H q.2.1=some (.tup (p.1.map kV))∧RelV p.2 q.2.2
theorem KT.val{H:Hp}{kvs:List (List Key×V)}{xs:List (List Key×Addr×Value)}(r:KT H kvs xs)(k:List Key):RelO (valV kvs k) ((atKey xs k).map (·.2)):=by
 induction r with
 |nil=>exact True.intro
 | @cons p q ps qs h t ih =>
  obtain⟨h1,_,h2⟩:=h
  by_cases e:p.1=k
  ·have e':q.1=k:=h1.symm.trans e
   have b:atKey (q::qs) k=some q.2:=by simp [atKey,Z0X,e']
   rw [Z2R e,b];exact h2
  ·have e':¬ q.1=k:=fun z=>e (h1.trans z)
   have b:atKey (q::qs) k=atKey qs k:=by simp [atKey,Z0X,e']
   rw [Z2S e,b];exact ih
theorem KT.repl{H:Hp}{kvs:List (List Key×V)}{xs:List (List Key×Addr×Value)}(r:KT H kvs xs)(k:List Key){y:V}{u:Value}(ry:RelV y u) :
  KT H (kvs.map fun kv=>if kv.1=k then(kv.1,y)else kv) (xs.map (putAt k u)):=by
 induction r with
 |nil=>exact .nil
 | @cons p q ps qs h t ih =>
  rw [Z0B,Z0B]
  refine .cons ?_ ih
  obtain⟨h1,h2,h3⟩:=h
  unfold putAt
  by_cases e:p.1=k
  ·rw [if_pos e,if_pos (h1.symm.trans e)];exact⟨h1,h2,ry⟩
  ·rw [if_neg e,if_neg (fun z=>e (h1.trans z))];exact⟨h1,h2,h3⟩
theorem KT.put{H:Hp}{kvs:List (List Key×V)}{xs:List (List Key×Addr×Value)}(r:KT H kvs xs)(k:List Key){b:Addr}{y:V}{u:Value}(hb:H b=some (.tup (k.map kV)))(ry:RelV y u) :
  KT H (putK kvs k y) (storedH xs k b u):=by
 have e:(kvs.any fun kv=>decide (kv.1=k))=(atKey xs k).isSome:=by
  rw [Z4A,(r.val k).isSome_eq,Option.isSome_map]
 unfold putK storedH
 rw [e]
 by_cases q:(atKey xs k).isSome=true
 ·rw [if_pos q,if_pos q];exact r.repl k ry
 ·rw [if_neg q,if_neg q];exact Paired.snoc r ⟨rfl,hb,ry⟩
theorem KT.keeps{H H':Hp}{kvs:List (List Key×V)}{xs:List (List Key×Addr×Value)}(r:KT H kvs xs)(ht:∀ b ys,H b=some (.tup ys)→H' b=some (.tup ys)):KT H' kvs xs :=
 Paired.mapP r fun _ _ z=>⟨z.1,ht _ _ z.2.1,z.2.2⟩
section
variable{P:Program}{w:World}{H:Hp}{h:Heap}{a:Addr}
theorem rd_of{u:HO}(ok:HOk P w H h)(e:Rd H a u):ObjOk P w H h a u:=e.ok ok
theorem dk_rd{kvs:List (Key×V)}(ok:HOk P w H h)(e:Rd H a (.dK kvs)):kvs.length≤sizeLine∧(a==sysModules)=false∧∃ vs,KV kvs vs∧h.DictOf (Z2C P w) a vs :=
 show ObjOk P w H h a (.dK kvs)from rd_of ok e
theorem dk_of{kvs:List (Key×V)}(ok:HOk P w H h)(e:H a=some (.dK kvs)):kvs.length≤sizeLine∧(a==sysModules)=false∧∃ vs,KV kvs vs∧h.DictOf (Z2C P w) a vs:=dk_rd ok (.inl e)
theorem Z5U{ks:List Key}(ok:HOk P w H h)(e:H a=some (.tup (ks.map kV))):(tupleKind (Z2C P w)).is h ks a:=by
 obtain⟨_,its,r,o,h1,h2,n,h3⟩:=(show ObjOk P w H h a (.tup (ks.map kV))from ok a _ e)
 exact⟨o,its.toArray,n,h1,h2,h3,by simpa using Z7v r⟩
theorem dt_rd{kvs:List (List Key×V)}(ok:HOk P w H h)(e:Rd H a (.dT kvs)):kvs.length≤sizeLine∧(a==sysModules)=false ∧
  ∃ xs,KT H kvs xs∧h.DictOfH (tupleKind (Z2C P w)) a xs:=by
 obtain⟨z,y,xs,r,o,es,ep,h1,h2,h3,h4,h5⟩:=(show ObjOk P w H h a (.dT kvs)from rd_of ok e)
 refine⟨z,y,xs,r,o,es,ep,h1,h2,h3,h4,fun x hx=>?_,h5⟩
 have all:∀ {l:List (List Key×V)}{m:List (List Key×Addr×Value)},KT H l m→∀ x∈m,(tupleKind (Z2C P w)).is h x.1 x.2.1:=by
  intro l m q
  induction q with
  |nil=>intro x hx;exact nomatch hx
  | @cons p q ps qs hq t ih =>
   intro x hx
   rcases Z0d.mp hx with e |hx
   ·subst e
    exact Z5U ok (by rw [←hq.1];exact hq.2.1)
   ·exact ih x hx
 exact all r x hx
theorem dt_of{kvs:List (List Key×V)}(ok:HOk P w H h)(e:H a=some (.dT kvs)):kvs.length≤sizeLine∧(a==sysModules)=false ∧
  ∃ xs,KT H kvs xs∧h.DictOfH (tupleKind (Z2C P w)) a xs:=dt_rd ok (.inl e)
end
def DGet(H:Hp)(a:Addr)(y:V)(r:Option V):Prop :=
 (∃ kvs k,Rd H a (.dK kvs)∧y=kV k∧r=valV kvs k)∨∃ kvs k b,Rd H a (.dT kvs)∧y=.ref b∧H b=some (.tup (k.map kV))∧r=valV kvs k
def DPut(H:Hp)(a:Addr)(y v:V)(H':Hp):Prop :=
 (∃ kvs k,H a=some (.dK kvs)∧y=kV k∧kvs.length<sizeLine∧H'=upd H a (.dK (putK kvs k v))) ∨
 ∃ kvs k b,H a=some (.dT kvs)∧y=.ref b∧H b=some (.tup (k.map kV))∧kvs.length<sizeLine∧H'=upd H a (.dT (putK kvs k v))
theorem DGet.k{H:Hp}{a:Addr}{kvs:List (Key×V)}{k:Key}(e:H a=some (.dK kvs)):DGet H a (kV k) (valV kvs k):=.inl ⟨kvs,k,.inl e,rfl,rfl⟩
theorem DGet.t{H:Hp}{a b:Addr}{kvs:List (List Key×V)}{k:List Key}(e:H a=some (.dT kvs))(eb:H b=some (.tup (k.map kV))):DGet H a (.ref b) (valV kvs k):=.inr ⟨kvs,k,b,.inl e,rfl,eb,rfl⟩
theorem DPut.k{H:Hp}{a:Addr}{kvs:List (Key×V)}{k:Key}{v:V}(e:H a=some (.dK kvs))(hl:kvs.length<sizeLine):DPut H a (kV k) v (upd H a (.dK (putK kvs k v))):=.inl ⟨kvs,k,e,rfl,hl,rfl⟩
theorem DPut.t{H:Hp}{a b:Addr}{kvs:List (List Key×V)}{k:List Key}{v:V}(e:H a=some (.dT kvs))(eb:H b=some (.tup (k.map kV)))(hl:kvs.length<sizeLine) :
  DPut H a (.ref b) v (upd H a (.dT (putK kvs k v))):=.inr ⟨kvs,k,b,e,rfl,eb,hl,rfl⟩
section
variable{X:Cx}{pins:List (Addr×Obj)}{σ:St}{H:Hp}{s:Shared}{a:Addr}{y v:V}{u r:Value}{o:Option V}{A:Around}{E:Value→Shared→Prop}
theorem Inv.big(I:Inv X pins σ H s):sysModules<s.heap.objs.size:=by
 have h:mainGlobals<s.heap.objs.size:=(I.mod.glob.keeps I.bk).lt
 exact Z0O (by decide) h
theorem Zak{Q:Value→Shared→Prop}(hu:A.units+1<cLine)(I:Inv X pins σ H s)(g:DGet H a y (some v))(ry:RelV y u)(h:∀ w' s',Inv X pins σ H s'→RelV v w'→Q w' s') :
  wpAny (model X.prog X.w) A (getItem (.ref a) u) Q E s:=by
 rcases g with⟨kvs,k,e,ey,l⟩ |⟨kvs,k,b,e,ey,eb,l⟩
 ·subst ey
  obtain⟨z,hd,vs,rel,dd⟩:=dk_rd I.hok e
  obtain⟨w',hw,rw'⟩:=RelO.some_of (v:=v) (o:=valueAt vs k) (by rw [l];exact rel.val k)
  exact wpAny_getItem_of (kV_is ry) dd.mapOf hw (h w' _ (I.tok _) rw')
 ·subst ey
  cases (show u=Value.ref b from ry)
  obtain⟨z,hd,xs,rel,dd⟩:=dt_rd I.hok e
  obtain⟨w',hw,rw'⟩:=RelO.some_of (v:=v) (o:=(atKey xs k).map (·.2)) (by rw [l];exact rel.val k)
  obtain⟨p,hp,hp2⟩:=Z1K.mp hw
  refine wpAny_getItem_heap (tupleKind_room_in1 hu) (Z5U I.hok eb) dd hp ?_
  rw [hp2]
  exact h w' _ (I.tok _) rw'
theorem d_in{Q:Value→Shared→Prop}(hu:A.units+1<cLine)(I:Inv X pins σ H s)(g:DGet H a y o)(ry:RelV y u)(h:∀ s',Inv X pins σ H s'→Q (.bool o.isSome) s') :
  wpAny (model X.prog X.w) A (compareOp .In u (.ref a)) Q E s:=by
 rcases g with⟨kvs,k,e,ey,l⟩ |⟨kvs,k,b,e,ey,eb,l⟩
 ·subst ey
  obtain⟨z,hd,vs,rel,dd⟩:=dk_rd I.hok e
  refine wpAny_in_of (kV_is ry) hd dd.mapOf ?_
  rw [←(rel.val k).isSome_eq,←l]
  exact h _ (I.tok _)
 ·subst ey
  cases (show u=Value.ref b from ry)
  obtain⟨z,hd,xs,rel,dd⟩:=dt_rd I.hok e
  refine wpAny_in_heap (tupleKind_room_in1 hu) (Z5U I.hok eb) hd dd ?_
  have q:=(rel.val k).isSome_eq
  rw [Option.isSome_map]at q
  rw [←q,←l]
  exact h _ (I.tok _)
theorem d_notIn{Q:Value→Shared→Prop}(hu:A.units+1<cLine)(I:Inv X pins σ H s)(g:DGet H a y o)(ry:RelV y u)(h:∀ s',Inv X pins σ H s'→Q (.bool (!o.isSome)) s') :
  wpAny (model X.prog X.w) A (compareOp .NotIn u (.ref a)) Q E s:=by
 rcases g with⟨kvs,k,e,ey,l⟩ |⟨kvs,k,b,e,ey,eb,l⟩
 ·subst ey
  obtain⟨z,hd,vs,rel,dd⟩:=dk_rd I.hok e
  refine wpAny_notIn_of (kV_is ry) hd dd.mapOf ?_
  rw [←(rel.val k).isSome_eq,←l]
  exact h _ (I.tok _)
 ·subst ey
  cases (show u=Value.ref b from ry)
  obtain⟨z,hd,xs,rel,dd⟩:=dt_rd I.hok e
  refine wpAny_notIn_heap (tupleKind_room_in1 hu) (Z5U I.hok eb) hd dd ?_
  have q:=(rel.val k).isSome_eq
  rw [Option.isSome_map]at q
  rw [←q,←l]
  exact h _ (I.tok _)
theorem Z7h{h':Heap}{t':Nat}{ob:HO}(I:Inv X pins σ H s)(mu:Mut (H a))(hs:Heap.SameBut a s.heap h')(he:∃ q,h'.get? a=some q)(new:ObjOk X.prog X.w (upd H a ob) h' a ob) :
  Inv X pins σ (upd H a ob) { s with heap:=h',toks:=t' } :=
 I.write (x:=a) (e:=a) mu (.inl rfl) (fun b q hb z=>(hs.2 b hb).trans z) he new
theorem dk_new{P:Program}{w:World}{H':Hp}{h':Heap}{kvs:List (Key×V)}{vs:List (Key×Value)}(z:kvs.length≤sizeLine)(hd:(a==sysModules)=false)(rel:KV kvs vs)(dd:h'.DictOf (Z2C P w) a vs) :
  ObjOk P w H' h' a (.dK kvs):=⟨z,hd,vs,rel,dd⟩
theorem Zau{H':Hp}{Q:Unit→Shared→Prop}(hu:A.units+1<cLine)(I:Inv X pins σ H s)(g:DPut H a y v H')(ry:RelV y u)(rv:RelV v r)(h:∀ s',Inv X pins σ H' s'→Q () s') :
  wpAny (model X.prog X.w) A (setItem (.ref a) u r) Q E s:=by
 rcases g with⟨kvs,k,e,ey,l,eH⟩ |⟨kvs,k,b,e,ey,eb,l,eH⟩
 ·subst ey eH
  obtain⟨z,hd,vs,rel,dd⟩:=dk_of I.hok e
  have hz:vs.length≤sizeLine:=by rw [←rel.length];exact z
  have hl:(putK kvs k v).length≤sizeLine:=by have:=Z2z kvs k v;omega
  refine wpAny_setItem_pairs (hsz:=hz) (kV_is ry) dd fun h' dd' hs=>h _ ?_
  have he:∃ q,h'.get? a=some q:=let ⟨q,_,_,hq,_⟩:=dd';⟨q,hq⟩
  exact Z7h I (by rw [e];exact True.intro) hs he (dk_new hl hd (rel.put k rv) dd')
 ·subst ey eH
  cases (show u=Value.ref b from ry)
  obtain⟨z,hd,xs,rel,dd⟩:=dt_of I.hok e
  have hz:xs.length≤sizeLine:=by rw [←Paired.length rel];exact z
  have hl:(putK kvs k v).length≤sizeLine:=by have:=Z2z kvs k v;omega
  refine wpAny_setItem_heap (hsz:=hz) (tupleKind_room_in1 hu) (Z5U I.hok eb) dd fun h' dd' hs=>h _ ?_
  obtain⟨q,es,ep,hq,h2,h3,h4,_,h5⟩:=dd'
  refine Z7h I (by rw [e];exact True.intro) hs ⟨q,hq⟩ ⟨hl,hd,_,(rel.put k eb rv).keeps fun c ys ec=>?_,q,es,ep,hq,h2,h3,h4,h5⟩
  rw [Z1W (ne_of ec e (fun z=>nomatch z))]
  exact ec
end
section
variable{X:Cx}{pins:List (Addr×Obj)}{σ:St}{H:Hp}{s:Shared}{a:Addr}{kvs:List (Key×V)}{k:Key}{u:Value}{A:Around}{E:Value→Shared→Prop}
end
def NoSl(i:Expr):Prop:=∀ ov iv,subscripted i false ov iv=operate [ov,iv] (getItem ov iv)
theorem subD_of{prog:Program}{w:World}{A:Around}{E:Value→Shared→Prop}{s:Shared}{env:Env}{value slice:Expr}{pos:Pos}{T id:String}{Q:Value→Shared→Prop}
  (hl:typeLookup (.type T) "__getitem__" = pure (some (.builtin id)))(hs:NoSl slice)
  (h:wpAny (model prog w) A (eval value env) (fun o s₁=>wpAny (model prog w) A (eval slice env) (fun i s₂=>s₂.TypeIs o T∧wpAny (model prog w) A (getItem o i) Q E s₂) E s₁) E s) :
  wpAny (model prog w) A (eval (.Subscript value slice pos) env) Q E s:=by
 refine Subscript_ (wpAny_mono h (fun o s₁ h₁=>wpAny_mono h₁ (fun i s₂ h₂=>?_) fun _ _ x=>x) fun _ _ x=>x)
 obtain⟨hT,h₂⟩:=h₂
 unfold subscriptTail
 refine wpAny_bind ?_
 rw [getitemInPython_of_ne hT.not_modules]
 refine wpAny_bind (wpAny_specialOf hT hl ?_)
 have fin:wpAny (model prog w) A (subscripted slice false o i) (fun r s₃=>wpAny (model prog w) A (letTemporaryGo value o r >>= fun _=>pure r) Q E s₃) E s₂:=by
  rw [hs o i]
  exact wpAny_operating (wpAny_mono h₂ (fun r s₃ h₃=>wpAny_bind (wpAny_letTemporaryGo (wpAny_pure h₃))) fun _ _ x=>x)
 first
  |exact wpAny_pure (wpAny_bind fin)
  |exact wpAny_bind (wpAny_pure (wpAny_bind fin))
  |exact wpAny_bind fin
theorem Z8V{X:Cx}{pins:List (Addr×Obj)}{σ:St}{H:Hp}{s:Shared}{a:Addr}{y:V}{o:Option V}(I:Inv X pins σ H s)(g:DGet H a y o):s.TypeIs (.ref a) "dict":=by
 rcases g with⟨kvs,k,e,_,_⟩ |⟨kvs,k,b,e,_,_,_⟩
 ·obtain⟨_,_,vs,_,dd⟩:=dk_rd I.hok e
  exact dd.typeIs
 ·obtain⟨_,_,xs,_,dd⟩:=dt_rd I.hok e
  exact dd.typeIs
def tDGet(td ty:TE):TE:=fun σ H Q=>td σ H fun x H1=>ty σ H1 fun y H2=>∃ a v,x=.ref a∧DGet H2 a y (some v)∧Q v H2
def tDIn(ty td:TE):TE:=fun σ H Q=>ty σ H fun y H1=>td σ H1 fun x H2=>∃ a o,x=.ref a∧DGet H2 a y o∧Q (.bl o.isSome) H2
def tDNotIn(ty td:TE):TE:=fun σ H Q=>ty σ H fun y H1=>td σ H1 fun x H2=>∃ a o,x=.ref a∧DGet H2 a y o∧Q (.bl (!o.isSome)) H2
def sDPut(td ty tv:TE):TS:=fun D σ H=>tv σ H fun v H1=>td σ H1 fun x H2=>ty σ H2 fun y H3=>∃ a H4,x=.ref a∧DPut H3 a y v H4∧D.nx σ H4
section
variable{X:Cx}{o i e value:Expr}{pos pos' tpos:Pos}{td ty tv:TE}
theorem Z3I(hu:X.A.units+1<cLine)(ho:PE X o td)(hi:PE X i ty)(hs:NoSl i):PE X (.Subscript o i pos) (tDGet td ty):=by
 intro pins s σ H Q I h
 refine subD_of PySem.F.slot_dict_getitem.lookup hs (thn (ho pins s σ H _ I h) fun u s1 ⟨x,H1,I1,rx,q1⟩=>thn (hi pins s1 σ H1 _ I1 q1) fun iv s2 ⟨y,H2,I2,ry,a,v,ex,g,q2⟩=>?_)
 subst ex
 obtain rfl:u=Value.ref a:=rx
 exact⟨Z8V I2 g,Zak hu I2 g ry fun w' s3 I3 rw'=>⟨v,H2,I3,rw',q2⟩⟩
theorem pc_din(hu:X.A.units+1<cLine)(hi:PE X i ty)(ho:PE X o td):PC X .In i o (tDIn ty td):=by
 intro pins s σ H Q I h
 refine thn (hi pins s σ H _ I h) fun iv s1 ⟨y,H1,I1,ry,q1⟩=>thn (ho pins s1 σ H1 _ I1 q1) fun u s2 ⟨x,H2,I2,rx,a,ov,ex,g,q2⟩=>?_
 subst ex
 obtain rfl:u=Value.ref a:=rx
 exact d_in hu I2 g ry fun s3 I3=>⟨.bl ov.isSome,H2,I3,rfl,q2⟩
theorem Z5I(hu:X.A.units+1<cLine)(hi:PE X i ty)(ho:PE X o td):PC X .NotIn i o (tDNotIn ty td):=by
 intro pins s σ H Q I h
 refine thn (hi pins s σ H _ I h) fun iv s1 ⟨y,H1,I1,ry,q1⟩=>thn (ho pins s1 σ H1 _ I1 q1) fun u s2 ⟨x,H2,I2,rx,a,ov,ex,g,q2⟩=>?_
 subst ex
 obtain rfl:u=Value.ref a:=rx
 exact d_notIn hu I2 g ry fun s3 I3=>⟨.bl (!ov.isSome),H2,I3,rfl,q2⟩
theorem Z3T(hu:X.A.units+1<cLine)(ho:PE X o td)(hi:PE X i ty)(hv:PE X value tv)(hs:swapsWith value (some (.Subscript o i pos')) pos.line X.env=pure false) :
  PS X (.Assign [.Subscript o i pos'] value pos) (sDPut td ty tv):=by
 intro pins s σ H D I h
 refine wpAny_Assign_Subscript (thn (hv pins s σ H _ I h) fun r s1 ⟨v,H1,I1,rv,q1⟩=>thn (ho pins s1 σ H1 _ I1 q1) fun u s2 ⟨x,H2,I2,rx,q2⟩=>thn (hi pins s2 σ H2 _ I2 q2) fun iv s3 ⟨y,H3,I3,ry,a,H4,ex,g,q3⟩=>?_) hs
 subst ex
 obtain rfl:u=Value.ref a:=rx
 exact Zau hu I3 g ry rv fun s4 I4=>⟨σ,H4,I4,q3⟩
end
theorem Z8h{P:Program}{w:World}{H:Hp}(h:Heap)(hb:sysModules<h.objs.size):ObjOk P w H (h.push { cls:=.type "dict",data:=.dict #[] }) h.objs.size (.dK []) :=
 ⟨Z0q _,beq_eq_false_iff_ne.mpr (Ne.symm (Z0o hb)),[],.nil,Heap.DictOf.new h⟩
theorem dt_empty{P:Program}{w:World}{H:Hp}(h:Heap)(hb:sysModules<h.objs.size):ObjOk P w H (h.push { cls:=.type "dict",data:=.dict #[] }) h.objs.size (.dT []) :=
 ⟨Z0q _,beq_eq_false_iff_ne.mpr (Ne.symm (Z0o hb)),[],.nil,_,#[],0,Z0C _ rfl,⟨rfl,rfl,rfl⟩,rfl,rfl,Z1B⟩
def tDNewK:TE:=fun _ H Q=>∀ p,H p=none→Q (.ref p) (upd H p (.dK []))
def tDNewT:TE:=fun _ H Q=>∀ p,H p=none→Q (.ref p) (upd H p (.dT []))
section
variable{X:Cx}{pos:Pos}
theorem Z8b:PE X (.Dict [] [] pos) tDNewK:=fun pins s σ H Q I h =>
 wpAny_Dict_empty ⟨.ref s.heap.objs.size,_,I.laid (a:=s.heap.objs.size) (o:=.dK []) (t':=s.toks) (fun _ _ q=>Z0m _ q) (Z0e _) (Z8h s.heap I.big),rfl,h _ (I.hok.fresh (Z0e _))⟩
theorem pe_dnewT:PE X (.Dict [] [] pos) tDNewT:=fun pins s σ H Q I h =>
 wpAny_Dict_empty ⟨.ref s.heap.objs.size,_,I.laid (a:=s.heap.objs.size) (o:=.dT []) (t':=s.toks) (fun _ _ q=>Z0m _ q) (Z0e _) (dt_empty s.heap I.big),rfl,h _ (I.hok.fresh (Z0e _))⟩
end
def Z8y:List (TE×TE)→St→Hp→(List (V×V)→Hp→Prop)→Prop
 |[],_,H,Q=>Q [] H
 |(tk,tv)::r,σ,H,Q=>tk σ H fun x H1=>tv σ H1 fun y H2=>Z8y r σ H2 fun ps H3=>Q ((x,y)::ps) H3
abbrev VV:List (V×V)→List (Value×Value)→Prop:=Paired fun p q=>RelV p.1 q.1∧RelV p.2 q.2
def PPs(X:Cx)(pos:Pos)(keys:List (Option Expr))(values:List Expr)(trs:List (TE×TE)):Prop :=
 ∀ (pins:List (Addr×Obj))(s:Shared)(σ:St)(H:Hp)(Q:List (V×V)→Hp→Prop),Inv X pins σ H s→Z8y trs σ H Q →
  wpAny (model X.prog X.w) X.A (evalPairs (pairTrees keys values X.env pos)) (fun vs s'=>∃ ps H',Inv X pins σ H' s'∧VV ps vs∧Q ps H') X.xe s
theorem Z7q{X:Cx}{pos:Pos}:PPs X pos [] [] []:=fun pins s σ H Q I h=>pairTrees_nil_walk ⟨[],H,I,.nil,h⟩
theorem Z4z{X:Cx}{pos:Pos}{k v:Expr}{ks:List (Option Expr)}{vs:List Expr}{tk tv:TE}{trs:List (TE×TE)}(hk:PE X k tk)(hv:PE X v tv)(hr:PPs X pos ks vs trs) :
  PPs X pos (some k::ks) (v::vs) ((tk,tv)::trs):=fun pins s σ H Q I h =>
 pairTrees_cons_walk (thn (hk pins s σ H _ I h) fun u s1 ⟨x,H1,I1,rx,q1⟩=>thn (hv pins s1 σ H1 _ I1 q1) fun w2 s2 ⟨y,H2,I2,ry,q2⟩ =>
  thn (hr pins s2 σ H2 _ I2 q2) fun ws s3 ⟨ps,H3,I3,rel,q3⟩=>⟨(x,y)::ps,H3,I3,.cons ⟨rx,ry⟩ rel,q3⟩)
def Z5l(kvs more:List (Key×V)):List (Key×V):=more.foldl (fun acc kv=>putK acc kv.1 kv.2) kvs
theorem KV.merge:∀ {more:List (Key×V)}{rs:List (Key×Value)}{kvs:List (Key×V)}{vs:List (Key×Value)},KV more rs→KV kvs vs→KV (Z5l kvs more) (merged vs rs):=by
 intro more rs kvs vs r
 unfold KV at r
 induction r generalizing kvs vs with
 |nil=>intro q;exact q
 | @cons p q ps qs h t ih =>
  intro r0
  have e:KV (putK kvs p.1 p.2) (stored vs q.1 q.2):=by
   have:=r0.put p.1 h.2
   rw [←h.1];exact this
  exact ih e
theorem Z5D:∀ (more kvs:List (Key×V)),(Z5l kvs more).length≤kvs.length+more.length
 |[],kvs=>by show kvs.length≤kvs.length+0;omega
 |p::r,kvs=>by
  have h1:=Z5D r (putK kvs p.1 p.2)
  have h2:=Z2z kvs p.1 p.2
  show(Z5l (putK kvs p.1 p.2) r).length≤_
  rw [Z0s];omega
theorem Z7b{P:Program}{w:World}:∀ {kvs:List (Key×V)}{ws:List (Value×Value)},VV (kvs.map fun kv=>(kV kv.1,kv.2)) ws→∃ rs,Carries (Z2C P w) ws rs∧KV kvs rs
 |[],_,r=>by rw [List.map_nil]at r;cases r;exact⟨[],True.intro,.nil⟩
 |p::kvs,_,r=>by
  rw [Z0B]at r
  cases r with
  | @cons a b as bs h t =>
   obtain⟨rs,c,q⟩:=Z7b (P:=P) (w:=w) t
   obtain⟨b1,b2⟩:=b
   exact⟨(p.1,b2)::rs,⟨kV_is h.1,rfl,c⟩,.cons ⟨rfl,h.2⟩ q⟩
def tDisp(trs:List (TE×TE)):TE:=fun σ H Q=>∀ p,H p=none→Z8y trs σ (upd H p (.dK [])) fun ps H2=>H2 p=some (.dK [])∧∃ kvs:List (Key×V),ps=kvs.map (fun kv=>(kV kv.1,kv.2))∧kvs.length≤15∧Q (.ref p) (upd H2 p (.dK (Z5l [] kvs)))
theorem Z7u{X:Cx}{pos:Pos}{keys:List (Option Expr)}{values:List Expr}{trs:List (TE×TE)}(h:PPs X pos keys values trs)(hall:keys.all (·.isSome)=true)(hl:keys.length=values.length)(h0:keys≠[])
  (h15:keys.length≤15):PE X (.Dict keys values pos) (tDisp trs):=by
 intro pins s σ H Q I q
 have hn:=I.hok.fresh (Z0e s.heap.objs.size)
 have I1:=I.laid (a:=s.heap.objs.size) (o:=.dK []) (h':=s.heap.push { cls:=.type "dict",data:=.dict #[] }) (t':=s.toks) (fun _ _ q=>Z0m _ q) (Z0e _) (Z8h s.heap I.big)
 refine wpAny_Dict_walk (knd:=Z2C X.prog X.w) hall hl h0 h15 (thn (h pins _ σ _ _ I1 (q _ hn)) fun ws s2 ⟨ps,H2,I2,rel,e,kvs,ep,lk,q2⟩=>?_)
 subst ep
 obtain⟨rs,c,rk⟩:=Z7b (P:=X.prog) (w:=X.w) rel
 obtain⟨z,hd,vs0,r0,dd⟩:=dk_of I2.hok e
 cases r0
 refine⟨rs,c,dd,fun h' dd' hs=>⟨.ref s.heap.objs.size,_,?_,rfl,q2⟩⟩
 have hz:(Z5l [] kvs).length≤sizeLine:=by
  have h1:=Z5D kvs []
  rw [Z0Q]at h1
  rw [sizeLine_eq];omega
 have he:∃ q,h'.get? s.heap.objs.size=some q:=let ⟨q,_,_,hq,_⟩:=dd';⟨q,hq⟩
 exact Z7h I2 (by rw [e];exact True.intro) hs he (dk_new hz hd (rk.merge .nil) dd')
section
variable{X:Cx}{pins:List (Addr×Obj)}{σ:St}{H:Hp}{s:Shared}{a:Addr}{y d:V}{u r:Value}{o:Option V}{A:Around}{E:Value→Shared→Prop}
end
section
variable{X:Cx}{o e f:Expr}{apos cpos:Pos}{td ty tx:TE}
end
section
variable{X:Cx}{pins:List (Addr×Obj)}{σ:St}{H:Hp}{s:Shared}{a:Addr}{kvs:List (Key×V)}{A:Around}{E:Value→Shared→Prop}
end
section
variable{X:Cx}{pins:List (Addr×Obj)}{σ:St}{H:Hp}{s:Shared}{a:Addr}{y:V}{u:Value}{A:Around}{E:Value→Shared→Prop}
end
end L2
namespace L2
open PySem PySem.Spec PyProof.Rows
section
variable{prog:Program}{w:World}{A:Around}{E:Value→Shared→Prop}
end
section
variable{X:Cx}
end
end L2
namespace L2
open PySem PySem.Spec PyProof.Rows
theorem Z7f:bootBuiltins "reversed" = some (.type "reversed"):=by decide +kernel
section
variable{X:Cx}{pins:List (Addr×Obj)}{σ:St}{H:Hp}{s:Shared}{h':Heap}
theorem Inv.turnedNew{t':Nat}{ch:List Addr}{T:Addr}{ob:HO}(I:Inv X pins σ H s)(k:∀ b o,b∉ch→s.heap.get? b=some o→h'.get? b=some o)(hf:∀ b∈ch,FpOk X pins H b)(hT:s.heap.objs.size≤T)
  (new:ObjOk X.prog X.w (upd H T ob) h' T ob):Inv X pins σ (upd H T ob) { s with heap:=h',toks:=t' }:=by
 have hn:H T=none:=I.hok.fresh hT
 have nit:∀ b u,H b=some u→b∉ch:=fun b u e z=>by
  have q:=(hf b z).1
  rw [q]at e;cases e
 refine I.step (g':=s.gens) (d':=s.drawn) (ch:=ch) (fun b hb=>⟨(hf b hb).2.2.2.1,(hf b hb).2.1,(hf b hb).2.2.2.2.1,(hf b hb).2.2.2.2.2⟩) (fun b o _ _ hc e _=>k b o hc e) (fun b o _ _ hc e _=>⟨o.slots,k b o hc e⟩)
  (fun b o _ e n=>?_) (fun b o hc e=>⟨o,k b o hc e⟩) (fun b xs e=>?_) (fun b o u e=>?_) (fun b ps e=>⟨#[],?_⟩) (fun m hm=>?_) (fun b u e=>?_) I.bare
 ·rw [Z1W (Z0o (Z0v (Z0h e) hT))];exact n
 ·rw [Z1W (Z1Z e hn)];exact e
 ·rw [Z1W (Z1Z e hn)];exact e
 ·rw [Z1W (Z1Z e hn),e];simp
 ·obtain⟨o,es,ep,ho,r⟩:=hm
  exact⟨o,es,ep,k _ o (fun z=>(hf _ z).2.1 rfl) ho,r⟩
 ·by_cases hb:b=T
  ·subst hb
   rw [Z1X]at e
   cases e
   exact new
  ·rw [Z1W hb]at e
   refine(I.hok b u e).stay (fun c v hc q=>k c v ?_ q) (fun c q=>by rw [Z1W (Z1Z q hn)];exact q) fun c xs q=>by rw [Z1W (Z1Z q hn)];exact q
   rcases hc with z |z
   ·rw [z];exact nit b u e
   ·exact nit c _ z
end
section
variable{X:Cx}
theorem pi_one{tg:Expr}{pins:List (Addr×Obj)}{σ:St}{H:Hp}{s:Shared}{R:It→Hp→Prop}{J:It}{tn:Nat→Heap→Prop}{tk:Nat}(I:Inv X pins σ H s)(o:Obj)
  (T:Turn X.prog X.w X.K tg J [s.heap.objs.size] s.heap.objs.size tn)(st:tn 0 (s.heap.push o))(q:R J H):PIE X pins σ tg R (.ref s.heap.objs.size) { s with heap:=s.heap.push o,toks:=tk }:=by
 refine⟨s.heap.objs.size,[s.heap.objs.size],tn,J,H,rfl,I.kept fun b ob e=>Z0m _ e,T,st,fun b hb=>?_,q⟩
 have e:b=s.heap.objs.size:=by simpa using hb
 subst e
 exact I.fpOk (Z0e _) (I.hok.fresh (Z0e _))
end
section
variable{X:Cx}{tg:Expr}
end
def Itv(K:Z0a)(a:Addr)(n:Nat):It :=
 ⟨fun i H=>i<n∧∃ (xs:List V)(x:V),SqL K H a xs∧xs[n-1-i]?=some x,fun i H x H'=>H'=H∧∀ xs,SqL K H a xs→xs[n-1-i]?=some x,fun i _=>n≤i⟩
theorem turn_rev{P:Program}{w:World}{K:Z0a}{tg:Expr}(a it:Addr)(n:Nat):Turn P w K tg (Itv K a n) [it] it (fun i h=>i≤n∧h.IsRevIter it a ((n:Int)-1-(i:Nat))) where
 mem:=by simp
 obj:=fun i h st b hb=>by
  have e:b=it:=by simpa using hb
  subst e
  obtain⟨_,o,e,c,d⟩:=st
  exact⟨o,e,fun v z=>by rw [d]at z;cases z⟩
 keep:=fun i h h' st k=>⟨st.1,st.2.at fun o e=>k it (by simp) o e⟩
 item:=by
  intro X hP hw hK hc i pins s σ H E I hf st hg
  subst hP hw hK
  obtain⟨hin,xs,x,hq,hx⟩:=hg
  obtain⟨its,rv,p,hz⟩:=I.list hq
  obtain⟨u,hu,ru⟩:=rv.get hx
  obtain⟨f0,f1,f2,f3,f4,f5⟩:=hf it (by simp)
  obtain⟨_,hit⟩:=st
  have e1:(n:Int)-1-((i:Nat):Int)=((n-1-i:Nat):Int):=by omega
  rw [e1]at hit
  refine wpAny_pyNext_rev_item hit p.isList (x:=u) (by simpa using hu) fun h' st' sb=>?_
  have e2:((n-1-i:Nat):Int)-1=(n:Int)-1-((i+1:Nat):Int):=by omega
  rw [e2]at st'
  have I1:Inv X pins σ H { s with heap:=h' }:=I.turned (t':=s.toks) (fun b o hb e=>(sb.2 b hb).trans e) f0 f1 f3 f4 f5
  obtain⟨o,e,c,d⟩:=id st'
  exact⟨u,rfl,go_of (s:={ s with heap:=h' }) e c d (by decide) ⟨x,H,I1,ru,⟨rfl,fun ys hy=>by rw [I.list_inj hy hq];exact hx⟩,⟨hin,st'⟩,fun b hb=>(hf b hb).1⟩⟩
 done:=by
  intro X hP hw hK hc i pins s σ H E I hf st hg
  subst hP hw hK
  obtain⟨f0,f1,f2,f3,f4,f5⟩:=hf it (by simp)
  obtain⟨hin,hit⟩:=st
  have hge:n≤i:=hg
  have e1:(n:Int)-1-((i:Nat):Int)=-1:=by omega
  rw [e1]at hit
  exact wpAny_pyNext_rev_end (I.ok.hd hc) hit fun h' eb=>⟨rfl,I.turned (t':=s.toks) (fun b o hb e=>eb b o hb e) f0 f1 f3 f4 f5⟩
 self:=fun A i s Q E st h=>wpAny_pyIter_revIter st.2 h
def iRev(K:Z0a)(ta:TA):TI:=fun σ H R=>ta σ H fun vs H1=>∃ (a:Addr)(xs:List V),vs=[.ref a]∧SqL K H1 a xs∧R (Itv K a xs.length) H1
section
variable{X:Cx}{tg:Expr}
theorem Z8X{e:Expr}{ta:TA}{p pos:Pos}(hg:Gl X "reversed")(hm:X.mg "reversed" = none)(ha:PA X [e] ta)(hs:starEach [e] X.env=[(false,eval e X.env)]:=by rfl):PI X tg (.Call (.Name "reversed" p) [e] [] pos) (iRev X.K ta):=by
 intro pins s σ H R I h
 refine Call_ (Z6H I hg hm Z7f (PyProof.Rows.callWith_type1 (thn (ha pos pins s σ H _ I h) fun us s1 ⟨vs,H1,I1,r1,q1⟩=>?_) hs rfl))
 obtain⟨a,xs,e,hq,q⟩:=q1
 subst e
 cases r1 with
 |cons r rr =>
  cases rr
  cases r
  obtain⟨its,rv,p',hz⟩:=I1.list hq
  have hl:=rv.length
  have e1:((its.toArray.size:Nat):Int)-1=(xs.length:Int)-1-((0:Nat):Int):=by simp only [Z0r];omega
  refine call_reversed_list p'.isList (wpAny_pyIter_revIter (l:=a) (i:=((its.toArray.size:Nat):Int)-1) ⟨_,Z0C _ rfl,rfl,rfl⟩ ?_)
  refine pi_one (tk:=s1.toks) I1 _ (turn_rev a _ xs.length) ⟨Z0q _,?_⟩ q
  rw [←e1]
  exact⟨_,Z0C _ rfl,rfl,rfl⟩
end
section
variable{prog:Program}{w:World}{A:Around}{E:Value→Shared→Prop}{s:Shared}
end
section
variable{X:Cx}{pins:List (Addr×Obj)}{σ:St}{H:Hp}{s:Shared}{d:Addr}{o:Obj}
end
section
variable{P:Program}{w:World}{K:Z0a}{tg:Expr}{d:Addr}{o:Obj}{es:Array DictEntry}{ep:Nat}
end
section
variable{X:Cx}{tg e:Expr}{td:TE}{apos cpos:Pos}
end
def Ite(K:Z0a)(a:Addr):It :=
 ⟨fun i H=>∃ (xs:List V)(x:V),SqL K H a xs∧xs[i]?=some x,fun i H v H'=>∃ T x,v=.ref T∧H T=none∧H'=upd H T (.tup [.int (i:Nat),x])∧∀ xs,SqL K H a xs→xs[i]?=some x,fun i H=>∃ xs:List V,SqL K H a xs∧xs.length≤i⟩
theorem Zag{P:Program}{w:World}{K:Z0a}{elts:List Expr}{kk:Nat}{tpos:Pos}(a e it:Addr) :
  Turn P w K (.Tuple elts kk tpos) (Ite K a) [e,it] e (fun i h=>(∃ old,IsEnum h e it ((i:Nat):Int) old)∧h.IsListIter it a i∧e≠it) where
 mem:=by simp
 obj:=fun i h st b hb=>by
  obtain⟨⟨old,he⟩,⟨o,ho,hc,hd⟩,_⟩:=st
  have e':b=e∨b=it:=by simpa using hb
  rcases e' with z |z
  ·rw [z];exact⟨_,he,fun v q=>nomatch q⟩
  ·rw [z];exact⟨o,ho,fun v q=>by rw [hd]at q;cases q⟩
 keep:=fun i h h' st k=>let ⟨⟨old,he⟩,hi,hne⟩:=st;⟨⟨old,k e (by simp) _ he⟩,hi.at fun o q=>k it (by simp) o q,hne⟩
 item:=by
  intro X hP hw hK hc i pins s σ H E I hf st hg
  subst hP hw hK
  obtain⟨⟨old,he⟩,hit,hne⟩:=st
  obtain⟨xs,x,hq,hx⟩:=hg
  obtain⟨its,rv,p,hz⟩:=I.list hq
  obtain⟨u,hu,ru⟩:=rv.get hx
  have hel:e<s.heap.objs.size:=Z0h he
  have hil:it<s.heap.objs.size:=by obtain⟨_,q,_⟩:=hit;exact Z0h q
  refine wpAny_pyNext_enum_item he hit p.isList (x:=u) (by simpa using hu) hne fun h' ho hit' hT hsz hk=>?_
  refine⟨_,rfl,wpAny_letOwnedTupleGo_enum (s:={ s with heap:=h',toks:=s.toks+1 }) ho fun h'' he' sb=>?_⟩
  have hT2:h''.get? s.heap.objs.size=some { cls:=.type "tuple",data:=.seq #[.int i s.toks,u] }:=(sb.2 _ (Z1n hel)).trans hT
  have new:ObjOk X.prog X.w (upd H s.heap.objs.size (.tup [.int (i:Nat),x])) h'' s.heap.objs.size (.tup [.int (i:Nat),x]) :=
   ⟨by show 2≤sizeLine;decide,[.int i s.toks,u],.cons ⟨_,rfl⟩ (.cons ru .nil),⟨_,hT2,rfl,_,rfl⟩⟩
  have I1:Inv X pins σ (upd H s.heap.objs.size (.tup [.int (i:Nat),x])) { s with heap:=h'',toks:=s.toks+1 } :=
   I.turnedNew (ch:=[e,it]) (fun b ob hb q=>(sb.2 b (fun z=>hb (by simp [z]))).trans (hk b ob (fun z=>hb (by simp [z])) (fun z=>hb (by simp [z])) q)) hf (Z0e _) new
  refine⟨.ref s.heap.objs.size,_,I1,rfl,⟨_,x,rfl,I.hok.fresh (Z0e _),rfl,fun ys hy=>by rw [I.list_inj hy hq];exact hx⟩,⟨⟨u,?_⟩,hit'.at fun o q=>(sb.2 it (Ne.symm hne)).trans q,hne⟩,fun b hb=>?_⟩
  ·have e1:((i+1:Nat):Int)=(i:Int)+1:=by omega
   rw [e1];exact he'
  ·have hb':b<s.heap.objs.size:=by
    have e':b=e∨b=it:=by simpa using hb
    rcases e' with z |z
    ·rw [z];exact hel
    ·rw [z];exact hil
   rw [Z1W (Z0o hb')]
   exact(hf b hb).1
 done:=by
  intro X hP hw hK hc i pins s σ H E I hf st hg
  subst hP hw hK
  obtain⟨⟨old,he⟩,hit,hne⟩:=st
  obtain⟨xs,hq,hx⟩:=hg
  obtain⟨its,rv,p,hz⟩:=I.list hq
  obtain⟨f0,f1,f2,f3,f4,f5⟩:=hf it (by simp)
  have hl:=rv.length
  exact wpAny_pyNext_enum_end (I.ok.hd hc) he hit p.isList (by simp;omega) fun h' eb=>⟨rfl,I.turned (t':=s.toks) (fun b o hb q=>eb b o hb q) f0 f1 f3 f4 f5⟩
 self:=fun A i s Q E st h=>let ⟨⟨_,he⟩,_⟩:=st;wpAny_pyIter_enum he h
def iEnum(K:Z0a)(ta:TA):TI:=fun σ H R=>ta σ H fun vs H1=>∃ a xs,vs=[.ref a]∧SqL K H1 a xs∧R (Ite K a) H1
theorem Z7j{X:Cx}{e:Expr}{ta:TA}{p pos tpos:Pos}{elts:List Expr}{kk:Nat}(hg:Gl X "enumerate")(hm:X.mg "enumerate" = none)(ha:PA X [e] ta)(hs:starEach [e] X.env=[(false,eval e X.env)]:=by rfl) :
  PI X (.Tuple elts kk tpos) (.Call (.Name "enumerate" p) [e] [] pos) (iEnum X.K ta):=by
 intro pins s σ H R I h
 refine Call_ (Z6H I hg hm boot_enumerate (PyProof.Rows.callWith_type1 (thn (ha pos pins s σ H _ I h) fun us s1 ⟨vs,H1,I1,r1,q1⟩=>?_) hs rfl))
 obtain⟨a,xs,ex,hq,q⟩:=q1
 subst ex
 cases r1 with
 |cons r rr =>
  cases rr
  cases r
  obtain⟨its,rv,p',hz⟩:=I1.list hq
  refine call_enumerate_list p'.isList fun h' he hit hsz hk=>wpAny_pyIter_enum he ?_
  have I2:Inv X pins σ H1 { s1 with heap:=h' }:=I1.kept (t':=s1.toks) hk
  refine⟨s1.heap.objs.size+1,[s1.heap.objs.size+1,s1.heap.objs.size],_,_,H1,rfl,I2,Zag a (s1.heap.objs.size+1) s1.heap.objs.size,⟨⟨.none,he⟩,hit,Nat.succ_ne_self _⟩,fun b hb=>?_,q⟩
  have e':b=s1.heap.objs.size+1∨b=s1.heap.objs.size:=by simpa using hb
  have hle:s1.heap.objs.size≤b:=by
   rcases e' with z |z
   ·rw [z];exact Nat.le_add_right _ _
   ·rw [z];exact Z0e _
  exact I1.fpOk hle (I1.hok.fresh hle)
end L2
section
namespace Bits
open PySem PyProof.Rows
end Bits
end
section
namespace TL
open PySem PySem.Builtin PySem.Builtin.Str PySem.StrLaws
end TL
end
namespace L2
open PySem PySem.Spec PyProof.Rows
section
variable{X:Cx}{pins:List (Addr×Obj)}{σ:St}{H:Hp}{s:Shared}{Q:VK}
end
section
variable{X:Cx}
end
section
variable{X:Cx}{o e:Expr}{to te:TE}
end
end L2
namespace L2
open PySem PySem.Spec PyProof.Rows
section
variable{X:Cx}
end
end L2
namespace Att
open PySem PySem.W PySem.Calls PyProof.Rows
section
variable{prog:Program}{w:World}{A:Around}{E:Value→Shared→Prop}{s:Shared}{K:Frag}
end
end Att
namespace L2
open PySem PySem.Spec PyProof.Rows
end L2
namespace L2
open PySem PySem.Spec PyProof.Rows
end L2
namespace L2
open PySem PySem.Spec PyProof.Rows
def Z2u(s:Stmt)(j:Nat):Stmt:=match s with
 |.ClassDef _ _ _ body _ _ _ _ _ _ _=>body.getD j (.Pass ⟨0,0,0,0⟩)
 |_=>.Pass ⟨0,0,0,0⟩
def Z2P(s:Stmt):Arguments:=match s with
 |.FunctionDef _ a _ _ _ _ _ _ _ _=>a
 |_=>{ posonlyargs:=[],args:=[],vararg:=none,kwonlyargs:=[],kw_defaults:=[],kwarg:=none,defaults:=[] }
def Z2o(s:Stmt):List Stmt:=match s with
 |.FunctionDef _ _ b _ _ _ _ _ _ _=>b
 |_=>[]
def Z2b(s:Stmt):Scope:=match s with
 |.FunctionDef _ _ _ _ _ _ sc _ _ _=>sc
 |_=>{ kind:=.function,names:=[],isGenerator:=false,isCoroutine:=false }
abbrev CX0:CXT:=fun _ _ _ _ _ _=>False
abbrev E0:XK:=fun _ _ _=>False
theorem pass0{X:Cx}:Z2I CX0 X E0:=fun _ _ _ _ _ _ _ h=>h.elim
structure Fun(K:Z0a)(x qual:Str)(st:Stmt)(f:Addr)(fd:FuncData):Prop where
 ex:∃ (oc:Value)(od:Option Addr)(kV doc pm:Value)(an:Option Addr)(cdv ct:Value)(osl:Array (Option Value)),
  fd=PySem.W.fnOf x qual (Z2P st) (Z2o st) (Z2b st) .none kV doc pm an cdv ct∧K.lookup f=some ⟨oc,od,.func fd,osl⟩∧PySem.W.codeIn K cdv qual=true
 kp:PySem.W.keepIn K (.ref f)=true
section
variable{P:Program}{w:World}{K:Z0a}{mg:Str→Option Value}{base:Heap}
theorem Fun.ok{x qual:Str}{st:Stmt}{f:Addr}{fd:FuncData}{N ps:List Str}{k:Nat}{sp:Sp}(F:Fun K x qual st f fd)(S:Z2e N ps (Z2b st))(len:∀ vs H Q E,sp vs H Q E→vs.length=ps.length)
  (hbody:∀ (cdv:Value)(A:Around)(outer:List Env)(s:Shared)(H:Hp)(vs:List V)(Q:VK)(E:XK),Room k (A.deeper (envOfC qual (Z2b st) s.heap.objs.size f cdv))→sp vs H Q E →
    ∃ t,PSs (cxOf CX0 P w K mg base N qual (Z2b st) f cdv A outer s H E).nox (Z2o st) t∧t { nx:=fun _ H'=>Q .non H',rt:=Q } (start N vs) H):FnOk P w K mg base CX0 (k+1) f fd ps sp:=by
 obtain⟨oc,od,kV,doc,pm,an,cdv,ct,osl,rfl,lk,hcd⟩:=F.ex
 refine fn_of lk hcd S len fun A outer s H vs Q E hr hsp=>?_
 obtain⟨t,h,q⟩:=hbody cdv A outer s H vs Q E hr hsp
 exact⟨t,h.nox,q⟩
theorem Fun.binds{x qual:Str}{st:Stmt}{f:Addr}{fd:FuncData}{ps:List Str}(F:Fun K x qual st f fd)
  (h:∀ (kV doc pm:Value)(an:Option Addr)(cdv ct:Value)(us:List Value),us.length=ps.length→bindArgs (PySem.W.fnOf x qual (Z2P st) (Z2o st) (Z2b st) .none kV doc pm an cdv ct) ⟨us,[]⟩=pure (ps.zip us)):Binds K fd ps []:=by
 obtain⟨oc,od,kV,doc,pm,an,cdv,ct,osl,rfl,lk,hcd⟩:=F.ex
 exact .all (h kV doc pm an cdv ct)
theorem fun_mk{x qual:Str}{st:Stmt}{f:Addr}{oc:Value}{od an:Option Addr}{osl:Array (Option Value)}{kV doc pm cdv ct:Value}(l:K.lookup f=some ⟨oc,od,.func (PySem.W.fnOf x qual (Z2P st) (Z2o st) (Z2b st) .none kV doc pm an cdv ct),osl⟩)
  (c:PySem.W.codeIn K cdv qual=true)(k:PySem.W.keepIn K (.ref f)=true):Fun K x qual st f (PySem.W.fnOf x qual (Z2P st) (Z2o st) (Z2b st) .none kV doc pm an cdv ct):=⟨⟨oc,od,kV,doc,pm,an,cdv,ct,osl,rfl,l,c⟩,k⟩
end
theorem hu_of{A:Around}{k:Nat}(hr:Room k A):A.units+1<cLine:=Nat.lt_of_le_of_lt (Nat.add_le_add_left (by decide:1≤64) _) hr.units
section
variable{X:Cx}
theorem pv(i:Nat){x:Str}{pos:Pos}(hN:X.N[i]?=some x:=by rfl)(hv:Vis X.env.scope x:=by first |exact Or.inl rfl |exact Or.inr (Or.inl rfl) |exact Or.inr (Or.inr rfl))(hd:(x==("__debug__" : Str))=false:=by decide)
  (hcd:(x==("__classdict__" : Str))=false:=by decide):PE X (.Name x pos) (tVar i):=pe_var hN hv hd hcd
end
theorem ite2{c A B:Prop}[Decidable c](h1:c→A)(h2:¬ c→B):if c then A else B:=by
 by_cases h:c
 ·rw [if_pos h]
  exact h1 h
 ·rw [if_neg h]
  exact h2 h
def Same(H H':Hp):Prop:=∀ b o,H b=some o→H' b=some o
theorem Same.refl(H:Hp):Same H H:=fun _ _ h=>h
theorem Same.trans{H H1 H2:Hp}(a:Same H H1)(b:Same H1 H2):Same H H2:=fun c o h=>b c o (a c o h)
theorem Same.free{H H':Hp}(e:Same H H'){l:Addr}(h:H' l=Option.none):H l=Option.none:=by
 cases q:H l with
 |none=>rfl
 |some o =>
  rw [e l o q]at h
  cases h
theorem Same.seq{K:Z0a}{H H':Hp}{a:Addr}{xs:List V}(e:Same H H')(h:SqL K H a xs):SqL K H' a xs:=by
 rcases h with(h |⟨o,h⟩) |h
 ·exact .inl (.inl (e _ _ h))
 ·exact .inl (.inr ⟨o,e _ _ h⟩)
 ·exact .inr h
section
variable{κ:Type}[DecidableEq κ]
end
end L2
end
section
set_option maxHeartbeats 2000000
namespace L2
open PySem PySem.Spec PyProof.Rows
open PySem.W (WData Codec OpenSpec Well WellAll ReadsW ReadsAllW)
mutual
inductive Dw (K:Z0a)(H:Hp):V→WData→Prop
 |non:Dw K H .non .none
 |bl (b:Bool):Dw K H (.bl b) (.bool b)
 |int (i:Int):Dw K H (.int i) (.int i)
 |str (x:Str):Dw K H (.str x) (.str x)
 |byt (b:Array UInt8):Dw K H (.byt b) (.bytes b.toList)
 |lst {a:Addr}{xs:List V}{ds:List WData}:SqL K H a xs→DwAll K H xs ds→Dw K H (.ref a) (.list ds)
 |tup {a:Addr}{xs:List V}{ds:List WData}:SqT K H a xs→DwAll K H xs ds→Dw K H (.ref a) (.tuple ds)
inductive DwAll (K:Z0a)(H:Hp):List V→List WData→Prop
 |nil:DwAll K H [] []
 |cons {v:V}{vs:List V}{d:WData}{ds:List WData}:Dw K H v d→DwAll K H vs ds→DwAll K H (v::vs) (d::ds)
end
theorem ZaB{K:Z0a}{H:Hp}:∀ ns:List Int,DwAll K H (ns.map V.int) (ns.map WData.int)
 |[]=>.nil
 |n::r=>.cons (.int n) (ZaB r)
theorem ZaC{K:Z0a}{H:Hp}:∀ (ns:List Int)(xs:List V),DwAll K H xs (ns.map WData.int)→xs=ns.map V.int
 |[],xs,h=>by
  cases h
  rfl
 |n::r,xs,h=>by
  cases h with
  |cons h1 h2 =>
   cases h1
   rw [ZaC r _ h2]<;>rfl
section
variable{P:Program}{w:World}{K:Z0a}{H:Hp}{h:Heap}{R:PySem.W.WRecords}{cl:Str→Option Addr}
theorem sqL_at{a:Addr}{xs:List V}(hok:HOk P w H h)(KX:K.In h)(q:SqL K H a xs):∃ (its:List Value)(o:Obj)(n:Nat),Vals xs its∧h.get? a=some o∧o.cls=.type "list"∧o.data=.seq its.toArray n:=by
 rcases q with q |⟨o,its,n,e,hc,_,hd,_,hv⟩
 ·obtain⟨_,its,n,hv,e⟩:=(show ObjOk P w H h a (.lst xs)from q.ok hok)
  exact⟨its,_,n,hv,e,rfl,rfl⟩
 ·exact⟨its.toList,o,n,hv,KX _ _ e,hc,by simp [hd]⟩
theorem sqT_at{a:Addr}{xs:List V}(hok:HOk P w H h)(KX:K.In h)(q:SqT K H a xs):∃ (its:List Value)(o:Obj)(n:Nat),Vals xs its∧h.get? a=some o∧o.cls=.type "tuple"∧o.data=.seq its.toArray n:=by
 rcases q with q |⟨o,its,n,e,hc,hd,_,hv⟩
 ·obtain⟨_,its,hv,o,e,hc,n,hd⟩:=(show ObjOk P w H h a (.tup xs)from q.ok hok)
  exact⟨its,o,n,hv,e,hc,hd⟩
 ·exact⟨its.toList,o,n,hv,KX _ _ e,hc,by simp [hd]⟩
mutual
theorem Dw.reads(hok:HOk P w H h)(KX:K.In h):∀ (d:WData)(v:V)(u:Value),Dw K H v d→RelV v u→∃ as,ReadsW R cl h u d as
 |.none,_,_,x,r=>by
  cases x
  cases r
  exact⟨_,ReadsW.none⟩
 |.bool b,_,_,x,r=>by
  cases x
  cases r
  exact⟨_,ReadsW.bool b⟩
 |.int i,_,_,x,r=>by
  cases x
  obtain⟨t,rfl⟩:=r
  exact⟨_,ReadsW.int i t⟩
 |.str s,_,_,x,r=>by
  cases x
  obtain⟨t,rfl⟩:=r
  exact⟨_,ReadsW.str s t⟩
 |.bytes b,_,_,x,r=>by
  cases x
  obtain⟨t,rfl⟩:=r
  exact⟨_,ReadsW.bytes _ t⟩
 |.list ds,_,_,x,r=>by
  cases x with
  |lst hs ha =>
   cases r
   obtain⟨its,o,n,rv,ho,hc,hd⟩:=sqL_at hok KX hs
   obtain⟨as,hr⟩:=Dw.readsAll hok KX ds _ its ha rv
   exact⟨_,ReadsW.list ho hc hd hr⟩
 |.tuple ds,_,_,x,r=>by
  cases x with
  |tup hs ha =>
   cases r
   obtain⟨its,o,n,rv,ho,hc,hd⟩:=sqT_at hok KX hs
   obtain⟨as,hr⟩:=Dw.readsAll hok KX ds _ its ha rv
   exact⟨_,ReadsW.tuple ho hc hd hr⟩
 |.float _,_,_,x,_=>by cases x
 |.dict _,_,_,x,_=>by cases x
 |.bytearray _,_,_,x,_=>by cases x
 |.set _,_,_,x,_=>by cases x
 |.frozenset _,_,_,x,_=>by cases x
 |.obj _ _,_,_,x,_=>by cases x
theorem Dw.readsAll(hok:HOk P w H h)(KX:K.In h):∀ (ds:List WData)(vs:List V)(us:List Value),DwAll K H vs ds→Vals vs us→∃ as,ReadsAllW R cl h us ds as
 |[],_,_,x,r=>by
  cases x
  cases r
  exact⟨_,ReadsAllW.nil⟩
 |d::ds,_,_,x,r=>by
  cases x with
  |cons h1 h2 =>
   cases r with
   |cons r1 r2 =>
    obtain⟨as,q1⟩:=Dw.reads hok KX d _ _ h1 r1
    obtain⟨bs,q2⟩:=Dw.readsAll hok KX ds _ _ h2 r2
    exact⟨_,ReadsAllW.cons q1 q2⟩
end
end
mutual
def plW:WData→Bool
 |.none=>true
 |.bool _=>true
 |.int _=>true
 |.str _=>true
 |.bytes _=>true
 |.list xs=>plWs xs
 |.tuple xs=>plWs xs
 |_=>false
def plWs:List WData→Bool
 |[]=>true
 |x::r=>plW x&&plWs r
end
theorem Z8a{α:Type}{f:α→WData}(h:∀ a,plW (f a)=true):∀ l:List α,plWs (l.map f)=true
 |[]=>rfl
 |x::r=>by
  show(plW (f x)&&plWs (r.map f))=true
  rw [h x,Z8a h r]<;>rfl
theorem Z4j:∀ (c:Codec)(a:c.denote),plW (c.enc a)=true
 |.unit,_=>rfl
 |.bool,_=>rfl
 |.int _ _,_=>rfl
 |.nat _ _,_=>rfl
 |.u8,_=>rfl
 |.bytes _ _,_=>rfl
 |.text _ _ _ _,_=>rfl
 |.list _ _ c,a=>Z8a (fun x=>Z4j c x) a
 |.pair c d,a=>by
  show(plW (c.enc a.1)&&(plW (d.enc a.2)&&true))=true
  rw [Z4j c a.1,Z4j d a.2]<;>rfl
 |.triple c d e,a=>by
  show(plW (c.enc a.1)&&(plW (d.enc a.2.1)&&(plW (e.enc a.2.2)&&true)))=true
  rw [Z4j c a.1,Z4j d a.2.1,Z4j e a.2.2]<;>rfl
 |.option c,none=>rfl
 |.option c,some x=>Z4j c x
theorem Z7D:∀ (cs:List Codec)(a:Codec.denoteAll cs),plWs (Codec.encAll cs a)=true
 |[],_=>rfl
 |c::cs,a=>by
  show(plW (c.enc a.1)&&plWs (Codec.encAll cs a.2))=true
  rw [Z4j c a.1,Z7D cs a.2]<;>rfl
theorem Z5w:∀ {xs:List WData}{d:WData},d∈xs→d.weight≤WData.weightAll xs
 |[],d,h=>absurd h (by simp)
 |x::r,d,h=>by
  show d.weight≤x.weight+1+WData.weightAll r
  rcases Z0d.mp h with e |m
  ·rw [e]
   omega
  ·have z:=Z5w m
   omega
def toV:Value→V
 |.none=>.non
 |.bool b=>.bl b
 |.int i _=>.int i
 |.str x _=>.str x
 |.bytes b _=>.byt b
 |.ref a=>.ref a
 |_=>.non
def OkU(A:List Addr):Value→Prop
 |.none=>True
 |.bool _=>True
 |.int _ _=>True
 |.str _ _=>True
 |.bytes _ _=>True
 |.ref a=>a∈A
 |_=>False
theorem OkU.mono{A B:List Addr}(h:∀ a∈A,a∈B):∀ {u:Value},OkU A u→OkU B u:=fun{u} x=>by
 cases u with
 |ref a=>exact h a x
 |none=>trivial
 |bool b=>trivial
 |int i t=>trivial
 |str s t=>trivial
 |bytes b t=>trivial
 |_=>exact False.elim x
theorem relV_toV{A:List Addr}{u:Value}(x:OkU A u):RelV (toV u) u:=by
 cases u with
 |ref a=>rfl
 |none=>rfl
 |bool b=>rfl
 |int i t=>exact⟨t,rfl⟩
 |str s t=>exact⟨t,rfl⟩
 |bytes b t=>exact⟨t,rfl⟩
 |_=>exact False.elim x
theorem Z3X{A:List Addr}:∀ {vs:List Value},(∀ u∈vs,OkU A u)→Vals (vs.map toV) vs
 |[],_=>.nil
 |u::r,h=>.cons (relV_toV (h u (Z0g ..))) (Z3X fun x hx=>h x (Z0f _ hx))
def ArgOb(h:Heap)(A:List Addr)(a:Addr):Prop:=∃ vs:List Value,vs.length≤sizeLine∧(∀ u∈vs,OkU A u) ∧
 (h.get? a=some { cls:=.type "list",data:=.seq vs.toArray }∨h.get? a=some { cls:=.type "tuple",data:=.seq vs.toArray })
theorem ArgOb.mono{h:Heap}{A B:List Addr}{a:Addr}(k:∀ a∈A,a∈B)(x:ArgOb h A a):ArgOb h B a:=by
 obtain⟨vs,h1,h2,h3⟩:=x
 exact⟨vs,h1,fun u hu=>(h2 u hu).mono k,h3⟩
theorem Z4d{P:Params}{h:Heap}:∀ {vs:List Value}{ds:List WData},WellAll P h vs ds→vs.length=ds.length
 |_,_,.nil=>rfl
 |_,_,.cons _ b=>by
  show _+1=_+1
  rw [Z4d b]
theorem Z7w{P:Params}{h:Heap}{v:Value}{ds:List WData}(x:Well P h v (.list ds)):∃ (a:Addr)(vs:List Value),v=.ref a∧h.get? a=some { cls:=.type "list",data:=.seq vs.toArray }∧WellAll P h vs ds:=by
 cases x with
 |list ho hall=>exact⟨_,_,rfl,ho,hall⟩
theorem Z6Y{P:Params}{h:Heap}{v:Value}{ds:List WData}(x:Well P h v (.tuple ds)):∃ (a:Addr)(vs:List Value),v=.ref a∧h.get? a=some { cls:=.type "tuple",data:=.seq vs.toArray }∧WellAll P h vs ds:=by
 cases x with
 |tuple ho hall=>exact⟨_,_,rfl,ho,hall⟩
theorem Z7J{P:Params}{h:Heap}{us:List Value}{d:WData}{ds:List WData}(x:WellAll P h us (d::ds)):∃ (v:Value)(vs:List Value),us=v::vs∧Well P h v d∧WellAll P h vs ds:=by
 cases x with
 |cons a b=>exact⟨_,_,rfl,a,b⟩
theorem Z9k{n:Nat}(h:n≤1048576):n≤sizeLine:=Z0x h (by decide)
section
variable{P:Params}{h:Heap}
mutual
theorem area_one:∀ (d:WData)(v:Value),Well P h v d→plW d=true→d.weight≤1048576→∃ A:List Addr,OkU A v∧∀ a∈A,ArgOb h A a
 |.none,_,x,_,_=>by
  cases x
  exact⟨[],trivial,fun a m=>absurd m (by simp)⟩
 |.bool b,_,x,_,_=>by
  cases x
  exact⟨[],trivial,fun a m=>absurd m (by simp)⟩
 |.int i,_,x,_,_=>by
  cases x
  exact⟨[],trivial,fun a m=>absurd m (by simp)⟩
 |.str s,_,x,_,_=>by
  cases x
  exact⟨[],trivial,fun a m=>absurd m (by simp)⟩
 |.bytes b,_,x,_,_=>by
  cases x
  exact⟨[],trivial,fun a m=>absurd m (by simp)⟩
 |.list ds,_,x,p,z=>by
  obtain⟨a,vs,rfl,ho,hall⟩:=Z7w x
  have z2:WData.weightAll ds≤1048576:=z
  obtain⟨A,h1,h2⟩:=Z5p ds _ hall p fun d hd=>Z0x (Z5w hd) z2
  have k:∀ b∈A,b∈a::A:=fun b hb=>Z0f _ hb
  refine⟨a::A,Z0g ..,fun b hb=>?_⟩
  rcases Z0d.mp hb with e |m
  ·rw [e]
   exact⟨vs,Z9k (by rw [Z4d hall];exact Z0x (PySem.W.length_le_weightAllW ds) z2),fun u hu=>(h1 u hu).mono k,.inl ho⟩
  ·exact(h2 b m).mono k
 |.tuple ds,_,x,p,z=>by
  obtain⟨a,vs,rfl,ho,hall⟩:=Z6Y x
  have z2:WData.weightAll ds≤1048576:=z
  obtain⟨A,h1,h2⟩:=Z5p ds _ hall p fun d hd=>Z0x (Z5w hd) z2
  have k:∀ b∈A,b∈a::A:=fun b hb=>Z0f _ hb
  refine⟨a::A,Z0g ..,fun b hb=>?_⟩
  rcases Z0d.mp hb with e |m
  ·rw [e]
   exact⟨vs,Z9k (by rw [Z4d hall];exact Z0x (PySem.W.length_le_weightAllW ds) z2),fun u hu=>(h1 u hu).mono k,.inr ho⟩
  ·exact(h2 b m).mono k
 |.float _,_,_,p,_=>Bool.noConfusion (show false=true from p)
 |.dict _,_,_,p,_=>Bool.noConfusion (show false=true from p)
 |.bytearray _,_,_,p,_=>Bool.noConfusion (show false=true from p)
 |.set _,_,_,p,_=>Bool.noConfusion (show false=true from p)
 |.frozenset _,_,_,p,_=>Bool.noConfusion (show false=true from p)
 |.obj _ _,_,_,p,_=>Bool.noConfusion (show false=true from p)
theorem Z5p:∀ (ds:List WData)(vs:List Value),WellAll P h vs ds→plWs ds=true→(∀ d∈ds,d.weight≤1048576)→∃ A:List Addr,(∀ u∈vs,OkU A u)∧∀ a∈A,ArgOb h A a
 |[],_,x,_,_=>by
  cases x
  exact⟨[],fun u m=>absurd m (by simp),fun a m=>absurd m (by simp)⟩
 |d::ds,_,x,p,z=>by
  obtain⟨v,vs,rfl,x1,x2⟩:=Z7J x
  have q:plW d=true∧plWs ds=true:=Z1a.mp p
  obtain⟨A,a1,a2⟩:=area_one d v x1 q.1 (z d (Z0g ..))
  obtain⟨B,b1,b2⟩:=Z5p ds vs x2 q.2 fun e he=>z e (Z0f _ he)
  have kA:∀ b∈A,b∈A++B:=fun b hb=>Z0k.mpr (.inl hb)
  have kB:∀ b∈B,b∈A++B:=fun b hb=>Z0k.mpr (.inr hb)
  refine⟨A++B,fun u hu=>?_,fun b hb=>?_⟩
  ·rcases Z0d.mp hu with e |m
   ·rw [e]
    exact a1.mono kA
   ·exact(b1 u m).mono kB
  ·rcases Z0k.mp hb with m |m
   ·exact(a2 b m).mono kA
   ·exact(b2 b m).mono kB
end
end
def hoOf(o:Obj):Option HO:=match o.data with
 |.seq vs _=>if (o.cls==Value.type "list")=true then some (.frz o (.lst (vs.toList.map toV)))else some (.frz o (.tup (vs.toList.map toV)))
 |_=>none
def argH(K:Z0a)(h:Heap)(A:List Addr):Hp:=fun b=>if b∈A then(if (K.lookup b).isNone=true then(h.get? b).bind hoOf else none)else none
def OnlyF(H:Hp):Prop:=∀ b,H b=none∨∃ o u,H b=some (.frz o u)
theorem Z8S(vs:List Value):hoOf { cls:=.type "list",data:=.seq vs.toArray }=some (.frz { cls:=.type "list",data:=.seq vs.toArray } (.lst (vs.map toV))):=by
 show(if (Value.type "list"==Value.type "list")=true then some (HO.frz { cls:=.type "list",data:=.seq vs.toArray } (.lst (vs.toArray.toList.map toV)))else some (HO.frz { cls:=.type "list",data:=.seq vs.toArray } (.tup (vs.toArray.toList.map toV))))=_
 rw [if_pos (beq_self_eq_true _)]
theorem Z8L(vs:List Value):hoOf { cls:=.type "tuple",data:=.seq vs.toArray }=some (.frz { cls:=.type "tuple",data:=.seq vs.toArray } (.tup (vs.map toV))):=by
 show(if (Value.type "tuple"==Value.type "list")=true then some (HO.frz { cls:=.type "tuple",data:=.seq vs.toArray } (.lst (vs.toArray.toList.map toV)))else some (HO.frz { cls:=.type "tuple",data:=.seq vs.toArray } (.tup (vs.toArray.toList.map toV))))=_
 rw [if_neg (by decide)]
section
variable{P:Program}{w:World}{K:Z0a}{h:Heap}{A:List Addr}
theorem Z6a{b:Addr}{o:Obj}(hb:b∈A)(hk:K.lookup b=none)(e:h.get? b=some o):argH K h A b=hoOf o:=by
 unfold argH
 rw [if_pos hb,hk,if_pos (show(none:Option Obj).isNone=true from rfl),e]<;>rfl
theorem of_argH{b:Addr}{u:HO}(q:argH K h A b=some u):b∈A∧K.lookup b=none:=by
 unfold argH at q
 by_cases hb:b∈A
 ·rw [if_pos hb]at q
  cases hk:K.lookup b with
  |none=>exact⟨hb,rfl⟩
  |some o =>
   rw [hk,if_neg (by simp)]at q
   cases q
 ·rw [if_neg hb]at q
  cases q
theorem Z6e(ar:∀ a∈A,ArgOb h A a){b:Addr}{u:HO}(q:argH K h A b=some u):K.lookup b=none∧∃ vs:List Value,vs.length≤sizeLine∧(∀ u∈vs,OkU A u) ∧
  ((h.get? b=some { cls:=.type "list",data:=.seq vs.toArray }∧u=.frz { cls:=.type "list",data:=.seq vs.toArray } (.lst (vs.map toV))) ∨
   (h.get? b=some { cls:=.type "tuple",data:=.seq vs.toArray }∧u=.frz { cls:=.type "tuple",data:=.seq vs.toArray } (.tup (vs.map toV)))):=by
 obtain⟨hb,hk⟩:=of_argH q
 obtain⟨vs,h1,h2,h3⟩:=ar b hb
 refine⟨hk,vs,h1,h2,?_⟩
 rcases h3 with e |e
 ·rw [Z6a hb hk e,Z8S]at q
  exact .inl ⟨e,(Option.some.inj q).symm⟩
 ·rw [Z6a hb hk e,Z8L]at q
  exact .inr ⟨e,(Option.some.inj q).symm⟩
theorem Zaj(ar:∀ a∈A,ArgOb h A a):OnlyF (argH K h A):=fun b=>by
 cases q:argH K h A b with
 |none=>exact .inl rfl
 |some u =>
  obtain⟨_,vs,_,_,⟨_,e⟩ |⟨_,e⟩⟩:=Z6e ar q
  ·exact .inr ⟨_,_,by rw [e]⟩
  ·exact .inr ⟨_,_,by rw [e]⟩
theorem argH_ok(ar:∀ a∈A,ArgOb h A a):HOk P w (argH K h A) h:=fun b u q=>by
 obtain⟨_,vs,h1,h2,⟨e,rfl⟩ |⟨e,rfl⟩⟩:=Z6e ar q
 ·exact⟨e,by rw [Z0c];exact h1,vs,_,Z3X h2,e⟩
 ·exact⟨e,by rw [Z0c];exact h1,vs,Z3X h2,_,e,rfl,_,rfl⟩
theorem Z6f{c c':Value}{vs us:List Value}(e:(some { cls:=c,data:=.seq vs.toArray }:Option Obj)=some { cls:=c',data:=.seq us.toArray }):c=c'∧vs=us:=by
 have e1:=Option.some.inj e
 have e2:c=c':=congrArg Obj.cls e1
 have e3:Data.seq vs.toArray=Data.seq us.toArray:=congrArg Obj.data e1
 injection e3 with e4
 refine⟨e2,?_⟩
 have e5:=congrArg Array.toList e4
 simpa using e5
theorem argL(KX:K.In h)(ar:∀ a∈A,ArgOb h A a){a:Addr}{vs:List Value}(ha:a∈A)(e:h.get? a=some { cls:=.type "list",data:=.seq vs.toArray }):(∀ u∈vs,OkU A u)∧SqL K (argH K h A) a (vs.map toV):=by
 obtain⟨us,h1,h2,h3⟩:=ar a ha
 have hu:us=vs:=by
  rcases h3 with q |q
  ·rw [e]at q
   exact(Z6f q).2.symm
  ·rw [e]at q
   exact absurd (Value.type.inj (Z6f q).1) (by decide)
 subst hu
 refine⟨h2,?_⟩
 cases hk:K.lookup a with
 |none=>exact .inl (.inr ⟨_,by rw [Z6a ha hk e,Z8S]⟩)
 |some o =>
  have e2:=KX a o hk
  rw [e]at e2
  obtain rfl:=Option.some.inj e2
  exact .inr ⟨_,us.toArray,_,hk,rfl,rfl,rfl,by rw [Z0r];exact h1,by simpa using Z3X h2⟩
theorem argT(KX:K.In h)(ar:∀ a∈A,ArgOb h A a){a:Addr}{vs:List Value}(ha:a∈A)(e:h.get? a=some { cls:=.type "tuple",data:=.seq vs.toArray }):(∀ u∈vs,OkU A u)∧SqT K (argH K h A) a (vs.map toV):=by
 obtain⟨us,h1,h2,h3⟩:=ar a ha
 have hu:us=vs:=by
  rcases h3 with q |q
  ·rw [e]at q
   exact absurd (Value.type.inj (Z6f q).1) (by decide)
  ·rw [e]at q
   exact(Z6f q).2.symm
 subst hu
 refine⟨h2,?_⟩
 cases hk:K.lookup a with
 |none=>exact .inl (.inr ⟨_,by rw [Z6a ha hk e,Z8L]⟩)
 |some o =>
  have e2:=KX a o hk
  rw [e]at e2
  obtain rfl:=Option.some.inj e2
  exact .inr ⟨_,us.toArray,_,hk,rfl,rfl,by rw [Z0r];exact h1,by simpa using Z3X h2⟩
mutual
theorem dw_one{Pm:Params}(KX:K.In h)(ar:∀ a∈A,ArgOb h A a):∀ (d:WData)(v:Value),Well Pm h v d→plW d=true→OkU A v→Dw K (argH K h A) (toV v) d
 |.none,_,x,_,_=>by
  cases x
  exact .non
 |.bool b,_,x,_,_=>by
  cases x
  exact .bl b
 |.int i,_,x,_,_=>by
  cases x
  exact .int i
 |.str s,_,x,_,_=>by
  cases x
  exact .str s
 |.bytes b,_,x,_,_=>by
  cases x
  have z:=Dw.byt (K:=K) (H:=argH K h A) b.toArray
  exact z
 |.list ds,_,x,p,hu=>by
  obtain⟨a,vs,rfl,ho,hall⟩:=Z7w x
  obtain⟨h2,hs⟩:=argL KX ar hu ho
  exact .lst hs (Z6Z KX ar ds _ hall p h2)
 |.tuple ds,_,x,p,hu=>by
  obtain⟨a,vs,rfl,ho,hall⟩:=Z6Y x
  obtain⟨h2,hs⟩:=argT KX ar hu ho
  exact .tup hs (Z6Z KX ar ds _ hall p h2)
 |.float _,_,_,p,_=>Bool.noConfusion (show false=true from p)
 |.dict _,_,_,p,_=>Bool.noConfusion (show false=true from p)
 |.bytearray _,_,_,p,_=>Bool.noConfusion (show false=true from p)
 |.set _,_,_,p,_=>Bool.noConfusion (show false=true from p)
 |.frozenset _,_,_,p,_=>Bool.noConfusion (show false=true from p)
 |.obj _ _,_,_,p,_=>Bool.noConfusion (show false=true from p)
theorem Z6Z{Pm:Params}(KX:K.In h)(ar:∀ a∈A,ArgOb h A a):∀ (ds:List WData)(vs:List Value),WellAll Pm h vs ds→plWs ds=true→(∀ u∈vs,OkU A u)→DwAll K (argH K h A) (vs.map toV) ds
 |[],_,x,_,_=>by
  cases x
  exact .nil
 |d::ds,_,x,p,hu=>by
  obtain⟨v,vs,rfl,x1,x2⟩:=Z7J x
  have q:plW d=true∧plWs ds=true:=Z1a.mp p
  exact .cons (dw_one KX ar d v x1 q.1 (hu _ (Z0g ..))) (Z6Z KX ar ds vs x2 q.2 fun u m=>hu u (Z0f _ m))
end
end
theorem Z7m{ds:List WData}(h:WData.layableAll ds=true):∀ d∈ds,d.weight≤1048576:=fun d hd =>
 (PySem.W.layableW_iff.mp (Z0R.mp h d hd)).2.2
theorem Z6Q:∀ (cs:List Codec)(a:Codec.denoteAll cs),(Codec.encAll cs a).length=cs.length
 |[],_=>rfl
 |c::cs,a=>by
  show(Codec.encAll cs a.2).length+1=cs.length+1
  rw [Z6Q cs a.2]
end L2
end
section
namespace EX
open PySem PySem.Spec PyProof.Rows L2
abbrev xob(C:Addr)(dx:Option Addr)(vs:Array Value)(sl:Array (Option Value)):Obj:={ cls:=.ref C,dict:=dx,data:=.fields vs,slots:=sl }
structure Kp(fs ch:List Addr)(h h':Heap):Prop where
 keep:∀ b o,h.get? b=some o→b∉ch→b∉fs→h'.get? b=some o
 slot:∀ b o,h.get? b=some o→b∉ch→∃ sl,h'.get? b=some { o with slots:=sl }
theorem Kp.trans{fs ch ch':List Addr}{h h1 h2:Heap}(x:Kp fs ch h h1)(y:Kp fs ch' h1 h2):Kp fs (ch++ch') h h2:=by
 refine⟨fun b o e n1 n2=>?_,fun b o e n1=>?_⟩
 ·rw [Z0k,not_or]at n1
  exact y.keep b o (x.keep b o e n1.1 n2) n1.2 n2
 ·rw [Z0k,not_or]at n1
  obtain⟨sl,e1⟩:=x.slot b o e n1.1
  obtain⟨sl',e2⟩:=y.slot b _ e1 n1.2
  exact⟨sl',e2⟩
structure Fly(z:Bool)(h:Heap)(e T C:Addr)(dx:Option Addr)(fl:Value):Prop where
 obj:∃ vs sl,h.get? e=some (xob C dx vs sl)∧vs[1]?=some (.ref T)
 tb:∃ oT ts,h.get? T=some oT∧oT.data=.fields ts∧ts[3]?=some fl
 ne:T≠e
 cx:z=true→∀ o vs,h.get? e=some o→o.data=.fields vs→vs[2]?=some .none
def Fre(z:Bool)(h:Heap)(e C:Addr)(dx:Option Addr):Prop:=∃ vs sl,h.get? e=some (xob C dx vs sl)∧vs[1]?=some .none∧(z=true→vs[2]?=some .none)
section
variable{M:Model}{A:Around}{E:Value→Shared→Prop}{s:Shared}{z:Bool}
theorem Z5O{base:Heap}{env:Env}{outer:List Env}{L e C:Addr}{dx:Option Addr}{vs:Array Value}{sl:Array (Option Value)}{head:Value}{had:Bool}{Q:Unit→Shared→Prop}
  (hfr:A.frames=some (env::outer))(hl:s.heap.FunFrames base (env::outer))(hf:env.frame=some L)(he:s.heap.get? e=some (xob C dx vs sl))(hsz:1<vs.size)(hcx:z=true→vs[2]?=some .none)
  (h:∀ h' T,Fly z h' e T C dx (rawInt L)→s.heap.get? T=none→Kp (frs (env::outer)) [e] s.heap h'→Q () { s with heap:=h' }) :
  wpAny M A (do let a ←frameOf env;let pl ←entryPlaceOf L had;let b ←EntryCells.newEntry head a .none (rawInt L) .none pl;setField (.ref e) 1 b) Q E s:=by
 have hne:e∉frs (env::outer):=fun hm=>by
  obtain⟨_,o,ho,hnf⟩:=hl.mem hm
  rw [he]at ho
  cases ho
  exact hnf vs rfl
 refine wpAny_bind (wpAny_frameOf_fun hfr hl hf fun h1 hs=>wpAny_bind (wpAny_entryPlaceOf fun pl hp=>?_))
 unfold EntryCells.newEntry newFields
 refine wpAny_bind (wpAny_newObj_type ?_ (hp.sizeOk5 ..))
 have e1:h1.get? e=some (xob C dx vs sl):=(hs.2.1 e hne).trans he
 have nT:s.heap.get? h1.objs.size=none:=Z1l (by rw [hs.1];exact Z0e _)
 have neT:h1.objs.size≠e:=Z1n (Z0h e1)
 refine wpAny_setField (Z0m _ e1) rfl hsz (h _ h1.objs.size ⟨⟨vs.setIfInBounds 1 (.ref h1.objs.size),sl,?_,by simp [hsz]⟩,⟨_,_,(Z0H _ _ neT.symm).trans (Z0C h1 rfl),rfl,?_⟩,neT,?_⟩ nT ⟨?_,?_⟩)
 ·exact Z0M (Obj.mapFields (·.setIfInBounds 1 (Value.ref h1.objs.size))) (Z0m _ e1) rfl
 ·first |(simp;done) |(rcases hp with rfl |⟨_,_,_,_,_,_,_,rfl⟩<;>simp)
 ·intro hz o vs' q1 q2
  have q4:=Option.some.inj (q1.symm.trans (Z0M (Obj.mapFields (·.setIfInBounds 1 (Value.ref h1.objs.size))) (Z0m _ e1) rfl))
  subst q4
  have q5:vs'=vs.setIfInBounds 1 (Value.ref h1.objs.size):=by
   have q6:(Data.fields (vs.setIfInBounds 1 (Value.ref h1.objs.size)))=.fields vs':=q2
   cases q6;rfl
  subst q5
  rw [Array.getElem?_setIfInBounds_ne (by decide)]
  exact hcx hz
 ·intro b o q n1 n2
  rw [Z0H _ _ (fun z=>n1 (by rw [←z];exact Z0i.mpr rfl))]
  exact Z0m _ ((hs.2.1 b n2).trans q)
 ·intro b o q n1
  obtain⟨sl',q'⟩:=hs.2.2 b o q
  exact⟨sl',(Z0H _ _ (fun z=>n1 (by rw [←z];exact Z0i.mpr rfl))).trans (Z0m _ q')⟩
theorem Z6M{base:Heap}{env:Env}{outer:List Env}{L e C:Addr}{dx:Option Addr}{Q:Unit→Shared→Prop}
  (hfr:A.frames=some (env::outer))(hl:s.heap.FunFrames base (env::outer))(hf:env.frame=some L)(he:Fre z s.heap e C dx)
  (h:∀ h' T,Fly z h' e T C dx (rawInt L)→s.heap.get? T=none→Kp (frs (env::outer)) [e] s.heap h'→Q () { s with heap:=h' }):wpAny M A (noteFrame (.ref e) env) Q E s:=by
 obtain⟨vs,sl,e1,e2,e2x⟩:=he
 unfold noteFrame
 rw [hf]
 refine wpAny_bind (wpAny_field e1 rfl e2 ?_)
 rw [if_neg (by decide)]
 exact Z5O hfr hl hf e1 (Z0S.mp e2).1 e2x h
theorem Z5Z{base:Heap}{env:Env}{outer:List Env}{L e T C:Addr}{dx:Option Addr}{Q:Unit→Shared→Prop}
  (hfr:A.frames=some (env::outer))(hl:s.heap.FunFrames base (env::outer))(hf:env.frame=some L)(he:Fly z s.heap e T C dx .none)
  (h:∀ h' T',Fly z h' e T' C dx (rawInt L)→s.heap.get? T'=none→Kp (frs (env::outer)) [T,e] s.heap h'→Q () { s with heap:=h' }):wpAny M A (noteFrame (.ref e) env) Q E s:=by
 obtain⟨⟨vs,sl,e1,e2⟩,⟨oT,ts,t1,t2,t3⟩,ne,cx⟩:=he
 unfold noteFrame
 rw [hf]
 refine wpAny_bind (wpAny_field e1 rfl e2 ?_)
 rw [if_pos (show(Value.ref T != Value.none)=true by simp)]
 refine wpAny_bind (wpAny_field t1 t2 t3 ?_)
 rw [if_neg (show ¬ ((Value.none==rawInt L)=true) by simp [rawInt])]
 refine wpAny_bind (wpAny_setField t1 t2 (Z0S.mp t3).1 ?_)
 have oth:∀ b,b≠T→(s.heap.update T (Obj.mapFields (·.setIfInBounds 3 Value.none))).get? b=s.heap.get? b:=fun b hb=>Z0H _ _ (Ne.symm hb)
 have nr:∀ b o,s.heap.get? b=some o→(∀ vs,o.data≠.fields vs)→b≠T:=fun b o hb hn q=>by
  rw [q,t1]at hb
  cases hb
  exact hn ts t2
 refine Z5O hfr (hl.of_keeps fun b o hb hn=>⟨o,(oth b (nr b o hb hn)).trans hb,rfl⟩) hf ((oth e ne.symm).trans e1) (Z0S.mp e2).1 (fun hz=>cx hz _ _ e1 rfl) fun h' T' f n k=>h h' T' f ?_ ?_
 ·cases q:s.heap.get? T' with
  |none=>rfl
  |some o =>
   by_cases z:T'=T
   ·have z1:=Z0M (Obj.mapFields (·.setIfInBounds 3 Value.none)) t1 (Obj.isFreed_of_fields (Obj.data_mapFields t2 _))
    rw [z]at n
    rw [show _=_ from z1]at n
    cases n
   ·rw [oth T' z,q]at n
    cases n
 ·have k0:Kp (frs (env::outer)) [T] s.heap (s.heap.update T (Obj.mapFields (·.setIfInBounds 3 Value.none))) :=
   ⟨fun b o q n1 _=>(oth b fun z=>n1 (by rw [z];exact Z0i.mpr rfl)).trans q,fun b o q n1=>⟨o.slots,(oth b fun z=>n1 (by rw [z];exact Z0i.mpr rfl)).trans q⟩⟩
  exact k0.trans k
theorem land_{fs:List Addr}{e T C:Addr}{dx:Option Addr}{fl:Value}{Q:Unit→Shared→Prop}(he:Fly z s.heap e T C dx fl)
  (h:∀ h',Fly z h' e T C dx .none→Kp fs [T] s.heap h'→Q () { s with heap:=h' }):wpAny M A (setFlight (.ref e) none) Q E s:=by
 obtain⟨⟨vs,sl,e1,e2⟩,⟨oT,ts,t1,t2,t3⟩,ne,cx⟩:=he
 have sz:=(Z0S.mp t3).1
 have oth:∀ b,b≠T→(s.heap.update T (Obj.mapFields (·.setIfInBounds 3 Value.none))).get? b=s.heap.get? b:=fun b hb=>Z0H _ _ (Ne.symm hb)
 refine wpAny_setFlight_none e1 rfl e2 t1 t2 sz (h _ ⟨⟨vs,sl,(oth e ne.symm).trans e1,e2⟩,⟨_,_,Z0M _ t1 (Obj.isFreed_of_fields (Obj.data_mapFields t2 _)),Obj.data_mapFields t2 _,by simp [sz]⟩,ne,fun hz o vs q=>cx hz o vs ((oth e ne.symm).symm.trans q)⟩ ⟨?_,?_⟩)
 ·exact fun b o q n1 _=>(oth b fun z=>n1 (by rw [z];exact Z0i.mpr rfl)).trans q
 ·exact fun b o q n1=>⟨o.slots,(oth b fun z=>n1 (by rw [z];exact Z0i.mpr rfl)).trans q⟩
end
end EX
end
section
namespace EX
open PySem PySem.Spec PyProof.Rows L2
open Builtin Builtin.ObjectAttr
section
variable{prog:Program}{w:World}{A:Around}{E:Value→Shared→Prop}{h:Heap}{g:Array GenState}{d:Drawn}{t:Nat}{os:OsState}
variable{nm q:Str}{C N x:Addr}{bs bm:List Value}{sn:List Str}{sub:List Value}{ab:Bool}{col:Option Bool}{dd:Option Addr}{k0 k1 k2 k3 k5:Option Value}{B newId sa owner:String}
 {mN mA:Str→Option Value}{name:Str}{v:Value}{o:Obj}
theorem Z8d{tk:Tok}{Q:Fin→Shared→Prop}(SF:StoreFacts B bm sa owner)
  (hC:h.get? C=some (excClassObj nm q C N bs bm true sn sub ab col dd k0 k1 k2 k3 k5 newId))(hn:h.Ns N mN)(hna:mN name=none)
  (hB:typeLookup (.type B) name=pure none)(hx:h.get? x=some o)(hc:o.cls=.ref C)(hdn:o.dict=none)(hnc:∀ c,o.data≠.cls c)
  (hq:∀ h' tk',h'.get? x=some { o with dict:=some h.objs.size }→h'.Ns1 h.objs.size (fun y=>if y=name then some v else none)→(∀ b o',b≠x→h.get? b=some o'→h'.get? b=some o')→Q (.done (.ret .none)) ⟨h',g,d,tk',os⟩) :
  wpAny (model prog w) A (Builtin.«object.__setattr__» ⟨[.ref x,.str name tk,v],[]⟩) Q E ⟨h,g,d,t,os⟩:=by
 have hpass:=SF.passes (.ref x)
 unfold Builtin.«object.__setattr__»
 repeat (first |rw [refuse_eq] |(rw [refuseLoop_ref,hpass]) |(with_reducible refine wpAny_loadPart_at hx ?_;rw [hc]) |with_reducible refine wpAny_mroOf_exc hC ?_ |(with_reducible refine wpAny_typeLookup_exc hC hn SF.mro hB ?_;rw [hna]) |wp_step)
 rw [hdn,if_neg (by simp [typeHasDict])]
 split
 ·rename_i z
  cases z
 split
 ·rename_i c z
  exact absurd z (hnc c)
 have x1:(h.push { cls:=.type "dict",data:=.dict #[] }).get? x=some o:=Z0m _ hx
 have xs:x≠h.objs.size:=Z0o (Z0h hx)
 refine wpAny_bind (wpAny_alloc' (wpAny_bind (wpAny_update' x1 (wpAny_pure ?_))))
 have gd:((h.push { cls:=.type "dict",data:=.dict #[] }).update x fun o=>{ cls:=o.cls,dict:=some h.objs.size,data:=o.data,slots:=o.slots }).get? h.objs.size
   = some { cls:=.type "dict",data:=.dict #[] }:=(Z0H _ _ xs).trans (Heap.get?_push_at rfl rfl)
 have n0:((h.push { cls:=.type "dict",data:=.dict #[] }).update x fun o=>{ cls:=o.cls,dict:=some h.objs.size,data:=o.data,slots:=o.slots }).Ns h.objs.size (fun _=>none) :=
  ⟨_,#[],_,gd,rfl,fun e he=>absurd he (by simp),fun _=>rfl⟩
 show wpAny _ _ (storeInDict h.objs.size (.str name tk) name v) _ _ _
 unfold storeInDict newKeyGuard
 refine wpAny_bind (wpAny_pure (wpAny_bind (wpAny_nsSet1 (Heap.Ns1.of_empty n0) fun h' n1 hs=>?_)))
 obtain⟨oD,esD,epD,a1,a2,a3⟩:=n1.count (Within.cons name v Within.nil)
 refine wpAny_bind (wpAny_lookBehind a1 (by rw [a2];exact pastItsLine_dict (Z0x a3 (by rw [Z0s,Z0Q,sizeLine_eq];omega))) ?_)
 wp_walk
 refine hq h' _ ?_ ?_ fun b ob hbx hb=>?_
 ·refine(hs.2 x xs).trans (Z0M _ x1 ?_)
  have hfr:=(Heap.get?_some_iff.mp hx).2
  obtain⟨oc,od,odt,osl⟩:=o
  cases odt<;>first |rfl |exact hfr
 ·obtain⟨o',es,ep,e1,e2,e3,eu,e4⟩:=n1
  exact⟨o',es,ep,e1,e2,e3,eu,fun y=>by rw [e4 y]⟩
 ·exact(hs.2 b (Z0o (Z0h hb))).trans ((Z0H _ _ (Ne.symm hbx)).trans (Z0m _ hb))
theorem Zap{Q:Unit→Shared→Prop}(SF:StoreFacts B bm sa owner)
  (hC:h.get? C=some (excClassObj nm q C N bs bm true sn sub ab col dd k0 k1 k2 k3 k5 newId))(hn:h.Ns N mN)(hns:mN "__setattr__" = none)(hna:mN name=none)
  (hB:typeLookup (.type B) name=pure none)(hx:h.get? x=some o)(hc:o.cls=.ref C)(hdn:o.dict=none)(hnc:∀ c,o.data≠.cls c)
  (hq:∀ h' tk',h'.get? x=some { o with dict:=some h.objs.size }→h'.Ns1 h.objs.size (fun y=>if y=name then some v else none)→(∀ b o',b≠x→h.get? b=some o'→h'.get? b=some o')→Q () ⟨h',g,d,tk',os⟩) :
  wpAny (model prog w) A (setAttr (.ref x) name v) Q E ⟨h,g,d,t,os⟩:=by
 have f3:=SF.slot.bind (.ref x)
 unfold setAttr callSpecial? specialOf
 repeat (any_goals (first |assumption |(with_reducible refine wpAny_loadPart_at hx ?_;rw [hc]) |(with_reducible refine wpAny_typeLookup_exc hC hn SF.mro SF.slot.lookup ?_;rw [hns]) |wp_step))
 refine codeAny_call_builtin SF.slot.plain SF.entry (wpAny_check_sa SF hC hx hc (Z8d SF hC hn hna hB hx hc hdn hnc fun h' tk' b1 b2 b3=>?_))
 repeat (any_goals (first |assumption |wp_step))
 exact hq h' tk' b1 b2 b3
theorem Z7U{dx:Addr}{ns:List Str}{Q:Unit→Shared→Prop}(SF:StoreFacts B bm sa owner)
  (hC:h.get? C=some (excClassObj nm q C N bs bm true sn sub ab col dd k0 k1 k2 k3 k5 newId))(hn:h.Ns N mN)(hns:mN "__setattr__" = none)(hna:mN name=none)
  (hB:typeLookup (.type B) name=pure none)(hxC:x≠C)(hx:h.get? x=some o)(hc:o.cls=.ref C)(hdx:o.dict=some dx)(hnc:∀ c,o.data≠.cls c)(hne:dx≠x)(hns1:h.Ns1 dx mA)(hw:Within mA ns)(hsz:ns.length≤sizeLine)
  (hq:∀ h' tk',h'.get? x=some o→h'.Ns1 dx (fun y=>if y=name then some v else mA y)→(∀ b o',b≠x→b≠dx→h.get? b=some o'→h'.get? b=some o')→Q () ⟨h',g,d,tk',os⟩) :
  wpAny (model prog w) A (setAttr (.ref x) name v) Q E ⟨h,g,d,t,os⟩:=by
 refine store_attr SF hC hn hns hna hB hxC ⟨o,hx,hc,hnc,.inr ⟨dx,hdx,hne,hns1⟩⟩ (fun h' tk' b1 b2 b3=>?_) hw hsz
 obtain⟨o1,c1,c2,c3,c4,c5⟩:=b3 o hx
 have eo:o1=o:=by
  obtain⟨p1,p2,p3,p4⟩:=o
  obtain⟨q1,q2,q3,q4⟩:=o1
  have z:=c5 dx hdx
  dsimp only at c2 c3 c4 z hdx
  rw [c2,c3,c4,z,hdx]
 rw [eo]at c1
 refine hq h' tk' c1 ?_ fun b o' n1 n2 e=>b2 b o' n1 (fun o0 dx' e0 e1=>?_) e
 ·obtain⟨o2,d1,_,_,d2⟩:=b1
  rw [c1]at d1
  cases d1
  rcases d2 with⟨z,_⟩ |⟨d',z,_,n1⟩
  ·rw [hdx]at z;cases z
  ·rw [hdx]at z;cases z;exact n1
 ·rw [hx]at e0
  cases e0
  rw [hdx]at e1
  cases e1
  exact n2
end
end EX
end
section
namespace EX
open PySem PySem.Spec PyProof.Rows L2
abbrev bmX:List Value:=[.type "Exception",.type "BaseException",.type "object"]
theorem ns_some{K:Z0a}{h:Heap}{N:Addr}{m:Str→Option Value}{n:Str}{v:Value}(X:K.In h)(G:h.Ns N m)(e:PySem.W.nsIn K N n=some (some v)):m n=some v:=by
 obtain⟨o,es,ep,ho,hd,_,hf⟩:=G
 unfold PySem.W.nsIn at e
 split at e
 ·rename_i c d es' n' sl q
  have z:=X _ _ q
  rw [ho]at z
  cases z
  cases hd
  split at e
  ·rename_i en he
   cases e
   rw [←hf]
   unfold nsFind findBy
   rw [←Array.find?_toList,he]
   rfl
  ·rename_i he
   split at e<;>cases e
 ·cases e
structure XC(K:Z0a)(C fI:Addr)(fs:List Str):Prop where
 ex:∃ (nm q:Str)(N:Addr)(bs:List Value)(sn:List Str)(sub:List Value)(ab:Bool)(col:Option Bool)(dd:Option Addr)(k0 k1 k2 k3 k5:Option Value),
  K.lookup C=some (excClassObj nm q C N bs bmX true sn sub ab col dd k0 k1 k2 k3 k5 "Exception.__new__")∧PySem.W.nsOkIn K N=true∧PySem.W.nsIn K N "__init__" = some (some (.ref fI)) ∧
  PySem.W.nsIn K N "__setattr__" = some none∧PySem.W.nsIn K N "__getattribute__" = some none∧PySem.W.nsIn K N "__getattr__" = some none∧∀ f∈fs,PySem.W.nsIn K N f=some none
 base:∀ f∈fs,typeLookup (.type "Exception") f=pure none
 fn:PySem.W.isFn K (.ref fI)=true
 kp:PySem.W.keepIn K (.ref C)=true
theorem XC.at{K:Z0a}{C fI:Addr}{fs:List Str}(c:XC K C fI fs){h:Heap}(X:K.In h):∃ (nm q:Str)(N:Addr)(bs:List Value)(sn:List Str)(sub:List Value)(ab:Bool)(col:Option Bool)(dd:Option Addr)(k0 k1 k2 k3 k5:Option Value)(m:Str→Option Value),
  h.get? C=some (excClassObj nm q C N bs bmX true sn sub ab col dd k0 k1 k2 k3 k5 "Exception.__new__")∧h.Ns N m∧m "__init__" = some (.ref fI) ∧
  m "__setattr__" = none∧m "__getattribute__" = none∧m "__getattr__" = none∧∀ f∈fs,m f=none:=by
 obtain⟨nm,q,N,bs,sn,sub,ab,col,dd,k0,k1,k2,k3,k5,a1,a2,a3,a4,a5,a6,a7⟩:=c.ex
 have G:h.Ns N (h.nsMap N):=.of_isNs (PySem.W.isNs_of_in X a2)
 exact⟨nm,q,N,bs,sn,sub,ab,col,dd,k0,k1,k2,k3,k5,h.nsMap N,X _ _ a1,G,ns_some X G a3,Z0P X G a4,Z0P X G a5,Z0P X G a6,fun f hf=>Z0P X G (a7 f hf)⟩
structure XP(K:Z0a)(C:Addr):Prop where
 ex:∃ (nm q:Str)(N:Addr)(bs:List Value)(sn:List Str)(sub:List Value)(ab:Bool)(col:Option Bool)(dd:Option Addr)(k0 k1 k2 k3 k5:Option Value),
  K.lookup C=some (excClassObj nm q C N bs bmX true sn sub ab col dd k0 k1 k2 k3 k5 "Exception.__new__")∧PySem.W.nsOkIn K N=true∧PySem.W.nsIn K N "__init__" = some none
 kp:PySem.W.keepIn K (.ref C)=true
def XK1(K:Z0a)(C:Addr):Prop:=∃ (nm q:Str)(N:Addr)(bs:List Value)(sn:List Str)(sub:List Value)(ab:Bool)(col:Option Bool)(dd:Option Addr)(k0 k1 k2 k3 k5:Option Value),
  K.lookup C=some (excClassObj nm q C N bs bmX true sn sub ab col dd k0 k1 k2 k3 k5 "Exception.__new__")
theorem XC.k1{K:Z0a}{C fI:Addr}{fs:List Str}(c:XC K C fI fs):XK1 K C:=by
 obtain⟨nm,q,N,bs,sn,sub,ab,col,dd,k0,k1,k2,k3,k5,a1,_⟩:=c.ex
 exact⟨nm,q,N,bs,sn,sub,ab,col,dd,k0,k1,k2,k3,k5,a1⟩
theorem XP.k1{K:Z0a}{C:Addr}(c:XP K C):XK1 K C:=by
 obtain⟨nm,q,N,bs,sn,sub,ab,col,dd,k0,k1,k2,k3,k5,a1,_⟩:=c.ex
 exact⟨nm,q,N,bs,sn,sub,ab,col,dd,k0,k1,k2,k3,k5,a1⟩
def Z6u(f1 f2 f3:Str)(b:List Stmt):Prop:=∃ p1 p2 p3 p4 p5 p6 p7 p8 p9 p10 p11 p12:Pos,
 b=[.Assign [.Attribute (.Name "self" p1) f1 p2] (.Name f1 p3) p4,.Assign [.Attribute (.Name "self" p5) f2 p6] (.Name f2 p7) p8,.Assign [.Attribute (.Name "self" p9) f3 p10] (.Name f3 p11) p12]
def flt(f1 f2 f3:Str)(v1 v2 v3:Value):Str→Option Value:=fun y=>if y=f3 then some v3 else if y=f2 then some v2 else if y=f1 then some v1 else none
section
variable{prog:Program}{w:World}{A:Around}{E:Value→Shared→Prop}{s:Shared}{K:Z0a}{C fI:Addr}{f1 f2 f3:Str}
theorem init_run{e:Addr}{v1 v2 v3:Value}{us:List Value}{vs:Array Value}{qn:Str}{st:Stmt}{dV:Value}{fd:FuncData}{Q:Value→Shared→Prop}(KX:K.In s.heap)(lim:s.heap.NoLimit)(c:XC K C fI [f1,f2,f3])
  (F:∃ (oc:Value)(od:Option Addr)(kV doc pm:Value)(an:Option Addr)(cdv ct:Value)(osl:Array (Option Value)),
    fd=PySem.W.fnOf "__init__" qn (Z2P st) (Z2o st) (Z2b st) dV kV doc pm an cdv ct∧K.lookup fI=some ⟨oc,od,.func fd,osl⟩∧PySem.W.codeIn K cdv qn=true)
  (S:Z2e ["self",f1,f2,f3] ["self",f1,f2,f3] (Z2b st))(bd:BindsTo s fd ⟨.ref e::us,[]⟩ ((["self",f1,f2,f3]:List Str).zip [.ref e,v1,v2,v3]))(body:Z6u f1 f2 f3 (Z2o st))
  (sw:∀ (env:Env)(p1 p2 p3 p4:Pos)(f:Str),swapsWith (.Name f p3) (some (.Attribute (.Name "self" p1) f p2)) p4.line env=pure false)
  (loc:∀ x∈(["self",f1,f2,f3]:List Str),(Z2b st).names.lookup x=some .local)(nd1:(f1==("__debug__" : Str))=false)(nd2:(f2==("__debug__" : Str))=false)(nd3:(f3==("__debug__" : Str))=false)
  (hdp:A.depth<recursionLimit)(heK:K.lookup e=none)
  (hx:s.heap.get? e=some { cls:=.ref C,dict:=none,data:=.fields vs,slots:=#[] })
  (hq:∀ h' dx tk,h'.get? e=some (xob C (some dx) vs #[])→h'.Ns1 dx (flt f1 f2 f3 v1 v2 v3)→s.heap.get? dx=none→dx≠e→(∀ b o,b≠e→s.heap.get? b=some o→h'.get? b=some o)→Q .none { s with heap:=h',toks:=tk }) :
  wpAny (model prog w) A (call (.ref fI) (.ref e::us)) Q E s:=by
 obtain⟨oc,od,kV,doc,pm,an,cdv,ct,osl,rfl,lk,hcd⟩:=F
 obtain⟨p1,p2,p3,p4,p5,p6,p7,p8,p9,p10,p11,p12,hbd⟩:=body
 have hkind:∀ y∈(["self",f1,f2,f3]:List Str).zip [Value.ref e,v1,v2,v3],(Z2b st).names.lookup y.1=some .local∨((Z2b st).names.lookup y.1=some .cell∧((cellsFrom (s.heap.objs.size+1) (Z2b st).names []).lookup y.1).isSome=true) :=
  fun⟨n,v⟩ hy=>.inl (loc n (Z1y hy).1)
 refine wpAny_call (codeAny_call_function hdp (KX _ _ lk) rfl S.co S.gen rfl (PySem.W.codeRec_of KX hcd) (bd _ _ _ _ ?_))
 refine wpAny_newFunctionEnv_cells S.kind hkind fun env he s1 x=>?_
 refine⟨lim.keeps x.toInCall.keep,codeAny_func ?_⟩
 have ek:env.scope.kind=.function:=by rw [he];exact S.kind
 have eL:env.locals=s.heap.objs.size:=by rw [he];rfl
 have kl:∀ n∈(["self",f1,f2,f3]:List Str),env.kindOf n=some .local:=fun n hn=>by rw [he];exact loc n hn
 have N1:=x.toInCall.ns
 have g0:∀ {i:Nat}{n:Str}{v:Value},(["self",f1,f2,f3]:List Str)[i]?=some n→([Value.ref e,v1,v2,v3]:List Value)[i]?=some v →
   bindL env.kindOf ((["self",f1,f2,f3]:List Str).zip [Value.ref e,v1,v2,v3]) (fun _=>none) n=some v :=
  fun{i n v} a b=>Z5F S.nd a b (kl n (Z0z a))
 have gs:=g0 (i:=0) (n:="self") rfl rfl
 have g1:=g0 (i:=1) (n:=f1) rfl rfl
 have g2:=g0 (i:=2) (n:=f2) rfl rfl
 have g3:=g0 (i:=3) (n:=f3) rfl rfl
 have m0:=kl "self" (by simp)
 have m1:=kl f1 (by simp)
 have m2:=kl f2 (by simp)
 have m3:=kl f3 (by simp)
 obtain⟨hh,tk,rfl,kp⟩:=x.done
 have ex1:=kp _ _ hx
 have KX1:K.In hh:=KX.keeps kp
 have neL:env.locals≠e:=by rw [eL];exact Z1n (Z0h hx)
 show wpAny _ _ (execs (Z2o st) _) _ _ _
 rw [hbd]
 have tw:∀ (h:Heap),K.In h→∃ (nm q:Str)(N:Addr)(bs:List Value)(sn:List Str)(sub:List Value)(ab:Bool)(col:Option Bool)(dd:Option Addr)(k0 k1 k2 k3 k5:Option Value)(m:Str→Option Value),
  h.get? C=some (excClassObj nm q C N bs bmX true sn sub ab col dd k0 k1 k2 k3 k5 "Exception.__new__")∧h.Ns N m∧m "__setattr__" = none∧m f1=none∧m f2=none∧m f3=none:=fun h X=>by
  obtain⟨nm,q,N,bs,sn,sub,ab,col,dd,k0,k1,k2,k3,k5,m,c1,c2,c3,c4,c5,c6,c7⟩:=c.at X
  exact⟨nm,q,N,bs,sn,sub,ab,col,dd,k0,k1,k2,k3,k5,m,c1,c2,c4,c7 f1 (by simp),c7 f2 (by simp),c7 f3 (by simp)⟩
 have KC:∃ oC,K.lookup C=some oC:=let ⟨_,_,_,_,_,_,_,_,_,_,_,_,_,_,a,_⟩:=c.ex;⟨_,a⟩
 have heC:e≠C:=by
  rintro rfl
  obtain⟨oC,z⟩:=KC
  rw [heK]at z
  cases z
 obtain⟨nm,q,N,bs,sn,sub,ab,col,dd,k0,k1,k2,k3,k5,m,c1,c2,c3,c4,c5,c6⟩:=tw hh KX1
 refine wpAny_execs_cons (plainObj_wpAny_Assign_Attribute (wpAny_Name (wpAny_loadName_local ek m1 N1 g1 (wpAny_Name (wpAny_loadName_local ek m0 N1 gs ?_))) nd1) (sw ..))
 refine Zap Z1Q c1 c2 c3 c4 (c.base f1 (by simp)) ex1 rfl rfl (fun _ z=>by cases z) fun h2 tk2 b1 b2 b3=>?_
 have N2:=N1
 obtain⟨oL,esL,epL,l1,l2,l3,l4⟩:=N2
 have N2:h2.Ns env.locals (bindL env.kindOf ((["self",f1,f2,f3]:List Str).zip [Value.ref e,v1,v2,v3]) (fun _=>none)):=⟨oL,esL,epL,b3 _ _ neL l1,l2,l3,l4⟩
 have KX2:K.In h2:=fun b o z=>b3 b o (fun q=>by subst q;rw [heK]at z;cases z) (KX1 b o z)
 obtain⟨nm,q,N,bs,sn,sub,ab,col,dd,k0,k1,k2,k3,k5,m,c1,c2,c3,c4,c5,c6⟩:=tw h2 KX2
 have nde:hh.objs.size≠e:=Z1n (Z0h ex1)
 have ndL:env.locals≠hh.objs.size:=Z0o (Z0h l1)
 have hhn:hh.get? hh.objs.size=none:=Z1l (Z0e _)
 refine wpAny_execs_cons (plainObj_wpAny_Assign_Attribute (wpAny_Name (wpAny_loadName_local ek m2 N2 g2 (wpAny_Name (wpAny_loadName_local ek m0 N2 gs ?_))) nd2) (sw ..))
 refine Z7U (ns:=[f1]) Z1Q c1 c2 c3 c5 (c.base f2 (by simp)) heC b1 rfl rfl (fun _ z=>by cases z) nde b2 (Within.cons f1 v1 Within.nil) (by rw [sizeLine_eq];show 1≤16777216;decide) fun h3 tk3 d1 d2 d3=>?_
 have N3:h3.Ns env.locals (bindL env.kindOf ((["self",f1,f2,f3]:List Str).zip [Value.ref e,v1,v2,v3]) (fun _=>none)):=⟨oL,esL,epL,d3 _ _ neL ndL (b3 _ _ neL l1),l2,l3,l4⟩
 have KX3:K.In h3:=fun b o z=>d3 b o (fun q=>by subst q;rw [heK]at z;cases z) (fun q=>by subst q;have:=KX1 _ _ z;rw [hhn]at this;cases this) (KX2 b o z)
 obtain⟨nm,q,N,bs,sn,sub,ab,col,dd,k0,k1,k2,k3,k5,m,c1,c2,c3,c4,c5,c6⟩:=tw h3 KX3
 refine wpAny_execs_cons (plainObj_wpAny_Assign_Attribute (wpAny_Name (wpAny_loadName_local ek m3 N3 g3 (wpAny_Name (wpAny_loadName_local ek m0 N3 gs ?_))) nd3) (sw ..))
 refine Z7U (ns:=[f2,f1]) Z1Q c1 c2 c3 c6 (c.base f3 (by simp)) heC d1 rfl rfl (fun _ z=>by cases z) nde d2 (Within.cons f2 v2 (Within.cons f1 v1 Within.nil)) (by rw [sizeLine_eq];show 2≤16777216;decide) fun h4 tk4 j1 j2 j3=>?_
 refine wpAny_execs_nil (hq h4 hh.objs.size tk4 j1 j2 ?_ nde fun b o nb z=>?_)
 ·cases z:s.heap.get? hh.objs.size with
  |none=>rfl
  |some o=>exact absurd (Z0h (kp _ _ z)) (Z0u _)
 ·have z1:=kp _ _ z
  exact j3 b o nb (Z0o (Z0h z1)) (d3 b o nb (Z0o (Z0h z1)) (b3 b o nb z1))
end
structure XInit(K:Z0a)(C fI:Addr)(f1 f2 f3:Str)(d3:Int):Prop where
 c:XC K C fI [f1,f2,f3]
 ex:∃ (qn:Str)(st:Stmt)(dV:Value)(fd:FuncData)(t:Tok),(∃ (oc:Value)(od:Option Addr)(kV doc pm:Value)(an:Option Addr)(cdv ct:Value)(osl:Array (Option Value)),
   fd=PySem.W.fnOf "__init__" qn (Z2P st) (Z2o st) (Z2b st) dV kV doc pm an cdv ct∧K.lookup fI=some ⟨oc,od,.func fd,osl⟩∧PySem.W.codeIn K cdv qn=true) ∧
  Z2e ["self",f1,f2,f3] ["self",f1,f2,f3] (Z2b st)∧Binds K fd ["self",f1,f2,f3] []∧Binds K fd ["self",f1,f2,f3] [.int d3 t]∧Z6u f1 f2 f3 (Z2o st) ∧
  ∀ x∈(["self",f1,f2,f3]:List Str),(Z2b st).names.lookup x=some .local
 sw:∀ (env:Env)(p1 p2 p3 p4:Pos)(f:Str),swapsWith (.Name f p3) (some (.Attribute (.Name "self" p1) f p2)) p4.line env=pure false
 nd1:(f1==("__debug__" : Str))=false
 nd2:(f2==("__debug__" : Str))=false
 nd3:(f3==("__debug__" : Str))=false
abbrev Z4C(t:Addr):Array Value:=#[.ref t,.none,.none,.none,.bool false,.none]
def Arg3(d3:Int)(us:List V)(v1 v2 v3:V):Prop:=us=[v1,v2,v3]∨(us=[v1,v2]∧v3=.int d3)
section
variable{prog:Program}{w:World}{A:Around}{E:Value→Shared→Prop}{s:Shared}{K:Z0a}{C fI:Addr}{f1 f2 f3:Str}{d3:Int}
theorem Z8m{v1 v2 v3:V}{vs:List V}{us:List Value}{Q:Value→Shared→Prop}(KX:K.In s.heap)(lim:s.heap.NoLimit)(T:XInit K C fI f1 f2 f3 d3)(hdp:A.depth+1<recursionLimit)(hv:Arg3 d3 vs v1 v2 v3)(r:Vals vs us)
  (hq:∀ h' e dx t tk u1 u2 u3,RelV v1 u1→RelV v2 u2→RelV v3 u3→h'.get? e=some (xob C (some dx) (Z4C t) #[])→h'.Ns1 dx (flt f1 f2 f3 u1 u2 u3)→s.heap.get? e=none→s.heap.get? dx=none→dx≠e→(∀ b o,s.heap.get? b=some o→h'.get? b=some o)→Q (.ref e) { s with heap:=h',toks:=tk }) :
  wpAny (model prog w) A (call (.ref C) us) Q E s:=by
 obtain⟨nm,q,N,bs,sn,sub,ab,col,dd,k0,k1,k2,k3,k5,m,c1,c2,c3,c4,c5,c6,c7⟩:=T.c.at KX
 obtain⟨qn,st,dV,fd,tt,F,S,hb3,hb2,body,loc⟩:=T.ex
 have F':=F
 obtain⟨oc,od,kV,doc,pm,an,cdv,ct,osl,rfl,lk,hcd⟩:=F'
 have hfc:oc=.type "function":=by
  have z:(K.lookup fI).map (·.cls)=some (.type "function"):=beq_iff_eq.mp (show(PySem.W.typeIn K (.ref fI)==some (.type "function"))=true from T.c.fn)
  rw [lk]at z
  exact Option.some.inj z
 have bds:∃ u1 u2 u3,RelV v1 u1∧RelV v2 u2∧RelV v3 u3∧us.length≤sizeLine∧∀ (s':Shared)(e:Addr),K.In s'.heap→BindsTo s' (PySem.W.fnOf "__init__" qn (Z2P st) (Z2o st) (Z2b st) dV kV doc pm an cdv ct) ⟨.ref e::us,[]⟩ ((["self",f1,f2,f3]:List Str).zip [.ref e,u1,u2,u3]):=by
  rcases hv with rfl |⟨rfl,rfl⟩
  ·cases r with
   |cons r1 r=>cases r with
    |cons r2 r=>cases r with
     |cons r3 r =>
      cases r
      exact⟨_,_,_,r1,r2,r3,(by show 3≤sizeLine;decide),fun s' e X=>hb3 s' [.ref e,_,_,_] X rfl⟩
  ·cases r with
   |cons r1 r=>cases r with
    |cons r2 r =>
     cases r
     exact⟨_,_,.int d3 tt,r1,r2,⟨_,rfl⟩,(by show 2≤sizeLine;decide),fun s' e X=>hb2 s' [.ref e,_,_] X rfl⟩
 obtain⟨u1,u2,u3,r1,r2,r3,hsz,bd⟩:=bds
 obtain⟨hp,g,d,tk,os⟩:=s
 refine wpAny_call_exc_init PySem.F.excBase_Exception c1 c2 c3 (KX _ _ lk) hfc (fun h' e hm=>?_) hsz
 obtain⟨t,t1,t2,t3⟩:=hm.there
 have KX':K.In h':=KX.keeps hm.keeps
 refine init_run (s:=⟨h',g,d,tk,os⟩) (e:=e) (v1:=u1) (v2:=u2) (v3:=u3) KX' (lim.keeps hm.keeps) T.c F S (bd _ e KX') body T.sw loc T.nd1 T.nd2 T.nd3 (by rw [Z6L];exact hdp) ?_ t1 fun h2 dx tk2 b1 b2 b3 b4 b5=>⟨rfl,?_⟩
 ·cases z:K.lookup e with
  |none=>rfl
  |some o =>
   have z1:=KX _ _ z
   rw [hm.new]at z1
   cases z1
 ·refine hq h2 e dx t tk2 u1 u2 u3 r1 r2 r3 b1 b2 hm.new ?_ b4 fun b o z=>b5 b o (fun q=>?_) (hm.keeps _ _ z)
  ·cases z:hp.get? dx with
   |none=>rfl
   |some o =>
    have z1:=hm.keeps _ _ z
    rw [show h'.get? dx=none from b3]at z1
    cases z1
  ·subst q
   rw [hm.new]at z
   cases z
theorem Z9P{Q:Value→Shared→Prop}(KX:K.In s.heap)(T:XP K C)
  (hq:∀ h' e t,h'.get? e=some (xob C none (Z4C t) #[])→s.heap.get? e=none→(∀ b o,s.heap.get? b=some o→h'.get? b=some o)→Q (.ref e) { s with heap:=h' }) :
  wpAny (model prog w) A (call (.ref C) []) Q E s:=by
 obtain⟨nm,q,N,bs,sn,sub,ab,col,dd,k0,k1,k2,k3,k5,a1,a2,a3⟩:=T.ex
 have G:s.heap.Ns N (s.heap.nsMap N):=.of_isNs (PySem.W.isNs_of_in KX a2)
 obtain⟨hp,g,d,tk,os⟩:=s
 refine wpAny_call_exc_sub PySem.F.excBase_Exception (KX _ _ a1) G (Z0P KX G a3) (fun h' e hm=>?_) (by show 0≤sizeLine;decide)
 obtain⟨t,t1,t2,t3⟩:=hm.there
 exact hq h' e t t1 hm.new hm.keeps
end
section
variable{M:Model}{A:Around}{E:Value→Shared→Prop}{env:Env}
variable{nm q:Str}{C N:Addr}{bs bm:List Value}{hdct:Bool}{sn:List Str}{sub:List Value}{ab:Bool}{col:Option Bool}{dd:Option Addr}{k0 k1 k2 k3 k5:Option Value}{newId:String}
theorem Z6W{s:Shared}{x:Sem Value}{Q:Flow→Shared→Prop}(hbase:bm.contains (.type "BaseException")=true)(hh:A.handled=none)
  (h:wpAny M A x (fun v s1=>∃ e d t,v=.ref e∧(∃ nm q N bs hdct sn sub ab col dd k0 k1 k2 k3 k5 newId,s1.heap.get? C=some (excClassObj nm q C N bs bm hdct sn sub ab col dd k0 k1 k2 k3 k5 newId)) ∧
    s1.heap.get? e=some (xob C d (Z4C t) #[])∧E (.ref e) s1) E s):wpAny M A (raiseStmt env (some x) none) Q E s:=by
 have hcB:(Value.ref C::bm).contains (.type "BaseException")=true:=by rw [Z1C,hbase,Bool.or_true]
 unfold raiseStmt
 refine wpAny_bind (wpAny_mono h (fun v s1 h1=>?_) fun _ _ x=>x)
 obtain⟨e,d',t,rfl,⟨nm,q,N,bs,hdct,sn,sub,ab,col,dd,k0,k1,k2,k3,k5,newId,hC⟩,he,hE⟩:=h1
 obtain⟨hp,g,d,tk,os⟩:=s1
 repeat (first |with_reducible refine wpAny_loadPart_at he ?_ |with_reducible refine wpAny_loadPart_at hC ?_ |(with_reducible refine wpAny_isSubtype_exc hC ?_;rw [hcB]) |wp_step)
 exact wpAny_raiseNew_none hh hE
end
theorem obj_in{P:Program}{w:World}{H:Hp}{h:Heap}{a:Addr}{o:HO}(x:ObjOk P w H h a o):∃ q,h.get? a=some q:=by
 cases o with
 |lst xs=>obtain⟨_,_,_,_,e⟩:=x;exact⟨_,e⟩
 |tup xs=>obtain⟨_,_,_,ob,e,_⟩:=x;exact⟨_,e⟩
 |dK kvs=>obtain⟨_,_,_,_,o,_,_,e,_⟩:=x;exact⟨_,e⟩
 |dT kvs=>obtain⟨_,_,_,_,o,_,_,e,_⟩:=x;exact⟨_,e⟩
 |set S n=>obtain⟨o,_,_,_,e,_⟩:=x;exact⟨_,e⟩
 |ins C dx fs=>obtain⟨_,_,_,e,_⟩:=x;exact⟨_,e⟩
 |own y=>exact x
 |xd fs=>obtain⟨_,⟨_,_,_,e,_⟩,_⟩:=x;exact⟨_,e⟩
 |rng lo hi=>obtain⟨_,_,_,e⟩:=x;exact⟨_,e⟩
 |frz ob u=>obtain⟨e,_⟩:=x;exact⟨_,e⟩
 |tbl ps=>exact⟨_,x⟩
 |met f y=>exact⟨_,x⟩
 |ext φ=>obtain⟨_,e,_⟩:=x;exact e
section
variable{X:Cx}{pins:List (Addr×Obj)}{σ:L2.St}{H:Hp}{s:Shared}{a:Addr}{o:HO}
structure New(X:Cx)(pins:List (Addr×Obj))(H:Hp)(a:Addr):Prop where
 hn:H a=none
 h0:X.s_0.heap.get? a=none
 hL:a≠X.env.locals
 hc:∀ x c,X.env.cells.lookup x=some c→c≠a
 hp:∀ p∈X.pn++pins,p.1≠a
 hf:a∉frs X.stack
theorem Z2W(I:Inv X pins σ H s)(hex:X.ex=[])(n:s.heap.get? a=none):New X pins H a where
 hn:=by
  cases w:H a with
  |none=>rfl
  |some o =>
   obtain⟨q,z⟩:=obj_in (I.hok a o w)
   rw [n]at z
   cases z
 h0:=by
  cases w:X.s_0.heap.get? a with
  |none=>rfl
  |some o =>
   obtain⟨q,z⟩:=I.base.there a o w (by rw [hex];simp)
   rw [n]at z
   cases z
 hL:=by
  rintro rfl
  obtain⟨m,⟨ob,_,_,e,_⟩,_⟩:=I.loc
  rw [n]at e
  cases e
 hc:=fun x c e z=>by
  subst z
  obtain⟨v,ob,e1,_⟩:=I.cell x c e
  rw [n]at e1
  cases e1
 hp:=fun p hp z=>by
  have e:=(I.pin p hp).1
  rw [z,n]at e
  cases e
 hf:=fun z=>by
  obtain⟨_,ob,e,_⟩:=I.stack.mem z
  rw [n]at e
  cases e
theorem track(I:Inv X pins σ H s)(N:New X pins H a)(new:ObjOk X.prog X.w (upd H a o) s.heap a o):Inv X pins σ (upd H a o) s:=by
 refine⟨I.ok,I.os,I.bare,⟨I.base.keep,I.base.slot,fun b ob q n hx=>?_,I.base.there,fun b xs q=>?_,fun b ob u q=>?_,fun b ps q=>?_⟩,I.loc,I.cell,?_,fun x c e=>?_,fun p hp=>?_,fun b u q=>?_,I.len⟩
 ·rw [Z1W (fun z=>by rw [z,N.h0]at q;cases q)]
  exact I.base.free b ob q n hx
 ·have z:=I.base.tups b xs q
  rw [Z1W (Z1Z z N.hn)]
  exact z
 ·have z:=I.base.frzs b ob u q
  rw [Z1W (Z1Z z N.hn)]
  exact z
 ·obtain⟨more,z⟩:=I.base.tbls b ps q
  exact⟨more,by rw [Z1W (Z1Z z N.hn)];exact z⟩
 ·rw [Z1W N.hL.symm];exact I.free
 ·rw [Z1W (N.hc x c e)];exact I.freeC x c e
 ·obtain⟨p1,p2,p3⟩:=I.pin p hp
  exact⟨p1,by rw [Z1W (N.hp p hp)];exact p2,p3⟩
 ·by_cases hb:b=a
  ·subst hb
   rw [Z1X]at q
   cases q
   exact new
  ·rw [Z1W hb]at q
   exact(I.hok b u q).stay (fun c v _ e=>e) (fun c e=>by rw [Z1W (Z1Z e N.hn)];exact e) fun c xs e=>by rw [Z1W (Z1Z e N.hn)];exact e
end
section
variable{X:Cx}{pins:List (Addr×Obj)}{σ:L2.St}{H:Hp}{s:Shared}{C fI:Addr}{f1 f2 f3 x:Str}{d3:Int}
def Z8o(X:Cx)(E:XK):Prop:=∀ (pins:List (Addr×Obj))(σ:L2.St)(H:Hp)(s:Shared)(e C:Addr)(d:Option Addr),Inv X pins σ H s→Fre true s.heap e C d→H e=none→X.s_0.heap.get? e=none →
 (∀ dx,d=some dx→∃ fs,H dx=some (.xd fs))→E (.ref C) d H→X.xe (.ref e) s
def tRaise(C:Addr)(f1 f2 f3:Str)(d3:Int)(E:XK)(ta:TA):TS:=fun _ σ H=>ta σ H fun vs H1=>∃ v1 v2 v3,Arg3 d3 vs v1 v2 v3∧∀ dx,H1 dx=none→E (.ref C) (some dx) (upd H1 dx (.xd [(f3,v3),(f2,v2),(f1,v1)]))
theorem Z9i{f1 f2 f3:Str}{v1 v2 v3:V}{u1 u2 u3:Value}(r1:RelV v1 u1)(r2:RelV v2 u2)(r3:RelV v3 u3)(f:Str):RelO (([(f3,v3),(f2,v2),(f1,v1)]:List (Str×V)).lookup f) (flt f1 f2 f3 u1 u2 u3 f):=by
 have st:∀ (g:Str)(v:V)(u:Value)(l:List (Str×V))(o:Option Value),RelV v u→RelO (l.lookup f) o→RelO (((g,v)::l).lookup f) (if f=g then some u else o):=fun g v u l o r h=>by
  by_cases a:f=g
  ·rw [if_pos a]
   have b:(f==g)=true:=beq_iff_eq.mpr a
   simp only [List.lookup,b]
   exact r
  ·rw [if_neg a]
   have b:(f==g)=false:=beq_eq_false_iff_ne.mpr a
   simp only [List.lookup,b]
   exact h
 unfold flt
 exact st f3 v3 u3 _ _ r3 (st f2 v2 u2 _ _ r2 (st f1 v1 u1 _ _ r1 True.intro))
theorem Z3m{a1:Expr}{as:List Expr}{ta:TA}{p pos cpos:Pos}{E:XK}(T:XInit X.K C fI f1 f2 f3 d3)(hc:X.calm=true)(hex:X.ex=[])(hdp:X.A.depth+1<recursionLimit)(hg:Gl X x)(hm:X.mg x=some (.ref C))(hx:Z8o X E)(ha:PA X (a1::as) ta)
  (hdb:(x==("__debug__" : Str))=false:=by decide)(he:starEach (a1::as) X.env=(false,eval a1 X.env)::starEach as X.env:=by rfl)(hpl:(backTo cpos (starEach as X.env)).any (·.1)=false:=by rfl) :
  PS X (.Raise (some (.Call (.Name x p) (a1::as) [] cpos)) none pos) (tRaise C f1 f2 f3 d3 E ta):=by
 intro pins s σ H D I h
 rw [arm_exec_Raise]
 have key:wpAny (model X.prog X.w) X.A (eval (.Call (.Name x p) (a1::as) [] cpos) X.env) (fun v s1=>∃ e d t,v=.ref e ∧
   (∃ nm q N bs hdct sn sub ab col dd k0 k1 k2 k3 k5 newId,s1.heap.get? C=some (excClassObj nm q C N bs bmX hdct sn sub ab col dd k0 k1 k2 k3 k5 newId))∧s1.heap.get? e=some (xob C d (Z4C t) #[])∧X.xe (.ref e) s1) X.xe s:=by
  refine wpAny_Call_Name_kw (Z2V I hg hm ?_ hdb)
  refine Z0V (h₀:=X.base) I.ok.mod.kin T.c.kp (thn (ha cpos pins s σ H _ I h) fun us s1 ⟨vs,H1,I1,r,v1,v2,v3,hv,q⟩=>⟨I1.kIn,?_⟩) he hpl
  refine Z8m I1.kIn I1.nolimit T hdp hv r fun h' e dx t tk u1 u2 u3 r1 r2 r3 b1 b2 b3 b4 b5 b6=>⟨e,some dx,t,rfl,?_,b1,?_⟩
  ·obtain⟨nm,q,N,bs,sn,sub,ab,col,dd,k0,k1,k2,k3,k5,m,c1,_⟩:=T.c.at (I1.kIn.keeps b6)
   exact⟨nm,q,N,bs,true,sn,sub,ab,col,dd,k0,k1,k2,k3,k5,_,c1⟩
  ·have Ne:=Z2W I1 hex b3
   have Nd:=Z2W I1 hex b4
   have I2:Inv X pins σ H1 { s1 with heap:=h',toks:=tk }:=I1.kept b6
   have I3:=track (o:=.xd [(f3,v3),(f2,v2),(f1,v1)]) I2 Nd ⟨_,b2,fun f=>Z9i r1 r2 r3 f⟩
   exact hx pins σ _ _ e C (some dx) I3 ⟨_,_,b1,rfl,fun _=>rfl⟩ (by rw [Z1W b5.symm];exact Ne.hn) Ne.h0 (fun dx' z=>by cases z;exact⟨_,Z1X⟩) (q dx Nd.hn)
 exact wpAny_bind (wpAny_standAt (Z6W (bm:=bmX) (by decide) (I.ok.hd hc) (wpAny_bind (wpAny_mono key (fun v s1 h1=>wpAny_bind (wpAny_standAt (wpAny_pure h1))) fun _ _ z=>z))))
def tRaiseP(C:Addr)(E:XK):TS:=fun _ σ H=>E (.ref C) none H
theorem Z4U{p pos cpos:Pos}{E:XK}(T:XP X.K C)(hc:X.calm=true)(hex:X.ex=[])(hg:Gl X x)(hm:X.mg x=some (.ref C))(hx:Z8o X E)(hdb:(x==("__debug__" : Str))=false:=by decide) :
  PS X (.Raise (some (.Call (.Name x p) [] [] cpos)) none pos) (tRaiseP C E):=by
 intro pins s σ H D I h
 rw [arm_exec_Raise]
 have key:wpAny (model X.prog X.w) X.A (eval (.Call (.Name x p) [] [] cpos) X.env) (fun v s1=>∃ e d t,v=.ref e ∧
   (∃ nm q N bs hdct sn sub ab col dd k0 k1 k2 k3 k5 newId,s1.heap.get? C=some (excClassObj nm q C N bs bmX hdct sn sub ab col dd k0 k1 k2 k3 k5 newId))∧s1.heap.get? e=some (xob C d (Z4C t) #[])∧X.xe (.ref e) s1) X.xe s:=by
  refine wpAny_Call_Name_kw (Z2V I hg hm ?_ hdb)
  refine PySem.W.callWith_K0 I.kIn T.kp (Z9P I.kIn T fun h' e t b1 b2 b3=>⟨e,none,t,rfl,?_,b1,?_⟩)
  ·obtain⟨nm,q,N,bs,sn,sub,ab,col,dd,k0,k1,k2,k3,k5,a1,_⟩:=T.ex
   exact⟨nm,q,N,bs,true,sn,sub,ab,col,dd,k0,k1,k2,k3,k5,_,I.kIn.keeps b3 _ _ a1⟩
  ·have Ne:=Z2W I hex b2
   exact hx pins σ H _ e C none (I.kept (t':=s.toks) b3) ⟨_,_,b1,rfl,fun _=>rfl⟩ Ne.hn Ne.h0 (fun dx' z=>by cases z) h
 exact wpAny_bind (wpAny_standAt (Z6W (bm:=bmX) (by decide) (I.ok.hd hc) (wpAny_bind (wpAny_mono key (fun v s1 h1=>wpAny_bind (wpAny_standAt (wpAny_pure h1))) fun _ _ z=>z))))
end
def CXQ(z:Bool)(P:Program)(w:World):CXT:=fun outer H s E e s'=>∃ (ea T C:Addr)(d:Option Addr)(H':Hp),e=.ref ea∧s'.os=s.os∧AllBare s'.gens∧Un (frs outer) [] H H' s.heap s'.heap∧HOk P w H' s'.heap ∧
 Fly z s'.heap ea T C d .none∧H' ea=none∧H' T=none∧s.heap.get? ea=none∧s.heap.get? T=none∧(∀ dx,d=some dx→∃ fs,H' dx=some (.xd fs))∧E (.ref C) d H'
abbrev CXF(P:Program)(w:World):CXT:=CXQ true P w
theorem Fly.weak{z:Bool}{h:Heap}{e T C:Addr}{dx:Option Addr}{fl:Value}(f:Fly z h e T C dx fl):Fly false h e T C dx fl:=⟨f.obj,f.tb,f.ne,fun q=>by cases q⟩
theorem CXQ.weak{z:Bool}{P:Program}{w:World}{outer:List Env}{H:Hp}{s s':Shared}{E:XK}{e:Value}(c:CXQ z P w outer H s E e s'):CXQ false P w outer H s E e s':=by
 obtain⟨ea,T,C,d,H',h0,h1,h2,h3,h4,h5,h6⟩:=c
 exact⟨ea,T,C,d,H',h0,h1,h2,h3,h4,h5.weak,h6⟩
section
variable{X:Cx}{z:Bool}{pins:List (Addr×Obj)}{σ:L2.St}{H:Hp}{s:Shared}{E':Value→Shared→Prop}{E:XK}
theorem Z6n{env:Env}{outer:List Env}{L:Addr}(h:env.frame=some L):frs (env::outer)=L::frs outer:=by
 unfold frs
 rw [Z1b,h]
theorem un_kp{h2:Heap}{ch:List Addr}(I:Inv X pins σ H s)(hst:X.stack=X.env::X.outer)(hfr:X.env.frame=some X.env.locals)(hex:X.ex=[])(k:Kp (frs X.stack) ch s.heap h2)(h0:∀ b∈ch,X.s_0.heap.get? b=none) :
  Un (frs X.outer) [] X.H_0 H X.s_0.heap h2:=by
 have nch:∀ b o,X.s_0.heap.get? b=some o→b∉ch:=fun b o q z=>by
  rw [h0 b z]at q
  cases q
 have nx:∀ b:Addr,b∉X.ex:=fun b z=>by rw [hex]at z;cases z
 have nL:∀ b o,X.s_0.heap.get? b=some o→b∉frs X.outer→b∉frs X.stack:=fun b o q n z=>by
  rw [hst,Z6n hfr]at z
  rcases Z0d.mp z with z |z
  ·exact absurd (Z0v (Z0h q) I.ok.above) (by rw [z];exact Z0u _)
  ·exact n z
 refine⟨fun b o q n hb _=>k.keep b o (I.base.keep b o q n hb (nx b)) (nch b o q) (nL b o q hb),fun b o q n hb _=>?_,fun b o q n _=>I.base.free b o q n (nx b),fun b o q _=>?_,I.base.tups,I.base.frzs,I.base.tbls⟩
 ·obtain⟨sl,e⟩:=I.base.slot b o q n hb (nx b)
  obtain⟨sl',e'⟩:=k.slot b _ e (nch b o q)
  exact⟨sl',e'⟩
 ·obtain⟨o',e⟩:=I.base.there b o q (nx b)
  obtain⟨sl',e'⟩:=k.slot b _ e (nch b o q)
  exact⟨_,e'⟩
theorem Z6S{h2:Heap}{ch:List Addr}(I:Inv X pins σ H s)(k:Kp (frs X.stack) ch s.heap h2)(hH:∀ b∈ch,H b=none):HOk X.prog X.w H h2:=fun a o e =>
 (I.hok a o e).stay (fun b u hb q=>by
   have hs:∃ z,H b=some z:=by
    rcases hb with rfl |hb
    ·exact⟨o,e⟩
    ·exact⟨_,hb⟩
   obtain⟨z,hz⟩:=hs
   refine k.keep b u q (fun m=>?_) fun m=>?_
   ·rw [hH b m]at hz;cases hz
   ·rw [I.stkFree b m]at hz;cases hz) (fun _ q=>q) fun _ _ q=>q
theorem nones(I:Inv X pins σ H s)(hex:X.ex=[]){a:Addr}(n:s.heap.get? a=none):H a=none∧X.s_0.heap.get? a=none:=let N:=Z2W I hex n;⟨N.hn,N.h0⟩
def Here(z:Bool)(X:Cx)(H:Hp)(h:Heap)(ea C:Addr)(dx:Option Addr):Prop:=(H ea=none∧X.s_0.heap.get? ea=none)∧(Fre z h ea C dx∨∃ T,Fly z h ea T C dx .none∧H T=none∧X.s_0.heap.get? T=none)
theorem Zam{Q:Unit→Shared→Prop}{ea C:Addr}{dx:Option Addr}(I:Inv X pins σ H s)(hst:X.stack=X.env::X.outer)(hfr:X.env.frame=some X.env.locals)(hex:X.ex=[])(he:Here z X H s.heap ea C dx)
  (h:∀ h1 T ch,Fly z h1 ea T C dx (rawInt X.env.locals)→(H T=none∧X.s_0.heap.get? T=none)→Kp (frs X.stack) ch s.heap h1→(∀ b∈ch,H b=none∧X.s_0.heap.get? b=none)→Q () { s with heap:=h1 }) :
  wpAny (model X.prog X.w) X.A (noteFrame (.ref ea) X.env) Q E' s:=by
 have hF:X.A.frames=some (X.env::X.outer):=by rw [←hst];exact I.ok.frames
 have hL:s.heap.FunFrames X.base (X.env::X.outer):=by rw [←hst];exact I.stack
 obtain⟨h0,hf |⟨T,hf,hT⟩⟩:=he
 ·refine Z6M hF hL hfr hf fun h1 T f n k=>h h1 T [ea] f (nones I hex n) (by rw [hst];exact k) fun b hb=>?_
  rw [Z0i.mp hb]
  exact h0
 ·refine Z5Z hF hL hfr hf fun h1 T' f n k=>h h1 T' [T,ea] f (nones I hex n) (by rw [hst];exact k) fun b hb=>?_
  rcases Z0d.mp hb with rfl |hb
  ·exact hT
  ·rw [Z0i.mp hb]
   exact h0
theorem Z5y{ea C:Addr}{dx:Option Addr}(I:Inv X pins σ H s)(hst:X.stack=X.env::X.outer)(hfr:X.env.frame=some X.env.locals)(hex:X.ex=[])(he:Here z X H s.heap ea C dx)
  (hd:∀ dx',dx=some dx'→∃ fs,H dx'=some (.xd fs))(hE:E (.ref C) dx H):wpAny (model X.prog X.w) X.A (leaving X.env (.ref ea)) (fun _ s'=>CXQ z X.prog X.w X.outer X.H_0 X.s_0 E (.ref ea) s') E' s:=by
 unfold leaving
 refine wpAny_bind (Zam I hst hfr hex he fun h1 T ch f nT k hc=>?_)
 refine land_ (fs:=frs X.stack) (s:={ s with heap:=h1 }) f fun h2 f2 k2=>?_
 have k3:=k.trans k2
 have hc3:∀ b∈ch++[T],H b=none∧X.s_0.heap.get? b=none:=fun b hb=>by
  rcases Z0k.mp hb with hb |hb
  ·exact hc b hb
  ·rw [Z0i.mp hb]
   exact nT
 exact⟨ea,T,C,dx,H,rfl,I.os,I.bare,un_kp I hst hfr hex k3 fun b hb=>(hc3 b hb).2,Z6S I k3 fun b hb=>(hc3 b hb).1,f2,he.1.1,nT.1,he.1.2,nT.2,hd,hE⟩
end
section
variable{P:Program}{w:World}{K:Z0a}{mg:Str→Option Value}{base:Heap}{N:List Str}{qual:Str}{scope:Scope}{f:Addr}{cd:Value}{A:Around}{outer:List Env}{s0:Shared}{H0:Hp}{E:XK}{z:Bool}
abbrev cxQ(z:Bool)(P:Program)(w:World)(K:Z0a)(mg:Str→Option Value)(base:Heap)(N:List Str)(qual:Str)(scope:Scope)(f:Addr)(cd:Value)(A:Around)(outer:List Env)(s:Shared)(H:Hp)(E:XK):Cx :=
 cxOf (CXQ z P w) P w K mg base N qual scope f cd A outer s H E
theorem Z2D:Z8o (cxQ z P w K mg base N qual scope f cd A outer s0 H0 E) E:=by
 intro pins σ H s e C d I hf h1 h2 hd hE
 exact Z5y I rfl rfl rfl ⟨⟨h1,h2⟩,.inl (by obtain⟨vs,sl,e1,e2,e3⟩:=hf;exact⟨vs,sl,e1,e2,fun _=>e3 rfl⟩)⟩ hd hE
theorem Z2i:Z2I (CXQ z P w) (cxQ z P w K mg base N qual scope f cd A outer s0 H0 E) E:=by
 intro pins σ H s e s' I h
 obtain⟨ea,T,C,dx,H',rfl,h1,h2,h3,h4,h5,h6,h7,h8,h9,h10,h11⟩:=h
 have I':Inv (cxQ z P w K mg base N qual scope f cd A outer s0 H0 E) pins σ H' s':=I.call' (ch:=[]) h1 h3 h4 h2 (fun b z=>absurd z (by simp))
 exact Z5y I' rfl rfl rfl ⟨⟨h6,(nones I rfl h8).2⟩,.inr ⟨T,h5,h7,(nones I rfl h9).2⟩⟩ h10 h11
theorem Z4N:PassesOwn (model P w) (cxQ z P w K mg base N qual scope f cd A outer s0 H0 E).A (cxQ z P w K mg base N qual scope f cd A outer s0 H0 E).env (cxQ z P w K mg base N qual scope f cd A outer s0 H0 E).xe:=PassesOwn.leaving
theorem okX{x:Str}{st:Stmt}{fd:FuncData}{ps:List Str}{k:Nat}{sp:Sp}(F:Fun K x qual st f fd)(S:Z2e N ps (Z2b st))(len:∀ vs H Q E,sp vs H Q E→vs.length=ps.length)
  (hbody:∀ (cdv:Value)(A:Around)(outer:List Env)(s:Shared)(H:Hp)(vs:List V)(Q:VK)(E:XK),Room k (A.deeper (envOfC qual (Z2b st) s.heap.objs.size f cdv))→sp vs H Q E →
    ∃ t,PSs (cxQ z P w K mg base N qual (Z2b st) f cdv A outer s H E) (Z2o st) t∧t { nx:=fun _ H'=>Q .non H',rt:=Q } (start N vs) H):FnOk P w K mg base (CXQ z P w) (k+1) f fd ps sp:=by
 obtain⟨oc,od,kV,doc,pm,an,cdv,ct,osl,rfl,lk,hcd⟩:=F.ex
 exact fn_of lk hcd S len fun A outer s H vs Q E hr hsp=>hbody cdv A outer s H vs Q E hr hsp
theorem weakX{k:Nat}{fd:FuncData}{ps:List Str}{sp:Sp}(F:FnOk P w K mg base (CXQ z P w) k f fd ps sp):FnOk P w K mg base (CXQ false P w) k f fd ps sp :=
 ⟨F.len,fun A outer s H args us vs Q E hr he hb hv hs=>codeAny_mono (F.run A outer s H args us vs Q E hr he hb hv hs) fun r s' q=>by
  cases r with
  |error e=>exact q.weak
  |ok fl=>cases fl<;>exact q⟩
end
structure Off(X:Cx)(pins:List (Addr×Obj))(H:Hp)(b:Addr):Prop where
 hn:H b=none
 h0:X.s_0.heap.get? b=none
 hL:b≠X.env.locals
 hc:∀ x c,X.env.cells.lookup x=some c→c≠b
 hp:∀ p∈X.pn++pins,p.1≠b
theorem New.off{X:Cx}{pins:List (Addr×Obj)}{H:Hp}{b:Addr}(n:New X pins H b):Off X pins H b:=⟨n.hn,n.h0,n.hL,n.hc,n.hp⟩
section
variable{X:Cx}{pins:List (Addr×Obj)}{σ:L2.St}{H:Hp}{s:Shared}
theorem Z3P{h1:Heap}{ch:List Addr}(I:Inv X pins σ H s)(hst:X.stack=X.env::X.outer)(hfr:X.env.frame=some X.env.locals)(hex:X.ex=[])(k:Kp (frs X.stack) ch s.heap h1)(hc:∀ b∈ch,Off X pins H b) :
  Inv X pins σ H { s with heap:=h1 }:=by
 have u:=un_kp I hst hfr hex k fun b hb=>(hc b hb).h0
 have cel:∀ {x:Str}{c:Addr}{v:Option Value},X.env.cells.lookup x=some c→s.heap.IsCell c v→h1.IsCell c v:=fun{x c v} e z=>by
  obtain⟨o,e1,e2⟩:=z
  obtain⟨sl,e3⟩:=k.slot c o e1 fun m=>(hc c m).hc x c e rfl
  exact⟨_,e3,e2⟩
 refine⟨I.ok,I.os,I.bare,?_,?_,fun x c e=>?_,I.free,I.freeC,fun p hp=>?_,Z6S I k fun b hb=>(hc b hb).hn,I.len⟩
 ·rw [hex];exact u
 ·obtain⟨m,⟨o,es,ep,e1,e2,r⟩,hl⟩:=I.loc
  obtain⟨sl,e3⟩:=k.slot _ o e1 fun z=>(hc _ z).hL rfl
  refine⟨m,⟨_,es,ep,e3,e2,r⟩,fun i x v a1 a2 a3=>?_⟩
  obtain⟨u',r',q⟩:=hl i x v a1 a2 a3
  refine⟨u',r',?_⟩
  rcases q with q |⟨q1,c,q2,q3⟩
  ·exact .inl q
  ·exact .inr ⟨q1,c,q2,cel q2 q3⟩
 ·obtain⟨v,z⟩:=I.cell x c e
  exact⟨v,cel e z⟩
 ·obtain⟨p1,p2,p3,p4,p5⟩:=I.pin p hp
  refine⟨k.keep _ _ p1 (fun m=>(hc _ m).hp p hp rfl) fun m=>?_,p2,p3,p4,p5⟩
  rw [hst,Z6n hfr]at m
  rcases Z0d.mp m with m |m
  ·exact p3 m
  ·exact p4 m
def blank(X:Cx):L2.St:=List.replicate X.N.length none
theorem Z6J(X:Cx){i:Nat}{v:V}:(blank X)[i]?≠some (some v):=by
 unfold blank
 rw [List.getElem?_replicate]
 split<;>intro z<;>cases z
theorem Inv.blank(I:Inv X pins σ H s):Inv X pins (blank X) H s:=I.weak (by unfold EX.blank;rw [Z1O,I.len]) fun i v e=>absurd e (Z6J X)
theorem Z8B{h1:Heap}{m:Str→Option Value}{t:Nat}(I:Inv X pins σ H s)(hn:h1.Ns X.env.locals m)(hs:Heap.SameBut X.env.locals s.heap h1):Inv X pins (EX.blank X) H { s with heap:=h1,toks:=t }:=by
 have ne:∀ b o,X.s_0.heap.get? b=some o→b≠X.env.locals:=fun b o e=>Z0o (Z0v (Z0h e) I.ok.above)
 refine⟨I.ok,I.os,I.bare,⟨fun b o e n hb hx=>(hs.2 b (ne b o e)).trans (I.base.keep b o e n hb hx),fun b o e n hb hx=>?_,I.base.free,fun b o e hx=>?_,I.base.tups,I.base.frzs,I.base.tbls⟩,⟨m,hn,fun i x v _ e _=>absurd e (Z6J X)⟩,
  fun x c e=>?_,I.free,I.freeC,fun p hp=>?_,fun a o e=>(I.hok a o e).stay (fun b u hb q=>(hs.2 b ?_).trans q) (fun _ q=>q) fun _ _ q=>q,by unfold EX.blank;rw [Z1O]⟩
 ·obtain⟨sl,z⟩:=I.base.slot b o e n hb hx
  exact⟨sl,(hs.2 b (ne b o e)).trans z⟩
 ·obtain⟨o',z⟩:=I.base.there b o e hx
  exact⟨o',(hs.2 b (ne b o e)).trans z⟩
 ·obtain⟨v,z⟩:=I.cell x c e
  exact⟨v,z.sameBut hs (I.cne x c e)⟩
 ·obtain⟨p1,p2,p3,p4⟩:=I.pin p hp
  exact⟨(hs.2 _ p3).trans p1,p2,p3,p4⟩
 ·rintro rfl
  rcases hb with rfl |hb
  ·rw [I.free]at e;cases e
  ·rw [I.free]at hb;cases hb
abbrev XS(X:Cx)(ea:Addr):Cx:={ X with A:=X.A.mark (some (.ref ea)),calm:=false,xe:=fun _ _=>False }
abbrev XB(X:Cx)(pins:List (Addr×Obj))(E:Value→Shared→Prop):Cx:={ X with pn:=X.pn++pins,xe:=E }
theorem Inv.toS(I:Inv X pins σ H s)(ea:Addr):Inv (XS X ea) pins σ H s :=
 ⟨⟨I.ok.mod,I.ok.kind,I.ok.glob,I.ok.blt,I.ok.above,I.ok.inj,I.ok.has,I.ok.cab,(fun h=>by cases h),I.ok.frames,I.ok.stk,I.ok.exf,I.ok.bs,I.ok.bsz,I.ok.noex,I.ok.exfs,I.ok.funs,I.ok.frf⟩,I.os,I.bare,I.base,I.loc,I.cell,I.free,I.freeC,I.pin,I.hok,I.len⟩
theorem Inv.ofS{ea:Addr}(ok:X.Ok)(I:Inv (XS X ea) pins σ H s):Inv X pins σ H s:=⟨ok,I.os,I.bare,I.base,I.loc,I.cell,I.free,I.freeC,I.pin,I.hok,I.len⟩
theorem Inv.toB(I:Inv X pins σ H s)(E:Value→Shared→Prop):Inv (XB X pins E) [] σ H s :=
 ⟨⟨I.ok.mod,I.ok.kind,I.ok.glob,I.ok.blt,I.ok.above,I.ok.inj,I.ok.has,I.ok.cab,I.ok.hd,I.ok.frames,I.ok.stk,I.ok.exf,I.ok.bs,I.ok.bsz,I.ok.noex,I.ok.exfs,I.ok.funs,I.ok.frf⟩,I.os,I.bare,I.base,I.loc,I.cell,I.free,I.freeC,fun p hp=>I.pin p (by rw [Z0G]at hp;exact hp),I.hok,I.len⟩
theorem Inv.ofB{E:Value→Shared→Prop}{pins':List (Addr×Obj)}(ok:X.Ok)(I:Inv (XB X pins E) pins' σ H s):Inv X pins σ H s :=
 ⟨ok,I.os,I.bare,I.base,I.loc,I.cell,I.free,I.freeC,fun p hp=>I.pin p (Z0K _ hp),I.hok,I.len⟩
def XE(z:Bool)(ea C dx:Addr):HO:=.ext fun h=>∃ vs sl,h.get? ea=some (xob C (some dx) vs sl)∧(z=true→vs[2]?=some .none)
theorem xe_ok{P:Program}{w:World}{H:Hp}{h:Heap}{ea C dx:Addr}{z:Bool}(e:∃ vs sl,h.get? ea=some (xob C (some dx) vs sl)∧(z=true→vs[2]?=some .none)):ObjOk P w H h ea (XE z ea C dx):=by
 obtain⟨vs,sl,e,q⟩:=e
 exact⟨⟨vs,sl,e,q⟩,⟨_,e⟩,fun h1 h2 ⟨vs,sl,a,q⟩ k=>⟨vs,sl,k _ a,q⟩⟩
structure AtH(z:Bool)(X:Cx)(pins:List (Addr×Obj))(H:Hp)(s:Shared)(ea T C:Addr)(d:Option Addr):Prop where
 inv:Inv X pins (EX.blank X) H s
 fly:Fly z s.heap ea T C d .none
 oe:Off X pins H ea
 oT:Off X pins H T
 fe:ea∉frs X.stack
 hd:∀ dx,d=some dx→∃ fs,H dx=some (.xd fs)
theorem Zaq{M:Model}{A:Around}{E:Value→Shared→Prop}{h:Heap}{g:Array GenState}{d:Drawn}{t:Nat}{os:OsState}{e C D:Addr}{oe:Obj}{Q:Bool→Shared→Prop}{K:Z0a}(X:K.In h)
  (kC:XK1 K C)(kD:XK1 K D)(he:h.get? e=some oe)(hcls:oe.cls=.ref C)(hne:C≠D)
  (hq:Q false ⟨h,g,d,t,os⟩):wpAny M A (excMatches (.ref e) (.ref D)) Q E ⟨h,g,d,t,os⟩:=by
 obtain⟨nm,q,N,bs,sn,sub,ab,col,dd,k0,k1,k2,k3,k5,lC⟩:=kC
 obtain⟨nm',q',N',bs',sn',sub',ab',col',dd',k0',k1',k2',k3',k5',lD⟩:=kD
 have hC:=X _ _ lC
 have hD:=X _ _ lD
 have hcB:(Value.ref D::bmX).contains (.type "BaseException")=true:=by rw [Z1C,show bmX.contains (.type "BaseException")=true by decide,Bool.or_true]
 have hcC:(Value.ref C::bmX).contains (.ref D)=false:=by
  have:(Value.ref D==Value.ref C)=false:=by
   rw [beq_eq_false_iff_ne]
   intro z
   cases z
   exact hne rfl
  rw [Z1C,this]
  rfl
 have f:=tc_notTuple
 unfold excMatches
 repeat (first |(with_reducible refine wpAny_loadPart_at he ?_;rw [hcls]) |with_reducible refine wpAny_loadPart_at hD ?_ |(with_reducible refine wpAny_isSubtype_exc hD ?_;rw [hcB]) |(with_reducible refine wpAny_isSubtype_exc hC ?_;rw [hcC]) |wp_step)
 exact hq
section
variable{z:Bool}{C C1 ea T i:Addr}{d:Option Addr}{n x:Str}{p pos:Pos}{b0:Stmt}{suite:List Stmt}{rest:List ExceptHandler}{th:TS}{D:Ends}
theorem Z4t{nm:Option Str}(a:AtH z X pins H s ea T C d)(hg:Gl X x)(hm:X.mg x=some (.ref C1))(kC:XK1 X.K C)(k1:XK1 X.K C1)(hne:C≠C1)
  (h:wpAny (model X.prog X.w) X.A (handleBy (.ref ea) X.env rest) (SP X pins D) X.xe s)(hdb:(x==("__debug__" : Str))=false:=by decide) :
  wpAny (model X.prog X.w) X.A (handleBy (.ref ea) X.env (.ExceptHandler (some (.Name x p)) nm (b0::suite) pos::rest)) (SP X pins D) X.xe s:=by
 obtain⟨vs2,sl2,e2,_⟩:=a.fly.obj
 refine wpAny_handleBy_cons (codeAny_handlers_test (Z2V (X:=XS X ea) (Inv.toS a.inv ea) hg hm ?_ hdb)) (by intro z;cases z)
 have KX:=a.inv.kIn
 obtain⟨hp,g,dr,tk,os⟩:=s
 exact Zaq KX kC k1 e2 rfl hne h
theorem hit{Q:Bool→Shared→Prop}{A:Around}{E:Value→Shared→Prop}(a:AtH z X pins H s ea T C d)(kC:XK1 X.K C)(h:Q true s):wpAny (model X.prog X.w) A (excMatches (.ref ea) (.ref C)) Q E s:=by
 obtain⟨vs2,sl2,e2,_⟩:=a.fly.obj
 obtain⟨nm,q,N,bs,sn,sub,ab,col,dd,k0,k1',k2',k3,k5,c1⟩:=kC
 have KX:=a.inv.kIn
 obtain⟨hp,g,dr,tk,os⟩:=s
 exact wpAny_excMatches_sub_self (KX _ _ c1) e2 rfl (by decide) h
theorem landed(a:AtH z X pins H s ea T C d)(hst:X.stack=X.env::X.outer)(hfr:X.env.frame=some X.env.locals)(hex:X.ex=[]){h3:Heap}(f3:Fly z h3 ea T C d .none)(k3:Kp (frs X.stack) [T] s.heap h3):AtH z X pins H { s with heap:=h3 } ea T C d :=
 ⟨Z3P a.inv hst hfr hex k3 (fun b hb=>by rw [Z0i.mp hb];exact a.oT),f3,a.oe,a.oT,a.fe,a.hd⟩
theorem hb_as{dx:Addr}(a:AtH z X pins H s ea T C (some dx))(kC:XK1 X.K C)(hst:X.stack=X.env::X.outer)(hfr:X.env.frame=some X.env.locals)(hex:X.ex=[])(hg:Gl X x)(hm:X.mg x=some (.ref C))(hN:X.N.Nodup)(hi:X.N[i]?=some n)(hl:X.env.scope.names.lookup n=some .local)
  (hs:∀ ea,PSs (XS X ea) (b0::suite) th)(hE:∀ ea,H ea=none→ea≠dx→th { nx:=fun _ _=>False,rt:=D.rt } ((EX.blank X).set i (some (.ref ea))) (upd H ea (XE z ea C dx)))(hdb:(x==("__debug__" : Str))=false:=by decide) :
  wpAny (model X.prog X.w) X.A (handleBy (.ref ea) X.env (.ExceptHandler (some (.Name x p)) (some n) (b0::suite) pos::rest)) (SP X pins D) X.xe s:=by
 refine wpAny_handleBy_cons (codeAny_handlers_test (Z2V (X:=XS X ea) (Inv.toS a.inv ea) hg hm (hit a kC ?_) hdb)) (by intro z;cases z)
 refine codeAny_handlers_suite_as ?_
 refine land_ (fs:=frs X.stack) a.fly fun h3 f3 k3'=>?_
 have a3:=landed a hst hfr hex f3 k3'
 obtain⟨vs3,sl3,e3,_⟩:=f3.obj
 have I4:=track (a:=ea) (o:=XE z ea C dx) a3.inv ⟨a.oe.hn,a.oe.h0,a.oe.hL,a.oe.hc,a.oe.hp,a.fe⟩ (xe_ok ⟨vs3,sl3,e3,fun hz=>f3.cx hz _ _ e3 rfl⟩)
 have hd:ea≠dx:=fun z=>by
  obtain⟨fs,hf⟩:=a.hd dx rfl
  rw [←z,a.oe.hn]at hf
  cases hf
 refine Z5m (X:=XS X ea) (v:=.ref ea) (Inv.toS I4 ea) hN hi (.inl hl) rfl (fun s5 I5=>?_) (.inr hl)
 refine wpAny_mono (hs ea pins s5 _ _ { nx:=fun _ _=>False,rt:=D.rt } I5 (hE ea a.oe.hn hd)) (fun fl s6 h6=>?_) fun _ _ z=>z.elim
 cases fl with
 |ret u =>
  obtain⟨v,σ6,H6,I6,r6,q6⟩:=h6
  have I7:Inv X pins σ6 H6 s6:=Inv.ofS a.inv.ok I6
  obtain⟨m6,n6,_⟩:=I7.loc
  refine wpAny_nameGoes hl n6 (by rw [a.inv.ok.kind];rfl) fun h7 m7 n7 sb7=>?_
  exact⟨v,_,H6,Z8B I7 n7 sb7,r6,q6⟩
 |next=>obtain⟨_,_,_,z⟩:=h6;exact z.elim
 |brk=>obtain⟨_,_,_,z⟩:=h6;exact z.elim
 |cont=>obtain⟨_,_,_,z⟩:=h6;exact z.elim
theorem Z8g(a:AtH z X pins H s ea T C d)(kC:XK1 X.K C)(hst:X.stack=X.env::X.outer)(hfr:X.env.frame=some X.env.locals)(hex:X.ex=[])(hg:Gl X x)(hm:X.mg x=some (.ref C))
  (hs:∀ ea,PSs (XS X ea) (b0::suite) th)(hE:th { nx:=fun _ _=>False,rt:=D.rt } (EX.blank X) H)(hdb:(x==("__debug__" : Str))=false:=by decide) :
  wpAny (model X.prog X.w) X.A (handleBy (.ref ea) X.env (.ExceptHandler (some (.Name x p)) none (b0::suite) pos::rest)) (SP X pins D) X.xe s:=by
 refine wpAny_handleBy_cons (codeAny_handlers_test (Z2V (X:=XS X ea) (Inv.toS a.inv ea) hg hm (hit a kC ?_) hdb)) (by intro z;cases z)
 refine codeAny_handlers_suite ?_
 refine land_ (fs:=frs X.stack) a.fly fun h3 f3 k3'=>?_
 have a3:=landed a hst hfr hex f3 k3'
 refine wpAny_mono (hs ea pins _ _ _ { nx:=fun _ _=>False,rt:=D.rt } (Inv.toS a3.inv ea) hE) (fun fl s6 h6=>?_) fun _ _ z=>z.elim
 cases fl with
 |ret u =>
  obtain⟨v,σ6,H6,I6,r6,q6⟩:=h6
  exact⟨v,σ6,H6,Inv.ofS a.inv.ok I6,r6,q6⟩
 |next=>obtain⟨_,_,_,z⟩:=h6;exact z.elim
 |brk=>obtain⟨_,_,_,z⟩:=h6;exact z.elim
 |cont=>obtain⟨_,_,_,z⟩:=h6;exact z.elim
end
theorem atH_of{z:Bool}{ea T C:Addr}{d:Option Addr}{Q:Flow→Shared→Prop}{g:Sem Flow}(I:Inv X pins σ H s)(hst:X.stack=X.env::X.outer)(hfr:X.env.frame=some X.env.locals)(hex:X.ex=[])(oe:Off X pins H ea)(oT:Off X pins H T)(hfe:ea∉frs X.stack)
  (hf:Fly z s.heap ea T C d .none)(hd:∀ dx,d=some dx→∃ fs,H dx=some (.xd fs))
  (h:∀ s3 T1,AtH z X pins H s3 ea T1 C d→wpAny (model X.prog X.w) X.A g Q X.xe s3) :
  wpAny (model X.prog X.w) X.A (noteFrame (.ref ea) X.env) (fun _ s2=>wpAny (model X.prog X.w) X.A (setFlight (.ref ea) none) (fun _ s3=>wpAny (model X.prog X.w) X.A g Q X.xe s3) X.xe s2) X.xe s:=by
 have hF:X.A.frames=some (X.env::X.outer):=by rw [←hst];exact I.ok.frames
 have hL:s.heap.FunFrames X.base (X.env::X.outer):=by rw [←hst];exact I.stack
 have Ib:=Inv.blank I
 refine Z5Z hF hL hfr hf fun h1 T1 f1 nT k1=>?_
 rw [←hst]at k1
 refine land_ (fs:=frs X.stack) (s:={ s with heap:=h1 }) f1 fun h2 f2 k2=>?_
 have oT1:Off X pins H T1:=(Z2W I hex nT).off
 have I2:Inv X pins (EX.blank X) H { s with heap:=h2 }:=Z3P Ib hst hfr hex (k1.trans k2) fun b hb=>by
  rcases Z0k.mp hb with hb |hb
  ·rcases Z0d.mp hb with rfl |hb
   ·exact oT
   ·rw [Z0i.mp hb];exact oe
  ·rw [Z0i.mp hb];exact oT1
 exact h _ T1 ⟨I2,f2,oe,oT1,hfe,hd⟩
def tTry(W:Ends→XK)(tb:XK→TS):TS:=fun D σ H=>tb (W D) D σ H
theorem ps_try{z:Bool}{tpos:Pos}{h0:ExceptHandler}{hs:List ExceptHandler}{body:List Stmt}{tb:XK→TS}{W:Ends→XK}
  (hst:X.stack=X.env::X.outer)(hfr:X.env.frame=some X.env.locals)(hex:X.ex=[])
  (hb:∀ (pins:List (Addr×Obj))(E1:Value→Shared→Prop)(Ew:XK),Z2I (CXQ z X.prog X.w) (XB X pins E1) Ew→PSs (XB X pins E1) body (tb Ew))
  (hh:∀ (pins:List (Addr×Obj))(D:Ends)(H:Hp)(s:Shared)(ea T C:Addr)(d:Option Addr),AtH z X pins H s ea T C d→W D (.ref C) d H→wpAny (model X.prog X.w) X.A (handleBy (.ref ea) X.env (h0::hs)) (SP X pins D) X.xe s) :
  PS X (.Try body (h0::hs) [] [] tpos) (tTry W tb):=by
 intro pins s σ H D I h
 have hok:=I.ok
 refine wpAny_Try_except ?_
 have pass:Z2I (CXQ z X.prog X.w) (XB X pins fun e s1=>wpAny (model X.prog X.w) X.A (noteFrame e X.env) (fun _ s2=>wpAny (model X.prog X.w) X.A (setFlight e none) (fun _ s3 =>
   wpAny (model X.prog X.w) X.A (handleBy e X.env (h0::hs)) (SP X pins D) X.xe s3) X.xe s2) X.xe s1) (W D):=by
  intro pins' σ' H' s' e s'' I' q
  obtain⟨ea,T,C',d,H2,rfl,h1,h2,h3,h4,h5,h6,h7,h8,h9,h10,h11⟩:=q
  have I2:=I'.call' (ch:=[]) h1 h3 h4 h2 (fun b z=>absurd z (by simp))
  have J':Inv X pins σ' H' s':=Inv.ofB hok I'
  have J2:Inv X pins σ' H2 s'':=Inv.ofB hok I2
  have Ne:=Z2W J' hex h8
  have NT:=Z2W J' hex h9
  exact atH_of J2 hst hfr hex ⟨h6,Ne.h0,Ne.hL,Ne.hc,Ne.hp⟩ ⟨h7,NT.h0,NT.hL,NT.hc,NT.hp⟩ Ne.hf h5 h10 fun s3 T1 a=>hh pins D H2 s3 ea T1 C' d a h11
 refine wpAny_mono (hb pins _ _ pass [] s σ H D (Inv.toB I _) h) (fun f s1 q=>?_) fun _ _ z=>z
 cases f with
 |next =>
  obtain⟨σ',H',I',q⟩:=q
  exact wpAny_execs_nil ⟨σ',H',Inv.ofB hok I',q⟩
 |ret u =>
  obtain⟨v,σ',H',I',r,q⟩:=q
  exact⟨v,σ',H',Inv.ofB hok I',r,q⟩
 |brk =>
  obtain⟨σ',H',I',q⟩:=q
  exact⟨σ',H',Inv.ofB hok I',q⟩
 |cont =>
  obtain⟨σ',H',I',q⟩:=q
  exact⟨σ',H',Inv.ofB hok I',q⟩
end
end EX
end
section
namespace EX
open PySem PySem.Spec PyProof.Rows L2
open Builtin Builtin.ObjectAttr
open PySem.W (Looks)
structure XG(K:Z0a)(C:Addr):Prop where
 ga:PySem.W.findIn K (.ref C) "__getattribute__" = some (some (.builtin "BaseException.__getattribute__"))
 gh:PySem.W.findIn K (.ref C) "__getattr__" = some none
 hd:PySem.W.hasDictIn K C=true
 sub:PySem.W.mroIn K C (.type "BaseException")=some true
theorem ga_kind:builtinKind "BaseException.__getattribute__" = some .slot:=by decide +kernel
theorem ga_split:splitId "BaseException.__getattribute__" = some ("BaseException","__getattribute__"):=by decide +kernel
theorem ga_slot:Slot "Exception" "__getattribute__" "BaseException.__getattribute__" :=
 .of (owner:="BaseException") (n:="__getattribute__") (by rw [typeLookup_type,builtinLookup_eq_fast];kernel_rfl) (by decide +kernel) (by decide +kernel) (by decide +kernel)
  (by first |exact .inl (by decide +kernel) |exact .inr (by decide +kernel)) (by rw [isSubtype_type];kernel_rfl)
section
variable{X:Cx}{pins:List (Addr×Obj)}{σ:L2.St}{H:Hp}{s:Shared}{ea C dx:Addr}{fs:List (Str×V)}{f:Str}{v:V}{A:Around}{E:Value→Shared→Prop}
theorem xget_ok{b:Bool}{z:Bool}{Q:Value→Shared→Prop}(I:Inv X pins σ H s)(e:H ea=some (XE z ea C dx))(ed:H dx=some (.xd fs))(g:XG X.K C)(n:NoAttr X.K C f)(l:fs.lookup f=some v)
  (h:∀ u s',Inv X pins σ H s'→RelV v u→Q u s'):wpAny (model X.prog X.w) A (getAttr (.ref ea) f b) Q E s:=by
 obtain⟨⟨vs,sl,e1,_⟩,_⟩:=(show ObjOk X.prog X.w H s.heap ea (XE z ea C dx)from I.hok ea _ e)
 obtain⟨mA,n1,r⟩:=(show ObjOk X.prog X.w H s.heap dx (.xd fs)from I.hok dx _ ed)
 obtain⟨u,hu,ru⟩:=RelO.some_of (v:=v) (o:=mA f) (by rw [←l];exact r f)
 obtain⟨od,ho,hl⟩:=Z7z n1
 have J:PySem.W.InstAt s.heap ea (xob C (some dx) vs sl) C (some od):=⟨e1,rfl,rfl,ho⟩
 have hf:PySem.W.findObj X.K C (some od) f=some (.value u):=PySem.W.findObj_own g.hd n rfl (by rw [hl,hu])
 have KX:=I.kIn
 have hQ:=h u { s with toks:=s.toks+1 } (I.tok _) ru
 obtain⟨hp,gg,d,tk,os⟩:=s
 have L0:Looks (model X.prog X.w) hp (typeOf (.ref ea)) (.ref C):=J.type
 have L1:Looks (model X.prog X.w) hp (typeLookup (.ref C) "__getattribute__") (some (.builtin "BaseException.__getattribute__")):=Z1M KX g.ga
 have L2:Looks (model X.prog X.w) hp (typeLookup (.ref C) "__getattr__") none:=Z1M KX g.gh
 have L3:Looks (model X.prog X.w) hp (find (.ref ea) (.ref C) f) (.value u):=PySem.W.looks_find KX J hf
 have L4:Looks (model X.prog X.w) hp (isInstance (.ref ea) (.type "BaseException")) true:=L0.andThen (PySem.W.looks_mroIn KX g.sub)
 unfold getAttr getAttrBy
 refine wpAny_bind (wpAny_mkText (wpAny_holding (wpAny_bind (L0.at (wpAny_bind (L1.at ?_))))))
 show wpAny _ _ (getAttrByItsOwn _ _ _ _ _ _) _ _ _
 unfold getAttrByItsOwn
 refine wpAny_bind (L2.at (wpAny_bind (wpAny_attempt (wpAny_holding ?_))))
 have hx0:(b&&onTheHeap (Value.builtin "BaseException.__getattribute__"))=false:=by cases b<;>rfl
 unfold callGetattribute
 rw [hx0,if_neg (by decide)]
 unfold boundAndCalled
 rw [ga_slot.bind]
 refine wpAny_bind (wpAny_pure ?_)
 refine wpAny_call (codeAny_call_builtin ga_slot.plain PySem.F.entry_bexc_ga (@PySem.W.check_slot (model X.prog X.w) _ _ ⟨hp,gg,d,tk+1,os⟩ "BaseException.__getattribute__" "BaseException" "__getattribute__" (.ref ea) [.str f tk] [] _ ga_kind ga_split L4 (PySem.F.args_bexc_ga _ _) ?_))
 unfold Builtin.«object.__getattribute__»
 repeat lk
 show wpAny _ _ (handedOut u) _ _ _
 rw [PySem.W.handedOut_of (Z7I ru)]
 exact wpAny_pure hQ
def tXf(K:Z0a)(ta:TE)(f:Str):TE:=fun σ H Q=>ta σ H fun x H1=>∃ z ea C dx fs v,x=.ref ea∧H1 ea=some (XE z ea C dx)∧H1 dx=some (.xd fs)∧XG K C∧NoAttr K C f∧fs.lookup f=some v∧Q v H1
theorem pe_xf{e:Expr}{pos:Pos}{ta:TE}(he:PE X e ta)(hb:attributeBase e f X.env (eval e X.env)=eval e X.env):PE X (.Attribute e f pos) (tXf X.K ta f):=by
 intro pins s σ H Q I h
 refine Z9z hb (thn (he pins s σ H _ I h) fun u s1 ⟨x,H1,I1,rx,z,a,C,dx,fs,v,ex,ea,ed,c,n,l,q⟩=>?_)
 subst ex
 obtain rfl:u=Value.ref a:=rx
 exact xget_ok I1 ea ed c n l fun u' s2 I2 ru=>⟨v,H1,I2,ru,q⟩
end
section
variable{P:Program}{w:World}{K:Z0a}{mg:Str→Option Value}{base:Heap}{N ps:List Str}{qual x:Str}{f:Addr}{st:Stmt}{fd:FuncData}{k:Nat}{sp:Sp}
end
section
variable{X:Cx}{k:Nat}{f:Addr}{fd:FuncData}{ps:List Str}{sp:Sp}{x:Str}{p pos:Pos}{e:Expr}{es:List Expr}{t:TA}
end
end EX
end
section
namespace EX
open PySem PySem.Spec PyProof.Rows L2
theorem Z6P{env env':Env}(h:env.frame=env'.frame)(e:Value):noteFrame e env=noteFrame e env':=by
 unfold noteFrame PySem.frameOf
 rw [h]
theorem Kp.refl(fs ch:List Addr)(h:Heap):Kp fs ch h h:=⟨fun b o e _ _=>e,fun b o e _=>⟨o.slots,e⟩⟩
section
variable{M:Model}{A:Around}{E:Value→Shared→Prop}{s:Shared}
theorem Z6A{z:Bool}{base:Heap}{env:Env}{outer:List Env}{L e T C:Addr}{dx:Option Addr}{fl:Value}{Q:Unit→Shared→Prop}
  (hfr:A.frames=some (env::outer))(hl:s.heap.FunFrames base (env::outer))(hf:env.frame=some L)(he:Fly z s.heap e T C dx fl)
  (h:∀ h' T',Fly z h' e T' C dx (rawInt L)→(T'=T∨s.heap.get? T'=none)→Kp (frs (env::outer)) [T,e] s.heap h'→Q () { s with heap:=h' }):wpAny M A (noteFrame (.ref e) env) Q E s:=by
 by_cases hfl:(fl==rawInt L)=true
 ·have hfl':=hfl
  obtain⟨⟨vs,sl,e1,e2⟩,⟨oT,ts,t1,t2,t3⟩,ne⟩:=id he
  have q:fl=rawInt L:=eq_of_beq hfl
  subst q
  unfold noteFrame
  rw [hf]
  refine wpAny_bind (wpAny_field e1 rfl e2 ?_)
  rw [if_pos (show(Value.ref T != Value.none)=true by simp)]
  refine wpAny_bind (wpAny_field t1 t2 t3 ?_)
  rw [if_pos hfl]
  exact wpAny_pure (h s.heap T he (.inl rfl) (Kp.refl _ _ _))
 ·obtain⟨⟨vs,sl,e1,e2⟩,⟨oT,ts,t1,t2,t3⟩,ne,cx⟩:=he
  unfold noteFrame
  rw [hf]
  refine wpAny_bind (wpAny_field e1 rfl e2 ?_)
  rw [if_pos (show(Value.ref T != Value.none)=true by simp)]
  refine wpAny_bind (wpAny_field t1 t2 t3 ?_)
  rw [if_neg hfl]
  refine wpAny_bind (wpAny_setField t1 t2 (Z0S.mp t3).1 ?_)
  have oth:∀ b,b≠T→(s.heap.update T (Obj.mapFields (·.setIfInBounds 3 Value.none))).get? b=s.heap.get? b:=fun b hb=>Z0H _ _ (Ne.symm hb)
  have nr:∀ b o,s.heap.get? b=some o→(∀ vs,o.data≠.fields vs)→b≠T:=fun b o hb hn q=>by
   rw [q,t1]at hb
   cases hb
   exact hn ts t2
  refine Z5O hfr (hl.of_keeps fun b o hb hn=>⟨o,(oth b (nr b o hb hn)).trans hb,rfl⟩) hf ((oth e ne.symm).trans e1) (Z0S.mp e2).1 (fun hz=>cx hz _ _ e1 rfl) fun h' T' f n k=>h h' T' f ?_ ⟨fun b o q n1 n2=>?_,fun b o q n1=>?_⟩
  ·by_cases z:T'=T
   ·exact .inl z
   ·right
    rw [←oth T' z];exact n
  ·simp only [Z0d,Z0w,or_false,not_or]at n1
   exact k.keep b o ((oth b n1.1).trans q) (by simpa using n1.2) n2
  ·simp only [Z0d,Z0w,or_false,not_or]at n1
   exact k.slot b o ((oth b n1.1).trans q) (by simpa using n1.2)
end
section
variable{X:Cx}{pins:List (Addr×Obj)}{σ:L2.St}{H:Hp}{s:Shared}{E':Value→Shared→Prop}{E:XK}
theorem Z7F{z:Bool}{ea T C:Addr}{dx:Option Addr}{fl:Value}(I:Inv X pins σ H s)(hst:X.stack=X.env::X.outer)(hfr:X.env.frame=some X.env.locals)(hex:X.ex=[])(hf:Fly z s.heap ea T C dx fl)
  (h1:H ea=none∧X.s_0.heap.get? ea=none)(hT:H T=none∧X.s_0.heap.get? T=none)
  (hd:∀ dx',dx=some dx'→∃ fs,H dx'=some (.xd fs))(hE:E (.ref C) dx H):wpAny (model X.prog X.w) X.A (leaving X.env (.ref ea)) (fun _ s'=>CXQ z X.prog X.w X.outer X.H_0 X.s_0 E (.ref ea) s') E' s:=by
 have hF:X.A.frames=some (X.env::X.outer):=by rw [←hst];exact I.ok.frames
 have hL:s.heap.FunFrames X.base (X.env::X.outer):=by rw [←hst];exact I.stack
 unfold leaving
 refine wpAny_bind (Z6A hF hL hfr hf fun h1' T' f n k=>?_)
 have nT:H T'=none∧X.s_0.heap.get? T'=none:=by
  rcases n with rfl |n
  ·exact hT
  ·exact nones I hex n
 have k':Kp (frs X.stack) [T,ea] s.heap h1':=by rw [hst];exact k
 refine land_ (fs:=frs X.stack) (s:={ s with heap:=h1' }) f fun h2 f2 k2=>?_
 have k3:=k'.trans k2
 have hc3:∀ b∈[T,ea]++[T'],H b=none∧X.s_0.heap.get? b=none:=fun b hb=>by
  simp only [List.cons_append,Z1D,Z0d,Z0w,or_false]at hb
  rcases hb with rfl |rfl |rfl
  ·exact hT
  ·exact h1
  ·exact nT
 exact⟨ea,T',C,dx,H,rfl,I.os,I.bare,un_kp I hst hfr hex k3 fun b hb=>(hc3 b hb).2,Z6S I k3 fun b hb=>(hc3 b hb).1,f2,h1.1,nT.1,h1.2,nT.2,hd,hE⟩
theorem blk_exc{z:Bool}{H3:Hp}{s3:Shared}{scope:Scope}{ce:Env}{fp:List Addr}{use:Option (Value→Sem Unit)}{Qf:Value→Shared→Prop}{acc:Value}(I3:Inv X pins σ H3 s3)(hst:X.stack=X.env::X.outer)(hfr:X.env.frame=some X.env.locals)(hex:X.ex=[])
  (hxe:∀ e s',wpAny (model X.prog X.w) X.A (leaving X.env e) (fun _ s''=>CXQ z X.prog X.w X.outer X.H_0 X.s_0 E e s'') (fun e' s''=>CXQ z X.prog X.w X.outer X.H_0 X.s_0 E e' s'') s'→X.xe e s')
  (f3:∀ b∈fp,FpOk X pins H3 b∧b<s3.heap.objs.size)(hce:ce.frame=X.env.frame)(cL:ce.locals=s3.heap.objs.size) :
  Z2I (CXQ z X.prog X.w) ((X.blk s3 H3 scope ce fp).wish (notedBy (model X.prog X.w) X.A ce fun e s'=>compPost (model X.prog X.w) X.A X.xe use Qf acc s3.heap.objs.size (.error e) s')) E:=by
 intro pins' σ' H5 s5 e s6 I5 hcx
 obtain⟨ea,T,C,dx,H',rfl,h1,h2,h3,h4,h5,h6,h7,h8,h9,h10,h11⟩:=hcx
 have I6:=I5.call' (ch:=[]) h1 h3 h4 h2 (fun b z=>absurd z (by simp))
 show wpAny (model X.prog X.w) X.A (noteFrame (.ref ea) ce) _ _ s6
 rw [Z6P hce]
 have hF:X.A.frames=some (X.env::X.outer):=by rw [←hst];exact I3.ok.frames
 have hL:s6.heap.FunFrames X.base (X.env::X.outer):=by
  have z:s6.heap.FunFrames X.base X.stack:=I6.stack
  rw [←hst];exact z
 have un6:Un (frs X.stack) fp H3 H' s3.heap s6.heap:=I6.base
 refine Z6A hF hL hfr h5 fun h7' T7 f7 n7 k7=>?_
 have k7:Kp (frs X.stack) [T,ea] s6.heap h7':=by rw [hst];exact k7
 obtain⟨m,hn,_⟩:=I6.loc
 have hn:s6.heap.Ns ce.locals m:=hn
 rw [cL]at hn
 have hnC:=hn
 obtain⟨oC,es,ep,eC,dC,rC⟩:=hnC
 have none3:∀ {b:Addr},s6.heap.get? b=none→b∉fp→s3.heap.get? b=none:=fun{b} n hb=>by
  cases w:s3.heap.get? b with
  |none=>rfl
  |some o =>
   obtain⟨q,z⟩:=un6.there b o w hb
   rw [n]at z;cases z
 have none5:∀ {b:Addr},s5.heap.get? b=none→b∉fp→s3.heap.get? b=none:=fun{b} n hb=>by
  cases w:s3.heap.get? b with
  |none=>rfl
  |some o =>
   obtain⟨q,z⟩:=I5.base.there b o w hb
   rw [n]at z;cases z
 have none0:∀ {b:Addr},(b∉fp→s3.heap.get? b=none)→X.s_0.heap.get? b=none:=fun{b} n=>by
  by_cases hb:b∈fp
  ·rcases(f3 b hb).1.2.2.2.1 with z |z
   ·rw [hex]at z;cases z
   ·exact Z1l z
  ·exact(nones I3 hex (n hb)).2
 have nCf:s3.heap.objs.size∉frs X.stack:=fun z=>by
  have zl:s3.heap.FunFrames X.base X.stack:=I3.stack
  obtain⟨_,o,ho,_⟩:=zl.mem z
  exact absurd (Z0h ho) (Z0u _)
 have nCe:s3.heap.objs.size≠ea:=fun z=>by
  obtain⟨⟨vs,sl,e1,e2⟩,_⟩:=h5
  rw [z,e1]at eC
  cases eC
  cases dC
 have nCT:s3.heap.objs.size≠T:=fun z=>by
  obtain⟨_,⟨oT,ts,t1,t2,t3⟩,_⟩:=h5
  rw [z,t1]at eC
  cases eC
  rw [t2]at dC;cases dC
 have eC7:h7'.get? s3.heap.objs.size=some oC:=k7.keep _ _ eC (by simp only [Z0d,Z0w,or_false,not_or];exact⟨nCT,nCe⟩) nCf
 have hT7:H' T7=none:=by
  rcases n7 with rfl |n7
  ·exact h7
  ·cases w:H' T7 with
   |none=>rfl
   |some o =>
    obtain⟨q,z⟩:=obj_in (I6.hok T7 o w)
    rw [n7]at z;cases z
 refine⟨m,⟨oC,es,ep,eC7,dC,rC⟩,fun h' sb cenv _=>?_⟩
 obtain⟨⟨vs,sl,e1,e2⟩,⟨oT,ts,t1,t2,t3⟩,ne,cx7⟩:=id f7
 have nCT7:s3.heap.objs.size≠T7:=fun z=>by
  rw [z,t1]at eC7
  cases eC7
  rw [t2]at dC;cases dC
 have e1':h'.get? ea=some (xob C dx vs sl):=(sb.2 ea (Ne.symm nCe)).trans e1
 have t1':h'.get? T7=some oT:=(sb.2 T7 (Ne.symm nCT7)).trans t1
 have hsz:=(Z0S.mp t3).1
 unfold PySem.passOn setFlight
 refine wpAny_bind (wpAny_field e1' rfl e2 ?_)
 rw [if_neg (show ¬ ((Value.ref T7==Value.none)=true) by simp)]
 refine wpAny_bind (wpAny_bind (wpAny_field e1' rfl e2 ?_))
 rw [if_pos (show(Value.ref T7 != Value.none)=true by simp)]
 refine wpAny_setField t1' t2 hsz ?_
 refine wpAny_throw (hxe _ _ ?_)
 generalize hfl:(cenv.frame.elim Value.none fun f=>rawInt f)=fl
 have oth:∀ b,b≠T7→(h'.update T7 (Obj.mapFields (·.setIfInBounds 3 fl))).get? b=h'.get? b:=fun b hb=>Z0H _ _ (Ne.symm hb)
 have f8:Fly z (h'.update T7 (Obj.mapFields (·.setIfInBounds 3 fl))) ea T7 C dx fl:=⟨⟨vs,sl,(oth ea ne.symm).trans e1',e2⟩,⟨_,_,Z0M _ t1' (Obj.isFreed_of_fields (Obj.data_mapFields t2 _)),Obj.data_mapFields t2 _,by simp [hsz]⟩,ne,fun hz o vs q=>cx7 hz o vs (((oth ea ne.symm).trans (sb.2 ea (Ne.symm nCe))).symm.trans q)⟩
 have k8:Kp (frs X.stack) [T,ea,s3.heap.objs.size,T7] s6.heap (h'.update T7 (Obj.mapFields (·.setIfInBounds 3 fl))):=by
  refine⟨fun b o q n1 n2=>?_,fun b o q n1=>?_⟩
  ·simp only [Z0d,Z0w,or_false,not_or]at n1
   rw [oth b n1.2.2.2,sb.2 b n1.2.2.1]
   exact k7.keep b o q (by simp only [Z0d,Z0w,or_false,not_or];exact⟨n1.1,n1.2.1⟩) n2
  ·simp only [Z0d,Z0w,or_false,not_or]at n1
   rw [oth b n1.2.2.2,sb.2 b n1.2.2.1]
   exact k7.slot b o q (by simp only [Z0d,Z0w,or_false,not_or];exact⟨n1.1,n1.2.1⟩)
 have freeC:H' s3.heap.objs.size=none:=by
  have z:H' ce.locals=none:=I6.free
  rw [cL]at z;exact z
 have hch:∀ b∈[T,ea,s3.heap.objs.size,T7],H' b=none∧(b∉fp→s3.heap.get? b=none):=fun b hb=>by
  simp only [Z0d,Z0w,or_false]at hb
  rcases hb with rfl |rfl |rfl |rfl
  ·exact⟨h7,none5 h9⟩
  ·exact⟨h6,none5 h8⟩
  ·exact⟨freeC,fun _=>Z1l (Z0e _)⟩
  ·refine⟨hT7,fun hb=>?_⟩
   rcases n7 with rfl |n7
   ·exact none5 h9 hb
   ·exact none3 n7 hb
 have un8:Un (frs X.stack) fp H3 H' s3.heap (h'.update T7 (Obj.mapFields (·.setIfInBounds 3 fl))):=by
  have nch:∀ b o,s3.heap.get? b=some o→b∉fp→b∉[T,ea,s3.heap.objs.size,T7]:=fun b o q hb z=>by
   rw [(hch b z).2 hb]at q;cases q
  refine⟨fun b o q n hb hx=>k8.keep b o (un6.keep b o q n hb hx) (nch b o q hx) hb,fun b o q n hb hx=>?_,un6.free,fun b o q hx=>?_,un6.tups,un6.frzs,un6.tbls⟩
  ·obtain⟨sl',e'⟩:=un6.slot b o q n hb hx
   obtain⟨sl2,e2'⟩:=k8.slot b _ e' (nch b o q hx)
   exact⟨sl2,e2'⟩
  ·obtain⟨o',e'⟩:=un6.there b o q hx
   obtain⟨sl2,e2'⟩:=k8.slot b _ e' (nch b o q hx)
   exact⟨_,e2'⟩
 have hok8:HOk X.prog X.w H' (h'.update T7 (Obj.mapFields (·.setIfInBounds 3 fl))):=Z6S (X:=(X.blk s3 H3 scope ce fp).wish _) I6 k8 fun b hb=>(hch b hb).1
 have I8:Inv X pins σ H' { s6 with heap:=h'.update T7 (Obj.mapFields (·.setIfInBounds 3 fl)) } :=
  I3.call' (ch:=fp) I6.os un8 hok8 I6.bare fun b hb=>⟨(f3 b hb).1.2.2.2.1,(f3 b hb).1.2.1,(f3 b hb).1.2.2.2.2.1,(f3 b hb).1.2.2.2.2.2⟩
 exact Z7F I8 hst hfr hex f8 ⟨h6,none0 (none5 h8)⟩ ⟨hT7,none0 (hch T7 (by simp)).2⟩ h10 h11
end
theorem Z7R:entryFor table "proto.unchain" = some Builtin.«proto.unchain»:=entryFor_of_tree (by kernel_rfl)
abbrev from6(t ea:Addr):Array Value:=#[.ref t,.none,.ref ea,.ref ea,.bool true,.none]
section
variable{P:Program}{w:World}{A:Around}{E:Value→Shared→Prop}{env:Env}{C ea:Addr}
theorem Z9I{s:Shared}{x c:Sem Value}{Q:Flow→Shared→Prop}(hh:A.handled=some (.ref ea))
  (h:wpAny (model P w) A x (fun v s1=>∃ e d t,v=.ref e∧wpAny (model P w) A c (fun cv s2=>cv=.ref ea∧e≠ea∧(∃ nm q N bs hdct sn sub ab col dd k0 k1 k2 k3 k5 newId,s2.heap.get? C=some (excClassObj nm q C N bs bmX hdct sn sub ab col dd k0 k1 k2 k3 k5 newId)) ∧
    s2.heap.get? e=some (xob C d (Z4C t) #[])∧C≠e∧(∃ vs sl dd,s2.heap.get? ea=some (xob C dd vs sl)∧vs[2]?=some .none) ∧
    ∀ h',h'.get? e=some (xob C d (from6 t ea) #[])→(∀ b,b≠e→h'.get? b=s2.heap.get? b)→E (.ref e) { s2 with heap:=h' }) E s1) E s):wpAny (model P w) A (raiseStmt env (some x) (some c)) Q E s:=by
 have hcB:(Value.ref C::bmX).contains (.type "BaseException")=true:=by rw [Z1C,show bmX.contains (.type "BaseException")=true by decide,Bool.or_true]
 unfold raiseStmt
 refine wpAny_bind (wpAny_mono h (fun v s1 h1=>?_) fun _ _ x=>x)
 obtain⟨e,d',t,rfl,h1⟩:=h1
 refine wpAny_bind (wpAny_holding (wpAny_mono h1 (fun cv s2 h2=>wpAny_bind (wpAny_pure ?_)) fun _ _ x=>x))
 obtain⟨rfl,ne,⟨nm,q,N,bs,hdct,sn,sub,ab,col,dd,k0,k1,k2,k3,k5,newId,hC⟩,he,neC,⟨vs,sl,dd',ha,ha2⟩,hE⟩:=h2
 obtain⟨hp,g,d,tk,os⟩:=s2
 repeat (first |with_reducible refine wpAny_loadPart_at he ?_ |with_reducible refine wpAny_loadPart_at ha ?_ |with_reducible refine wpAny_loadPart_at hC ?_ |(with_reducible refine wpAny_isSubtype_exc hC ?_;rw [hcB]) |wp_step)
 have e1:(hp.update e (Obj.mapFields fun x=>x.setIfInBounds 3 (Value.ref ea))).get? e=some (xob C d' #[.ref t,.none,.none,.ref ea,.bool false,.none] #[]):=Z0M _ he rfl
 have e2:((hp.update e (Obj.mapFields fun x=>x.setIfInBounds 3 (Value.ref ea))).update e (Obj.mapFields fun x=>x.setIfInBounds 4 (Value.bool true))).get? e=some (xob C d' #[.ref t,.none,.none,.ref ea,.bool true,.none] #[]):=Z0M _ e1 rfl
 have oth:∀ b,b≠e→((hp.update e (Obj.mapFields fun x=>x.setIfInBounds 3 (Value.ref ea))).update e (Obj.mapFields fun x=>x.setIfInBounds 4 (Value.bool true))).get? b=hp.get? b:=fun b hb=>(Z0H _ _ (Ne.symm hb)).trans (Z0H _ _ (Ne.symm hb))
 generalize (hp.update e (Obj.mapFields fun x=>x.setIfInBounds 3 (Value.ref ea))).update e (Obj.mapFields fun x=>x.setIfInBounds 4 (Value.bool true))=h2 at e2 oth ⊢
 have ha':h2.get? ea=some (xob C dd' vs sl):=(oth ea ne.symm).trans ha
 unfold raiseNew
 refine wpAny_bind (wpAny_handled ?_)
 rw [hh]
 have hne:(Value.ref ea != Value.ref e)=true:=by
  simp only [bne_iff_ne,ne_eq,Value.ref.injEq]
  exact ne.symm
 dsimp only
 rw [if_pos hne]
 refine wpAny_bind (wpAny_holding (runValue_entry Z7R ?_))
 unfold Builtin.«proto.unchain»
 dsimp only
 refine wpAny_bind (wpAny_field ha' rfl ha2 ?_)
 rw [if_pos (by rfl)]
 refine wpAny_pure ⟨_,rfl,?_⟩
 refine wpAny_bind (wpAny_setField (i:=2) (x:=.ref ea) e2 rfl (by show 2<6;decide) (wpAny_throw ?_))
 exact hE _ (Z0M _ e2 rfl) fun b hb=>(Z0H _ _ (Ne.symm hb)).trans (oth b hb)
end
def Z9H(X:Cx)(E:XK):Prop:=∀ (pins:List (Addr×Obj))(σ:L2.St)(H:Hp)(s:Shared)(ea T C:Addr)(d:Option Addr)(fl:Value),Inv X pins σ H s→Fly false s.heap ea T C d fl→(H ea=none∧X.s_0.heap.get? ea=none)→(H T=none∧X.s_0.heap.get? T=none) →
 (∀ dx,d=some dx→∃ fs,H dx=some (.xd fs))→E (.ref C) d H→X.xe (.ref ea) s
section
variable{P:Program}{w:World}{K:Z0a}{mg:Str→Option Value}{base:Heap}{N:List Str}{qual:Str}{scope:Scope}{f:Addr}{cd:Value}{A:Around}{outer:List Env}{s0:Shared}{H0:Hp}{E:XK}
theorem Z9N:Z9H (cxQ false P w K mg base N qual scope f cd A outer s0 H0 E) E:=by
 intro pins σ H s ea T C d fl I hf h1 h2 hd hE
 exact Z7F I rfl rfl rfl hf h1 h2 hd hE
end
section
variable{M:Model}{A:Around}{E:Value→Shared→Prop}{s:Shared}
theorem Z9r{z:Bool}{fs:List Addr}{e T C:Addr}{dx:Option Addr}{fl:Value}{fr:Option Addr}{Q:Unit→Shared→Prop}(he:Fly z s.heap e T C dx fl)
  (h:∀ h' fl',Fly z h' e T C dx fl'→Kp fs [T] s.heap h'→Q () { s with heap:=h' }):wpAny M A (setFlight (.ref e) fr) Q E s:=by
 obtain⟨⟨vs,sl,e1,e2⟩,⟨oT,ts,t1,t2,t3⟩,ne,cx⟩:=he
 have sz:=(Z0S.mp t3).1
 have oth:∀ v b,b≠T→(s.heap.update T (Obj.mapFields (·.setIfInBounds 3 v))).get? b=s.heap.get? b:=fun v b hb=>Z0H _ _ (Ne.symm hb)
 unfold setFlight
 refine wpAny_bind (wpAny_field e1 rfl e2 ?_)
 rw [if_pos (show(Value.ref T != Value.none)=true by simp)]
 refine wpAny_setField t1 t2 sz (h _ _ ⟨⟨vs,sl,(oth _ e ne.symm).trans e1,e2⟩,⟨_,_,Z0M _ t1 (Obj.isFreed_of_fields (Obj.data_mapFields t2 _)),Obj.data_mapFields t2 _,by simp [sz];rfl⟩,ne,fun hz o vs q=>cx hz o vs ((oth _ e ne.symm).symm.trans q)⟩ ⟨?_,?_⟩)
 ·exact fun b o q n1 _=>(oth _ b fun z=>n1 (by rw [z];exact Z0i.mpr rfl)).trans q
 ·exact fun b o q n1=>⟨o.slots,(oth _ b fun z=>n1 (by rw [z];exact Z0i.mpr rfl)).trans q⟩
theorem tbNe{z:Bool}{e T C:Addr}{dx:Option Addr}{fl:Value}{Q:Value→Shared→Prop}(he:Fly z s.heap e T C dx fl)(h:Q (.ref T) s):wpAny M A (field (.ref e) 1) Q E s:=by
 obtain⟨⟨vs,sl,e1,e2⟩,_⟩:=he
 exact wpAny_field e1 rfl e2 h
theorem Fly.same{z:Bool}{L:Addr}{h h':Heap}{e T C:Addr}{dx:Option Addr}{fl:Value}(he:Fly z h e T C dx fl)(sb:Heap.SameBut L h h')(n1:e≠L)(n2:T≠L):Fly z h' e T C dx fl:=by
 obtain⟨⟨vs,sl,e1,e2⟩,⟨oT,ts,t1,t2,t3⟩,ne,cx⟩:=he
 exact⟨⟨vs,sl,(sb.2 e n1).trans e1,e2⟩,⟨oT,ts,(sb.2 T n2).trans t1,t2,t3⟩,ne,fun hz o vs q=>cx hz o vs ((sb.2 e n1).symm.trans q)⟩
end
structure AtS(z:Bool)(X:Cx)(pins:List (Addr×Obj))(σ:L2.St)(H:Hp)(s:Shared)(ea T C:Addr)(d:Option Addr):Prop where
 inv:Inv X pins σ H s
 fly:Fly z s.heap ea T C d .none
 oe:Off X pins H ea
 oT:Off X pins H T
 fe:ea∉frs X.stack
 hd:∀ dx,d=some dx→∃ fs,H dx=some (.xd fs)
theorem AtS.toH{z:Bool}{X:Cx}{pins:List (Addr×Obj)}{σ:L2.St}{H:Hp}{s:Shared}{ea T C:Addr}{d:Option Addr}(a:AtS z X pins σ H s ea T C d):AtH z X pins H s ea T C d:=⟨Inv.blank a.inv,a.fly,a.oe,a.oT,a.fe,a.hd⟩
section
variable{X:Cx}{pins:List (Addr×Obj)}{σ:L2.St}{H:Hp}{s:Shared}{C ea T i dx fI:Addr}{n x f1 f2 f3:Str}{d3:Int}{p p1 p2 pos cpos rpos:Pos}{rest:List ExceptHandler}{D:Ends}
theorem hb_asR{a1:Expr}{as:List Expr}{ta:TA}{E:XK}(a:AtS true X pins σ H s ea T C (some dx))(TI:XInit X.K C fI f1 f2 f3 d3)(hst:X.stack=X.env::X.outer)(hfr:X.env.frame=some X.env.locals)(hex:X.ex=[])(hdp:X.A.depth+1<recursionLimit)
  (hg:Gl X x)(hm:X.mg x=some (.ref C))(hN:X.N.Nodup)(hi:X.N[i]?=some n)(hl:X.env.scope.names.lookup n=some .local)(hx:Z9H X E)
  (ha:∀ ea,PA (XS X ea) (a1::as) ta)(hE:∀ ea,H ea=none→ea≠dx→ta (σ.set i (some (.ref ea))) (upd H ea (XE true ea C dx)) fun vs H1=>H1 ea=some (XE true ea C dx) ∧
    ∃ v1 v2 v3,Arg3 d3 vs v1 v2 v3∧∀ dx2,H1 dx2=none→E (.ref C) (some dx2) (upd H1 dx2 (.xd [(f3,v3),(f2,v2),(f1,v1)])))(hdb:(x==("__debug__" : Str))=false:=by decide)(hdn:(n==("__debug__" : Str))=false:=by decide)(hcn:(n==("__classdict__" : Str))=false:=by decide)
  (he:starEach (a1::as) X.env=(false,eval a1 X.env)::starEach as X.env:=by rfl)(hpl:(backTo cpos (starEach as X.env)).any (·.1)=false:=by rfl) :
  wpAny (model X.prog X.w) X.A (handleBy (.ref ea) X.env (.ExceptHandler (some (.Name x p)) (some n) [.Raise (some (.Call (.Name x p1) (a1::as) [] cpos)) (some (.Name n p2)) rpos] pos::rest)) (SP X pins D) X.xe s:=by
 refine wpAny_handleBy_cons (codeAny_handlers_test (Z2V (X:=XS X ea) (Inv.toS a.inv ea) hg hm (hit a.toH TI.c.k1 ?_) hdb)) (by intro z;cases z)
 refine codeAny_handlers_suite_as ?_
 refine land_ (fs:=frs X.stack) a.fly fun h3 f3' k3'=>?_
 have a3:Inv X pins σ H { s with heap:=h3 }:=Z3P a.inv hst hfr hex k3' (fun b hb=>by rw [Z0i.mp hb];exact a.oT)
 obtain⟨vs3,sl3,e3,_⟩:=f3'.obj
 have I4:=track (a:=ea) (o:=XE true ea C dx) a3 ⟨a.oe.hn,a.oe.h0,a.oe.hL,a.oe.hc,a.oe.hp,a.fe⟩ (xe_ok ⟨vs3,sl3,e3,fun hz=>f3'.cx hz _ _ e3 rfl⟩)
 have hd:ea≠dx:=fun z=>by
  obtain⟨fs,hf⟩:=a.hd dx rfl
  rw [←z,a.oe.hn]at hf
  cases hf
 have hib:i<σ.length:=by rw [a.inv.len];exact(Z0p.mp hi).1
 refine Z5m (X:=XS X ea) (v:=.ref ea) (Inv.toS I4 ea) hN hi (.inl hl) rfl (fun s5 I5=>?_) (.inr hl)
 refine wpAny_execs_cons ?_
 rw [arm_exec_Raise]
 refine wpAny_bind (wpAny_standAt (Z9I (C:=C) (ea:=ea) rfl ?_))
 have key:wpAny (model X.prog X.w) (XS X ea).A (eval (.Call (.Name x p1) (a1::as) [] cpos) X.env) (fun v s1=>∃ e2 dx2 t H2,v=.ref e2∧Inv (XS X ea) pins (σ.set i (some (.ref ea))) H2 s1∧s1.heap.get? e2=some (xob C (some dx2) (Z4C t) #[])∧New (XS X ea) pins H2 e2 ∧
   H2 ea=some (XE true ea C dx)∧(∃ fs,H2 dx2=some (.xd fs))∧E (.ref C) (some dx2) H2) (fun _ _=>False) s5:=by
  refine wpAny_Call_Name_kw (Z2V I5 hg hm ?_ hdb)
  refine Z0V (h₀:=X.base) I5.ok.mod.kin TI.c.kp (thn (ha ea cpos pins s5 _ _ _ I5 (hE ea a.oe.hn hd)) fun us s1 ⟨vs,H1,I1,r,hea,v1,v2,v3,hv,q⟩=>⟨I1.kIn,?_⟩) he hpl
  refine Z8m I1.kIn I1.nolimit TI hdp hv r fun h' e dx2 t tk u1 u2 u3 r1 r2 r3 b1 b2 b3 b4 b5 b6=>⟨e,dx2,t,upd H1 dx2 (.xd [(f3,v3),(f2,v2),(f1,v1)]),rfl,?_⟩
  have Ne:=Z2W I1 hex b3
  have Nd:=Z2W I1 hex b4
  have I2:Inv (XS X ea) pins _ H1 { s1 with heap:=h',toks:=tk }:=I1.kept b6
  have I3:=track (o:=.xd [(f3,v3),(f2,v2),(f1,v1)]) I2 Nd ⟨_,b2,fun f=>Z9i r1 r2 r3 f⟩
  refine⟨I3,b1,⟨by rw [Z1W b5.symm];exact Ne.hn,Ne.h0,Ne.hL,Ne.hc,Ne.hp,Ne.hf⟩,?_,⟨_,Z1X⟩,q dx2 Nd.hn⟩
  rw [Z1W fun z=>?_]
  ·exact hea
  ·rw [z,Nd.hn]at hea
   cases hea
 refine wpAny_bind (wpAny_mono key (fun v s1 h1=>wpAny_bind (wpAny_standAt (wpAny_pure ?_))) fun _ _ z=>z.elim)
 obtain⟨e2,dx2,t,H2,rfl,I2,b1,Ne,hea,hdx,hq⟩:=h1
 refine⟨e2,some dx2,t,rfl,?_⟩
 have ld:∀ {E':Value→Shared→Prop}{Q:Value→Shared→Prop},Q (.ref ea) s1→wpAny (model X.prog X.w) (XS X ea).A (eval (.Name n p2) X.env) Q E' s1:=fun{E' Q} hQ=>by
  obtain⟨m,hn,hlo⟩:=I2.loc
  obtain⟨u,r,l⟩:=hlo i n (.ref ea) hi (by rw [Z1m hib]) (.inl hl)
  obtain rfl:u=.ref ea:=r
  rcases l with⟨hk,hmm⟩ |⟨hk,c,hc,hcell⟩
  ·exact wpAny_Name (wpAny_loadName_local I2.ok.kind hk hn hmm hQ) hdn
  ·rcases hk with hk |hk
   ·exact wpAny_Name (wpAny_loadName_cell I2.ok.kind hk hc hcell hQ) hdn
   ·exact wpAny_Name (wpAny_loadName_free I2.ok.kind hk hc hcell hQ hcn) hdn
 have nea:e2≠ea:=fun z=>by
  rw [←z,Ne.hn]at hea
  cases hea
 obtain⟨⟨vs2,sl2,ea1,ea2⟩,_⟩:=(show ObjOk X.prog X.w H2 s1.heap ea (XE true ea C dx)from I2.hok ea _ hea)
 have cls:∃ nm q N bs hdct sn sub ab col dd k0 k1 k2 k3 k5 newId,s1.heap.get? C=some (excClassObj nm q C N bs bmX hdct sn sub ab col dd k0 k1 k2 k3 k5 newId):=by
  obtain⟨nm,q,N,bs,sn,sub,ab,col,dd,k0,k1,k2,k3,k5,m,c1,_⟩:=TI.c.at I2.kIn
  exact⟨nm,q,N,bs,true,sn,sub,ab,col,dd,k0,k1,k2,k3,k5,_,c1⟩
 have neC:C≠e2:=fun z=>by
  obtain⟨nm,q,N,bs,hdct,sn,sub,ab,col,dd,k0,k1,k2,k3,k5,newId,hC⟩:=cls
  rw [z,b1]at hC
  cases hC
 refine wpAny_bind (ld (wpAny_bind (wpAny_standAt (wpAny_pure ⟨rfl,nea,cls,b1,neC,⟨vs2,sl2,_,ea1,ea2 rfl⟩,fun h' q1 q2=>?_⟩))))
 have k6:Kp (frs X.stack) [e2] s1.heap h':=⟨fun b o q n1 _=>(q2 b fun z=>n1 (by rw [z];exact Z0i.mpr rfl)).trans q,fun b o q n1=>⟨o.slots,(q2 b fun z=>n1 (by rw [z];exact Z0i.mpr rfl)).trans q⟩⟩
 have Oe:Off (XS X ea) pins H2 e2:=Ne.off
 have I6:Inv (XS X ea) pins (σ.set i (some (.ref ea))) H2 { s1 with heap:=h' }:=Z3P I2 hst hfr hex k6 fun b hb=>by rw [Z0i.mp hb];exact Oe
 have hF:(X.A.mark (some (.ref ea))).frames=some (X.env::X.outer):=by rw [←hst];exact I6.ok.frames
 have hL6:h'.FunFrames X.base (X.env::X.outer):=by rw [←hst];exact I6.stack
 refine Z6M (z:=false) (s:={ s1 with heap:=h' }) hF hL6 hfr ⟨_,_,q1,rfl,fun z=>by cases z⟩ fun h7 T7 f7 n7 k7=>?_
 have k7:Kp (frs X.stack) [e2] h' h7:=by rw [hst];exact k7
 have I7:Inv (XS X ea) pins (σ.set i (some (.ref ea))) H2 { s1 with heap:=h7 }:=Z3P (s:={ s1 with heap:=h' }) I6 hst hfr hex k7 fun b hb=>by rw [Z0i.mp hb];exact Oe
 have N7:=Z2W I6 hex n7
 obtain⟨m7,hn7,_⟩:=I7.loc
 refine wpAny_nameGoes hl hn7 (by rw [a.inv.ok.kind];rfl) fun h8 m8 n8 sb8=>?_
 have I8:Inv (XS X ea) pins (EX.blank (XS X ea)) H2 { s1 with heap:=h8,toks:=s1.toks+1 }:=Z8B (s:={ s1 with heap:=h7 }) I7 n8 sb8
 have f8:Fly false h8 e2 T7 C (some dx2) (rawInt X.env.locals):=f7.same sb8 Ne.hL N7.hL
 unfold PySem.passOn
 refine wpAny_bind (tbNe (s:={ s1 with heap:=h8,toks:=s1.toks+1 }) f8 ?_)
 rw [if_neg (show ¬ ((Value.ref T7==Value.none)=true) by simp)]
 refine wpAny_bind (Z9r (fs:=frs X.stack) (s:={ s1 with heap:=h8,toks:=s1.toks+1 }) f8 fun h9 fl9 f9 k9=>wpAny_throw ?_)
 have I9:Inv (XS X ea) pins (EX.blank (XS X ea)) H2 { s1 with heap:=h9,toks:=s1.toks+1 }:=Z3P (s:={ s1 with heap:=h8,toks:=s1.toks+1 }) I8 hst hfr hex k9 fun b hb=>by rw [Z0i.mp hb];exact N7.off
 have hL9:h9.FunFrames X.base (X.env::X.outer):=by rw [←hst];exact I9.stack
 refine Z6A (s:={ s1 with heap:=h9,toks:=s1.toks+1 }) hF hL9 hfr f9 fun h10 T10 f10 n10 k10=>?_
 have k10:Kp (frs X.stack) [T7,e2] h9 h10:=by rw [hst];exact k10
 have O10:Off (XS X ea) pins H2 T10:=by
  rcases n10 with rfl |n10
  ·exact N7.off
  ·exact(Z2W I9 hex n10).off
 have I10:Inv (XS X ea) pins (EX.blank (XS X ea)) H2 { s1 with heap:=h10,toks:=s1.toks+1 }:=Z3P (s:={ s1 with heap:=h9,toks:=s1.toks+1 }) I9 hst hfr hex k10 fun b hb=>by
  rcases Z0d.mp hb with rfl |hb
  ·exact N7.off
  ·rw [Z0i.mp hb];exact Oe
 show cameBackBy _ _ _ _ _ _
 unfold cameBackBy
 refine wpAny_bind (tbNe (s:={ s1 with heap:=h10,toks:=s1.toks+1 }) f10 ?_)
 rw [if_neg (show ¬ ((Value.ref T10==Value.none)=true) by simp)]
 refine Z9r (fs:=frs X.stack) (s:={ s1 with heap:=h10,toks:=s1.toks+1 }) f10 fun h11 fl11 f11 k11=>?_
 have I11:Inv (XS X ea) pins (EX.blank (XS X ea)) H2 { s1 with heap:=h11,toks:=s1.toks+1 }:=Z3P (s:={ s1 with heap:=h10,toks:=s1.toks+1 }) I10 hst hfr hex k11 fun b hb=>by rw [Z0i.mp hb];exact O10
 exact hx pins _ H2 _ e2 T10 C (some dx2) fl11 (Inv.ofS a.inv.ok I11) f11 ⟨Ne.hn,Ne.h0⟩ ⟨O10.hn,O10.h0⟩ (fun dx' z=>by cases z;exact hdx) hq
def tTryS(sp:Sp)(W:Ends→L2.St→XK)(t:TA):TS:=fun D σ H=>t σ H fun vs H1=>sp vs H1 D.rt (W D σ)
theorem ps_tryS{z:Bool}{k:Nat}{f:Addr}{fd:FuncData}{ps:List Str}{sp:Sp}{y:Str}{q1 q2 q3 tpos:Pos}{e:Expr}{es:List Expr}{t:TA}{h0:ExceptHandler}{hs:List ExceptHandler}{W:Ends→L2.St→XK}
  (F:FnOk X.prog X.w X.K X.mg X.base (CXQ z X.prog X.w) k f fd ps sp)(hr:Room k X.A)(hg:Gl X y)(hm:X.mg y=some (.ref f))(hk:PySem.W.keepIn X.K (.ref f)=true)(hb:Binds X.K fd ps [])
  (hst:X.stack=X.env::X.outer)(hfr:X.env.frame=some X.env.locals)(hex:X.ex=[])(ha:∀ (pins:List (Addr×Obj))(E1:Value→Shared→Prop),PA (XB X pins E1) (e::es) t)
  (hh:∀ (pins:List (Addr×Obj))(D:Ends)(σ:L2.St)(H:Hp)(s:Shared)(ea T C:Addr)(d:Option Addr),AtS z X pins σ H s ea T C d→W D σ (.ref C) d H→wpAny (model X.prog X.w) X.A (handleBy (.ref ea) X.env (h0::hs)) (SP X pins D) X.xe s)
  (hdb:(y==("__debug__" : Str))=false:=by decide)(he:starEach (e::es) X.env=(false,eval e X.env)::starEach es X.env:=by rfl)(hpl:(backTo q2 (starEach es X.env)).any (·.1)=false:=by rfl) :
  PS X (.Try [.Return (some (.Call (.Name y q1) (e::es) [] q2)) q3] (h0::hs) [] [] tpos) (tTryS sp W t):=by
 intro pins s σ H D I h
 have hok:=I.ok
 refine wpAny_Try_except (wpAny_execs_cons (wpAny_Return_some ?_))
 generalize hxe:(fun e s1=>wpAny (model X.prog X.w) X.A (noteFrame e X.env) (fun _ s2=>wpAny (model X.prog X.w) X.A (setFlight e none) (fun _ s3=>wpAny (model X.prog X.w) X.A (handleBy e X.env (h0::hs)) (SP X pins D) X.xe s3) X.xe s2) X.xe s1)=xe
 have I':=Inv.toB I xe
 refine wpAny_Call_Name_kw (Z2V (X:=XB X pins xe) I' hg hm ?_ hdb)
 refine Z0V (h₀:=X.base) I'.ok.mod.kin hk (thn (ha pins xe q2 [] s σ H _ I' h) fun us s1 hq=>?_) he hpl
 obtain⟨vs,H1,I1,r,q⟩:=hq
 refine⟨I1.kIn,?_⟩
 have hl:us.length=ps.length:=by rw [←r.length];exact F.len _ _ _ _ q
 have hb':=hb s1 us I1.kIn (by rw [Z0G];exact hl)
 rw [Z0G]at hb'
 have J1:Inv X pins σ H1 s1:=Inv.ofB hok I1
 refine wpAny_call (codeAny_mono (F.run X.A X.stack s1 H1 ⟨us,[]⟩ us vs D.rt (W D σ) hr J1.env0 hb' r q) fun r s' hq=>?_)
 cases r with
 |error e =>
  obtain⟨ea,T,C',d,H2,rfl,h1,h2,h3,h4,h5,h6,h7,h8,h9,h10,h11⟩:=hq
  show xe _ _
  rw [←hxe]
  have J2:Inv X pins σ H2 s':=J1.call' (ch:=[]) h1 h3 h4 h2 (fun b z=>absurd z (by simp))
  have Ne:=Z2W J1 hex h8
  have NT:=Z2W J1 hex h9
  have hF:X.A.frames=some (X.env::X.outer):=by rw [←hst];exact J2.ok.frames
  have hL:s'.heap.FunFrames X.base (X.env::X.outer):=by rw [←hst];exact J2.stack
  refine Z5Z hF hL hfr h5 fun g1 T1 f1 nT k1=>?_
  rw [←hst]at k1
  refine land_ (fs:=frs X.stack) (s:={ s' with heap:=g1 }) f1 fun g2 f2 k2=>?_
  have oe:Off X pins H2 ea:=⟨h6,Ne.h0,Ne.hL,Ne.hc,Ne.hp⟩
  have oT1:Off X pins H2 T1:=(Z2W J2 hex nT).off
  have J3:Inv X pins σ H2 { s' with heap:=g2 }:=Z3P J2 hst hfr hex (k1.trans k2) fun b hb=>by
   rcases Z0k.mp hb with hb |hb
   ·rcases Z0d.mp hb with rfl |hb
    ·exact⟨h7,NT.h0,NT.hL,NT.hc,NT.hp⟩
    ·rw [Z0i.mp hb];exact oe
   ·rw [Z0i.mp hb];exact oT1
  exact hh pins D σ H2 _ ea T1 C' d ⟨J3,f2,oe,oT1,Ne.hf,h10⟩ h11
 |ok fl =>
  cases fl with
  |ret u =>
   obtain⟨v,H2,J2,rv,q2⟩:=J1.after hq
   exact⟨v,σ,H2,J2,rv,q2⟩
  |next=>exact False.elim hq
  |brk=>exact False.elim hq
  |cont=>exact False.elim hq
end
end EX
end
section
namespace L2
open PySem PySem.Spec PyProof.Rows EX
section
variable{X:Cx}
theorem lcx_core{pins:List (Addr×Obj)}{s:Shared}{σ:St}{H:Hp}{Q:VK}{elt tg iter:Expr}{ifs:List Expr}{scope:Scope}{own:List (Str×Nat)}{pos pos':Pos}{wi:TI}{g:TG}{tt:TT}{te:TE}{use:Option (Value→Sem Unit)}{Qf:Value→Shared→Prop}
  {z:Bool}{E:XK}(hst:X.stack=X.env::X.outer)(hfr:X.env.frame=some X.env.locals)(hex:X.ex=[])
  (hxe:∀ e s',wpAny (model X.prog X.w) X.A (leaving X.env e) (fun _ s''=>CXQ z X.prog X.w X.outer X.H_0 X.s_0 E e s'') (fun e' s''=>CXQ z X.prog X.w X.outer X.H_0 X.s_0 E e' s'') s'→X.xe e s')
  (hc:X.calm=true)(hN:X.N.Nodup)(I:Inv X pins σ H s)(hi:PI X tg iter wi)(ok:BlkOk X.N X.env.scope scope own)
  (hg:∀ (s:Shared)(H:Hp)(C:Addr)(cl:List (Str×Addr))(fp:List Addr)(xe:Value→Shared→Prop),PG (X.blk s H scope (compEnvC scope cl C X.env) fp |>.wish xe) tg g)(ht:∀ (s:Shared)(H:Hp)(C:Addr)(cl:List (Str×Addr))(fp:List Addr)(xe:Value→Shared→Prop),PTs (X.blk s H scope (compEnvC scope cl C X.env) fp |>.wish xe) ifs tt)
  (he:∀ (s:Shared)(H:Hp)(C:Addr)(cl:List (Str×Addr))(fp:List Addr)(xe:Value→Shared→Prop),Z2I (CXQ z X.prog X.w) (X.blk s H scope (compEnvC scope cl C X.env) fp |>.wish xe) E→PE (X.blk s H scope (compEnvC scope cl C X.env) fp |>.wish xe) elt te)(hs:∀ x,foldedSetIterable iter X.env x=pure x)
  (h:tLc wi g tt te (own.map (·.2)) σ H Q)
  (hRR:∀ D C s' m H',Inv X pins σ H' s'→Q (.ref D) H'→s'.heap.Ns C m→FpOk X pins H' C→compPost (model X.prog X.w) X.A X.xe use Qf (.ref D) C (.ok .next) s') :
  wpAny (model X.prog X.w) X.A (comprehension (.ListComp elt [⟨tg,iter,ifs,0⟩] scope pos) scope X.env pos' (newList []) false (eval iter X.env) use) Qf X.xe s:=by
 have hfree:∀ y∈scope.names,y.2=.free→∃ c,X.env.cells.lookup y.1=some c:=fun y hy e=>by
  rcases ok.free y hy e with k |k
  ·exact I.ok.has _ (.inl k)
  ·exact I.ok.has _ (.inr k)
 refine wpAny_comprehension_free (use:=use) rfl hs (Z5o hfree) ok.kind (fun y hy e=>by rw [ok.uniq y hy,e])
  (thn (hi pins s σ H _ I h) fun xv s1 hx=>thn hx fun itv s2 h2=>?_)
 obtain⟨it,fp,tn,J,H2,e,I2,T,st2,f2,q⟩:=h2
 subst e
 refine wpAny_newObj_type (Z6k ?_) (by show 0≤sizeLine;decide)
 generalize hD:s2.heap.objs.size=D
 have hDn:H2 D=none:=I2.hok.fresh (Z0U hD)
 obtain⟨W,⟨m0,w0⟩,turn⟩:=q D hDn
 generalize hs3:({ s2 with heap:=s2.heap.push { cls:=.type "list",data:=.seq ([]:List Value).toArray } }:Shared)=s3
 have I3:Inv X pins σ (upd H2 D (.lst [])) s3:=by
  rw [←hs3]
  refine I2.laid (t':=s2.toks) (fun b o e=>Z0m _ e) (Z0U hD) ⟨Z0q _,[],0,.nil,?_⟩
  rw [←hD]
  exact Z0C _ rfl
 have h3:s3.heap=s2.heap.push { cls:=.type "list",data:=.seq ([]:List Value).toArray }:=by rw [←hs3]
 have sz:∀ b∈fp,b<s2.heap.objs.size:=fun b hb=>by
  obtain⟨o,e,_⟩:=T.obj _ _ st2 b hb
  exact Z0h e
 have f3:∀ b∈fp,FpOk X pins (upd H2 D (.lst [])) b∧b<s3.heap.objs.size:=fun b hb=>by
  have hlt:=sz b hb
  refine⟨⟨?_,(f2 b hb).2⟩,by rw [h3,Z0I];exact Z1p hlt⟩
  rw [Z1W (by rw [←hD];exact Z0o hlt)]
  exact(f2 b hb).1
 have st3:tn 0 s3.heap:=T.keep _ _ _ st2 fun b _ o e=>by rw [h3];exact Z0m _ e
 have I4:=Z6i I3 ok hN f3
 have pg:=hg s3 (upd H2 D (.lst [])) s3.heap.objs.size (cellsFrom (s3.heap.objs.size+1) scope.names (Z2l X.env.cells scope.names [])) fp
 have pt:=ht s3 (upd H2 D (.lst [])) s3.heap.objs.size (cellsFrom (s3.heap.objs.size+1) scope.names (Z2l X.env.cells scope.names [])) fp
 have pe:=he s3 (upd H2 D (.lst [])) s3.heap.objs.size (cellsFrom (s3.heap.objs.size+1) scope.names (Z2l X.env.cells scope.names [])) fp
 show codeAny _ _ (.compStart (.ListComp elt [⟨tg,iter,ifs,0⟩] scope pos) 0 (.ref it) (.ref D) (compEnvC scope (cellsFrom (s3.heap.objs.size+1) scope.names (Z2l X.env.cells scope.names [])) s3.heap.objs.size X.env)) (compPost (model X.prog X.w) X.A X.xe use Qf (.ref D) s3.heap.objs.size) { s3 with heap:=pushCells (s3.heap.push { cls:=.type "dict",data:=.dict #[] }) scope.names }
 have nfp:∀ b∈fp,(upd H2 D (.lst [])) b=none:=fun b hb=>(f3 b hb).1.1
 generalize hce:compEnvC scope (cellsFrom (s3.heap.objs.size+1) scope.names (Z2l X.env.cells scope.names [])) s3.heap.objs.size X.env=ce at I4 pg pt pe ⊢
 have cL:ce.locals=s3.heap.objs.size:=by subst hce;rfl
 generalize hH3:upd H2 D (.lst [])=H3 at I3 I4 pg pt pe w0 nfp f3
 generalize hs4:({ s3 with heap:=pushCells (s3.heap.push { cls:=.type "dict",data:=.dict #[] }) scope.names }:Shared)=s4 at I4 ⊢
 have st4:tn 0 s4.heap:=T.keep _ _ _ st3 fun b _ o e=>by rw [←hs4];exact pushCells_keeps _ _ _ _ (Z0m _ e)
 generalize hxB:(notedBy (model X.prog X.w) X.A ce fun e s'=>compPost (model X.prog X.w) X.A X.xe use Qf (.ref D) s3.heap.objs.size (.error e) s')=xB
 have hpass:Z2I (CXQ z X.prog X.w) ((X.blk s3 H3 scope ce fp).wish xB) E:=by
  rw [←hxB]
  exact blk_exc I3 hst hfr hex hxe f3 (by subst hce;rfl) cL
 have stat:∀ {σ':St}{H':Hp}{s':Shared},Inv (X.blk s3 H3 scope ce fp) [] σ' H' s'→(∀ b∈fp,H' b=none)→∀ b∈fp,FpOk (X.blk s3 H3 scope ce fp) [] H' b:=fun{σ' H' s'} I' hn b hb =>
  ⟨hn b hb,(I'.ok.exf b hb).1,I'.ok.exfs b hb,.inl hb,fun x c e=>(I'.ok.exf b hb).2 x c e,fun p hp=>absurd (show p∈([]:List (Addr×Obj))++[]from hp) (by simp)⟩
 have loop:codeAny (model X.prog X.w) X.A (.compLoop (.ListComp elt [⟨tg,iter,ifs,0⟩] scope pos) 0 (.ref it) (.ref D) ce) (compPost (model X.prog X.w) X.A X.xe use Qf (.ref D) s3.heap.objs.size) s4:=by
  refine Z5K (fun n s'=>∃ i H',Inv (X.blk s3 H3 scope ce fp) [] (wipe σ (own.map (·.2))) H' s'∧tn i s'.heap∧(∀ b∈fp,H' b=none)∧W i n H') ?_ m0 ⟨0,H3,I4,st4,nfp,w0⟩
  rintro n s5 ⟨i,H5,I5,st5,n5,w5⟩
  rcases turn i n H5 w5 with⟨stop,qq⟩ |⟨go,Nx,hNx,step⟩
  ·have td:=T.done (X.blk s3 H3 scope ce fp) rfl rfl rfl hc i [] s5 _ H5 (fun _ _=>False) I5 (stat I5 n5) st5 stop
   refine thnF td fun r s6 ⟨hr,I6⟩=>?_
   subst hr
   have I7:Inv X pins σ H5 s6:=I3.call' (ch:=fp) I6.os I6.base I6.hok I6.bare fun b hb=>⟨(f3 b hb).1.2.2.2.1,(f3 b hb).1.2.1,(f3 b hb).1.2.2.2.2.1,(f3 b hb).1.2.2.2.2.2⟩
   have nC:H5 s3.heap.objs.size=none:=by
    have z:H5 ce.locals=none:=I6.free
    rw [cL]at z
    exact z
   obtain⟨m,hn,_⟩:=I6.loc
   have hn:s6.heap.Ns ce.locals m:=hn
   rw [cL]at hn
   exact hRR D s3.heap.objs.size s6 m H5 I7 qq hn (I3.fpOk (Z0e _) nC)
  ·have ti:=T.item (X.blk s3 H3 scope ce fp) rfl rfl rfl hc i [] s5 _ H5 (fun _ _=>False) I5 (stat I5 n5) st5 go
   refine thnF ti fun r s6 ⟨u,hr,h6⟩=>?_
   subst hr
   refine thnF h6 fun _ s7 ⟨x,H7,I7,r7,y7,st7,n7⟩=>?_
   have I7':=I7.pinned (stat I7 n7) (T.obj _ _ st7)
   rw [hxB]
   refine wpAny_mono (pg xB _ s7 _ H7 x u _ (I7'.wish xB) r7 (step x H7 y7)) (fun _ s8 ⟨σ8,H8,I8,hw8,q8⟩=>?_) fun _ _ z=>z
   refine wpAny_mono (pt xB _ s8 σ8 H8 _ I8 q8) (fun b s9 ⟨H9,I9,q9⟩=>?_) fun _ _ z=>z
   have fin:∀ {s':Shared}{H':Hp},Inv (X.blk s3 H3 scope ce fp) ([]++Z5f fp s7.heap) σ8 H' s'→Nx H'→∃ m,m<n∧∃ i H',Inv (X.blk s3 H3 scope ce fp) [] (wipe σ (own.map (·.2))) H' s'∧tn i s'.heap∧(∀ b∈fp,H' b=none)∧W i m H':=fun{s' H'} I' nx=>by
    obtain⟨m',hm,w'⟩:=hNx H' nx
    have pin':∀ b∈fp,∀ o,s7.heap.get? b=some o→s'.heap.get? b=some o∧H' b=none:=fun b hb o e =>
     let z:=I'.pin (b,o) (Z0J _ (Z0J _ (Z4q hb e)))
     ⟨z.1,z.2.1⟩
    have hl:(wipe σ (own.map (·.2))).length=σ8.length:=by rw [←hw8,Z4e]
    refine⟨m',hm,i+1,H',(I'.unpinned (pins:=[])).weak hl (fun j v e=>?_),T.keep _ _ _ st7 fun b hb o e=>(pin' b hb o e).1,fun b hb=>?_,w'⟩
    ·rw [←hw8]at e
     exact(Z4T e).1
    ·obtain⟨o,e,_⟩:=T.obj _ _ st7 b hb
     exact(pin' b hb o e).2
   cases b with
   |false =>
    simp only [Bool.false_eq_true,if_false]at q9 ⊢
    exact fin I9.unwish q9
   |true =>
    simp only [if_true]at q9 ⊢
    refine wpAny_mono (pe xB hpass _ s9 σ8 H9 _ I9 q9) (fun z s10 ⟨yv,H10,I10,r10,acc,hD10,hz10,nx⟩=>?_) fun _ _ z=>z
    exact app_ok (X:=X.blk s3 H3 scope ce fp) I10.unwish hD10 hz10 r10 fun s11 I11=>fin I11 nx
 exact codeAny_compStart_list loop (T.self X.A 0 _ _ _ st4 loop)
theorem Z5S{i:Nat}{y:Str}{py:Pos}{elt tg iter:Expr}{ifs:List Expr}{scope:Scope}{own:List (Str×Nat)}{pos spos:Pos}{wi:TI}{g:TG}{tt:TT}{te:TE}{z:Bool}{E:XK}(hst:X.stack=X.env::X.outer)(hfr:X.env.frame=some X.env.locals)(hex:X.ex=[])
  (hxe:∀ e s',wpAny (model X.prog X.w) X.A (leaving X.env e) (fun _ s''=>CXQ z X.prog X.w X.outer X.H_0 X.s_0 E e s'') (fun e' s''=>CXQ z X.prog X.w X.outer X.H_0 X.s_0 E e' s'') s'→X.xe e s')
  (hc:X.calm=true)(hN:X.N.Nodup)(hy:X.N[i]?=some y)(hyl:X.env.scope.names.lookup y=some .local)
  (hsw:swapsWith (.ListComp elt [⟨tg,iter,ifs,0⟩] scope pos) (some (.Name y py)) spos.line X.env=pure true)(hi:PI X tg iter wi)(ok:BlkOk X.N X.env.scope scope own)
  (hg:∀ (s:Shared)(H:Hp)(C:Addr)(cl:List (Str×Addr))(fp:List Addr)(xe:Value→Shared→Prop),PG (X.blk s H scope (compEnvC scope cl C X.env) fp |>.wish xe) tg g)(ht:∀ (s:Shared)(H:Hp)(C:Addr)(cl:List (Str×Addr))(fp:List Addr)(xe:Value→Shared→Prop),PTs (X.blk s H scope (compEnvC scope cl C X.env) fp |>.wish xe) ifs tt)
  (he:∀ (s:Shared)(H:Hp)(C:Addr)(cl:List (Str×Addr))(fp:List Addr)(xe:Value→Shared→Prop),Z2I (CXQ z X.prog X.w) (X.blk s H scope (compEnvC scope cl C X.env) fp |>.wish xe) E→PE (X.blk s H scope (compEnvC scope cl C X.env) fp |>.wish xe) elt te)(hs:∀ x,foldedSetIterable iter X.env x=pure x:=by intro _;rfl) :
  PS X (.Assign [.Name y py] (.ListComp elt [⟨tg,iter,ifs,0⟩] scope pos) spos) (tAsg (tLc wi g tt te (own.map (·.2))) (gName i)):=by
 intro pins s σ H D I h
 rw [exec_Assign_Name_used _ _ _ _ hsw]
 refine wpAny_bind (wpAny_standAt (wpAny_bind ?_))
 show wpAny _ X.A (do let _ ←comprehension (.ListComp elt [⟨tg,iter,ifs,0⟩] scope pos) scope X.env (firstIterPos [⟨tg,iter,ifs,0⟩] pos) (newList []) false (eval iter X.env) (some (assign (.Name y py) X.env))) _ _ s
 have h:tLc wi g tt te (own.map (·.2)) σ H (fun x H1=>gName i x σ H1 D.nx):=h
 refine wpAny_bind (thn (lcx_core (Qf:=fun _ s'=>SP X pins D .next s') hst hfr hex hxe hc hN I hi ok hg ht he hs h fun L C s' m H' I' q hn f=>?_) fun _ s' hq=>wpAny_pure (wpAny_pure hq))
 show wpAny _ _ (assign (.Name y py) X.env (.ref L)) _ _ _
 refine wpAny_assign_Name (Z5R (v:=V.ref L) I' hN hy (.inl hyl) rfl (fun s2 I2 ⟨a,sb,ha⟩=>?_) (.inr hyl))
 obtain⟨f0,f1,f2,f3,f4,f5⟩:=f
 have haC:C≠a:=by
  rcases ha with z |z
  ·rw [z];exact f1
  ·exact fun e=>f4 y a z e.symm
 refine⟨m,hn.sameBut sb haC,fun h3 sb3=>?_⟩
 exact⟨_,H',I2.turned (t':=s2.toks) (fun b o hb e=>(sb3.2 b hb).trans e) f0 f1 f3 f4 f5,q⟩
end
end L2
end
section
namespace LM
open PySem PySem.Spec PyProof.Rows L2 EX
structure Lam(base:Heap)(f:Addr)(fd:FuncData)(qual:Str)(params:Arguments)(body:Expr)(scope:Scope)(cl:List (Str×Addr))(cd:Value)(N:List Str)(vs:List V):Prop where
 ex:∃ (oc:Value)(od:Option Addr)(sl:Array (Option Value))(pm ctv:Value),fd=PySem.W.kla_fn "<lambda>" qual params body scope cl pm cd ctv∧base.get? f=some ⟨oc,od,.func fd,sl⟩
 rec_:base.CodeRec cd qual
 inj:∀ x y c,cl.lookup x=some c→cl.lookup y=some c→x=y
 has:∀ x,scope.names.lookup x=some .free→∃ c,cl.lookup x=some c
 cell:∀ x c,cl.lookup x=some c→∃ v,base.IsCell c v
 at_:∀ (i:Nat) x v,N[i]?=some x→vs[i]?=some v→∃ c u,cl.lookup x=some c∧base.IsCell c (some u)∧RelV v u
 len:vs.length=N.length
structure Z6G(N:List Str)(scope:Scope):Prop where
 kind:scope.kind=.function
 co:scope.isCoroutine=false
 gen:scope.isGenerator=false
 names:∀ x∈scope.names,x.2=.free∨x.2=.globalImplicit
 free:∀ x∈N,scope.names.lookup x=some .free
def cxL(z:Bool)(P:Program)(w:World)(K:Z0a)(mg:Str→Option Value)(base:Heap)(N:List Str)(qual:Str)(scope:Scope)(f:Addr)(cd:Value)(cl:List (Str×Addr))(A:Around)(outer:List Env)(s:Shared)(H:Hp)(E:XK):Cx where
 prog:=P
 w:=w
 K:=K
 mg:=mg
 base:=base
 A:=A.deeper (PySem.W.envX qual scope s.heap.objs.size f cd cl)
 N:=N
 s_0:=s
 H_0:=H
 env:=PySem.W.envX qual scope s.heap.objs.size f cd cl
 outer:=outer
 stack:=PySem.W.envX qual scope s.heap.objs.size f cd cl::outer
 ex:=[]
 calm:=true
 fn:=fun _=>false
 pn:=[]
 xe:=fun e s'=>wpAny (model P w) (A.deeper (PySem.W.envX qual scope s.heap.objs.size f cd cl)) (leaving (PySem.W.envX qual scope s.heap.objs.size f cd cl) e) (fun _ s''=>CXQ z P w outer H s E e s'') (fun e' s''=>CXQ z P w outer H s E e' s'') s'
section
variable{P:Program}{w:World}{K:Z0a}{mg:Str→Option Value}{base:Heap}{N:List Str}{qual:Str}{scope:Scope}{f:Addr}{cd:Value}{cl:List (Str×Addr)}{A:Around}{outer:List Env}{s:Shared}{H:Hp}{E:XK}{z:Bool}
 {fd:FuncData}{params:Arguments}{body:Expr}{vs:List V}
theorem inv_lam{h1:Heap}{t:Nat}(S:Z6G N scope)(hd:A.handled=none)(e0:Env0 P w K mg base A outer s H)(L:Lam base f fd qual params body scope cl cd N vs)(hn:h1.Ns s.heap.objs.size fun _=>none)
  (hk:∀ b o,s.heap.get? b=some o→h1.get? b=some o):Inv (cxL z P w K mg base N qual scope f cd cl A outer s H E) [] (vs.map some) H { s with heap:=h1,toks:=t }:=by
 have noA:∀ b:Addr,b∉(cxL z P w K mg base N qual scope f cd cl A outer s H E).ex:=fun b z=>absurd (show b∈([]:List Addr)from z) (by simp)
 have cb:∀ {c:Addr}{v:Option Value},base.IsCell c v→s.heap.IsCell c v∧H c=none:=fun{c v} ⟨o,e1,e2⟩=>⟨⟨o,(e0.bs c o e1).1,e2⟩,(e0.bs c o e1).2⟩
 have ck:∀ {c:Addr}{v:Option Value},base.IsCell c v→h1.IsCell c v:=fun{c v} z=>let ⟨⟨o,e1,e2⟩,_⟩:=cb z;⟨o,hk c o e1,e2⟩
 refine⟨⟨e0.mod,S.kind,rfl,rfl,Z0e _,L.inj,fun y hy=>?_,(fun y c z _=>absurd (show false=true from z) (by decide)),fun _=>hd,Around.frames_deeper e0.frames,.inr ⟨rfl,rfl⟩,fun b z=>absurd z (noA b),e0.bs,e0.bsz,fun b _ _=>noA b,fun b z=>absurd z (noA b),e0.funs,e0.frf⟩,
  rfl,e0.bare,Un.kept hk,⟨_,hn,fun i y v h1 h2 h3=>?_⟩,fun y c h=>?_,e0.hok.fresh (Z0e _),fun y c h=>?_,fun p hp=>absurd (show p∈([]:List (Addr×Obj))from hp) (by simp),e0.hok.kept hk,?_⟩
 ·have hy:scope.names.lookup y=some .cell∨scope.names.lookup y=some .free:=hy
  rcases hy with hy |hy
  ·rcases S.names _ (PySem.mem_of_lookup hy)with z |z<;>cases z
  ·exact L.has y hy
 ·rw [Z0n]at h2
  cases e:vs[i]? with
  |none=>rw [e]at h2;cases h2
  |some a =>
   rw [e]at h2
   cases h2
   obtain⟨c,u,q1,q2,q3⟩:=L.at_ i y _ h1 e
   exact⟨u,q3,.inr ⟨.inr (S.free y (Z0z h1)),c,q1,ck q2⟩⟩
 ·obtain⟨v,z⟩:=L.cell y c h
  exact⟨v,ck z⟩
 ·obtain⟨v,z⟩:=L.cell y c h
  exact(cb z).2
 ·rw [Z0c];exact L.len
theorem Z9X:Z2I (CXQ z P w) (cxL z P w K mg base N qual scope f cd cl A outer s H E) E:=by
 intro pins σ H' s1 e s' I h
 obtain⟨ea,T,C,dx,H2,rfl,h1,h2,h3,h4,h5,h6,h7,h8,h9,h10,h11⟩:=h
 have I':Inv (cxL z P w K mg base N qual scope f cd cl A outer s H E) pins σ H2 s':=I.call' (ch:=[]) h1 h3 h4 h2 (fun b z=>absurd z (by simp))
 exact Z5y I' rfl rfl rfl ⟨⟨h6,(nones I rfl h8).2⟩,.inr ⟨T,h5,h7,(nones I rfl h9).2⟩⟩ h10 h11
theorem okL{k:Nat}{sp:Sp}(L:Lam base f fd qual params body scope cl cd N vs)(S:Z6G N scope)(len:∀ vs H Q E,sp vs H Q E→vs.length=0)
  (hbody:∀ (A:Around)(outer:List Env)(s:Shared)(H:Hp)(Q:VK)(E:XK),Room k (A.deeper (PySem.W.envX qual scope s.heap.objs.size f cd cl))→sp [] H Q E →
    ∃ t,PE (cxL z P w K mg base N qual scope f cd cl A outer s H E) body t∧t (vs.map some) H Q):FnOk P w K mg base (CXQ z P w) (k+1) f fd [] sp:=by
 obtain⟨oc,od,sl,pm,ctv,rfl,ho⟩:=L.ex
 refine⟨len,fun A outer s H args us vs' Q E hr e0 hb r hsp=>?_⟩
 have hl:=len _ _ _ _ hsp
 obtain rfl:vs'=[]:=Z1E hl
 have lim:s.heap.NoLimit:=e0.mod.nolimit.keeps fun b o e=>(e0.bs b o e).1
 have rc:s.heap.CodeRec cd qual:=by
  obtain⟨c,o,vs,t,e1,e2,r⟩:=L.rec_
  exact⟨c,o,vs,t,e1,(e0.bs _ _ e2).1,r⟩
 refine PySem.W.kla_callFunE hr.depth (e0.bs _ _ ho).1 rfl S.co S.gen rfl rc (hb _ _ _ _ ?_)
 refine wpAny_newFunctionEnv (fun x hx=>by rcases S.names x hx with z |z<;>rw [z]<;>intro q<;>cases q) (fun x hx=>absurd (show x∈(([]:List Str).zip us)from hx) (by simp)) (fun h1 hn hs=>⟨lim.fresh _ hs,?_⟩) S.kind
 have hk:∀ b o,s.heap.get? b=some o→h1.get? b=some o:=fun b o e=>hs.extBut b o (Z0o (Z0h e)) (Z0m _ e)
 obtain⟨t,ht,hq⟩:=hbody A outer s H Q E (hr.deeper _) hsp
 have I:Inv (cxL z P w K mg base N qual scope f cd cl A outer s H E) [] (vs.map some) H { s with heap:=h1,toks:=s.toks+(([]:List Str).zip us).length }:=inv_lam S hr.hd e0 L hn hk
 refine PySem.W.kla_codeExpr (wpAny_mono (ht [] _ _ H _ I hq) (fun v s' hs=>?_) fun e s' hs=>hs)
 obtain⟨v',H',J,rv,q⟩:=hs
 exact⟨v',H',J.os,J.bare,J.base,J.hok,rv,q⟩
end
section
variable{X:Cx}{CX:CXT}{k:Nat}{f:Addr}{fd:FuncData}{sp:Sp}{E:XK}
def tTell(i:Nat)(f:Addr)(sp:Sp)(E:XK):TE:=fun σ H Q=>σ[i]?=some (some (.ref f))∧sp [] H Q E
theorem pe_tell{i:Nat}{x:Str}{p pos:Pos}(F:FnOk X.prog X.w X.K X.mg X.base CX k f fd [] sp)(hr:Room k X.A)(hf:PySem.W.FnAt f X.base)(hb:Binds X.K fd [] [])(hx:Z2I CX X E)(hi:X.N[i]?=some x:=by rfl)
  (hv:Vis X.env.scope x:=by first |exact Or.inl rfl |exact Or.inr (Or.inl rfl) |exact Or.inr (Or.inr rfl))(hd:(x==("__debug__" : Str))=false:=by decide)(hcd:(x==("__classdict__" : Str))=false:=by decide) :
  PE X (.Call (.Name x p) [] [] pos) (tTell i f sp E):=by
 intro pins s σ H Q I h
 refine wpAny_Call_Name_kw (thn (pe_var hi hv hd hcd pins s σ H (fun v H'=>v=.ref f∧sp [] H' Q E) I ⟨_,h.1,rfl,h.2⟩) fun u s1 ⟨v,H1,I1,rv,ev,q⟩=>?_)
 subst ev
 obtain rfl:u=Value.ref f:=rv
 obtain⟨oc,od,fd',sl,e⟩:=hf
 exact PySem.W.callWith_F0 ⟨oc,od,fd',sl,I1.bk _ _ e⟩ (Z6D (us:=[]) F hr hb .nil hx I1 .nil q)
end
theorem Z7H{h base base':Heap}:∀ {l:List Env},h.FunFrames base l→(∀ b∈frs l,base'.get? b=none)→h.FunFrames base' l
 |[],_,_=>trivial
 |env::r,⟨hk,⟨L,o,hf,hn,ho,hd⟩,hr⟩,hb=>by
  refine⟨hk,⟨L,o,hf,hb L ?_,ho,hd⟩,Z7H hr fun b m=>hb b ?_⟩
  ·unfold frs;rw [Z1b,hf];exact Z0g
  ·unfold frs;rw [Z1b,hf];exact Z0f _ m
noncomputable def inH(fs:List Addr)(H:Hp):Hp:=fun b=>if b∈fs then some (.lst [])else H b
theorem Z8u{fs:List Addr}{H:Hp}{b:Addr}(h:inH fs H b=none):b∉fs∧H b=none:=by
 unfold inH at h
 split at h
 ·cases h
 ·exact⟨by assumption,h⟩
theorem inH_of{fs:List Addr}{H:Hp}{b:Addr}(h1:b∉fs)(h2:H b=none):inH fs H b=none:=by
 unfold inH;rw [if_neg h1];exact h2
section
variable{X:Cx}{CX:CXT}{k:Nat}{fA c PT:Addr}{fdA:FuncData}{E:XK}{params:Arguments}{body:Expr}{scope:Scope}{lpos p pos:Pos}{x:Str}{M:List Str}
def tAns(X:Cx)(PT:Addr)(lpos:Pos)(ix:List Nat)(spA:Addr→List V→Sp)(E:XK):TE:=fun σ H Q=>∃ ps vs,H PT=some (.tbl ps)∧codeAmong lpos ps.toList=none∧TriplesOk ps.toList ∧
 vs.length=ix.length∧(∀ (j i:Nat)(v:V),ix[j]?=some i→vs[j]?=some v→σ[i]?=some (some v))∧∀ f more,H f=none→spA f vs [.ref f] (upd H PT (.tbl (ps++more))) Q E
theorem pe_ans{ix:List Nat}{spA:Addr→List V→Sp}(hC:PySem.W.CodeHd X.base c PT)(hB:X.base.BuiltinsAt X.mg PT)(hcode:X.env.code=.ref c)(hst:X.stack=X.env::X.outer)(hfr:X.env.frame=some X.env.locals)(hex:X.ex=[])
  (hfn:∀ x,X.fn x=true)(hdef:defaultsOf params X.env=([],[]))(S:Z6G M scope)(hcel:∀ y∈scope.names,y.2=.free→X.env.scope.names.lookup y.1=some .cell)
  (hix:∀ (j:Nat)(y:Str),M[j]?=some y→∃ i,ix[j]?=some i∧X.N[i]?=some y)(hlx:ix.length=M.length)(huq:∀ y∈scope.names,scope.names.lookup y.1=some y.2)
  (hg:Gl X x)(hm:X.mg x=some (.ref fA))(hk:PySem.W.keepIn X.K (.ref fA)=true)(hb:Binds X.K fdA ["tell"] [])(hr:Room k X.A)(hx:Z2I CX X E)
  (F:∀ (base:Heap)(f:Addr)(fd:FuncData)(cl:List (Str×Addr))(cd:Value)(vs:List V),X.K.In base→base.Ns mainGlobals X.mg→Lam base f fd (X.env.qual++"<lambda>") params body scope cl cd M vs →
    FnOk X.prog X.w X.K X.mg base CX k fA fdA ["tell"] (spA f vs))
  (hdb:(x==("__debug__" : Str))=false:=by decide)(he:starEach [.Lambda params body scope lpos] X.env=(false,eval (.Lambda params body scope lpos) X.env)::starEach [] X.env:=by rfl) :
  PE X (.Call (.Name x p) [.Lambda params body scope lpos] [] pos) (tAns X PT lpos ix spA E):=by
 intro pins s σ H Q I h
 obtain⟨ps,vs,hT,hnf,hto,hvl,hvs,hsp⟩:=h
 refine wpAny_Call_Name_kw (Z2V I hg hm ?_ hdb)
 have hfree:∀ y∈scope.names,y.2=.free→∃ c,X.env.cells.lookup y.1=some c:=fun y hy e=>I.ok.has _ (.inl (hcel y hy e))
 have hP:s.heap.get? PT=some (PySem.W.tabObj ps):=I.hok PT _ hT
 have nbP:∀ b o,X.base.get? b=some o→b≠PT:=fun b o e z=>by
  have:=(I.bs b o e).2
  rw [z,hT]at this
  cases this
 have hgs:s.heap.Ns mainGlobals X.mg:=I.ok.mod.glob.keeps I.bk
 have hgP:mainGlobals≠PT:=by
  obtain⟨o,es,ep,e,_⟩:=I.ok.mod.glob
  exact nbP _ o e
 have hBs:s.heap.BuiltinsAt X.mg PT:=by
  obtain⟨bm,ob,a1,a2,a3,a4,a5,a6⟩:=hB
  exact⟨bm,ob,a1,a2,a3,a4,I.bk _ _ a5,a6⟩
 refine Z0V (h₀:=X.base) (Q:=EP X pins σ Q) I.ok.mod.kin hk ?_ he rfl
 rw [he]
 show wpAny _ _ (spliced ((false,eval (.Lambda params body scope lpos) X.env)::backTo pos (starEach [] X.env))) _ _ s
 refine Calls.spliced_cons (PySem.W.kla_eval hdef (PySem.W.kla_makeFunction (Z5o hfree) I.ok.glob hgs hcode (hC.keeps I.bk) hP hto hnf hgP hBs fun c' ctv h' tk hx1 hge hlt hrec htb=>?_))
 refine Calls.spliced_nil ?_
 generalize hfo:PySem.W.kla_obj "<lambda>" (X.env.qual++"<lambda>") params body scope (Z2l X.env.cells scope.names []) ((X.mg "__name__").getD .none) c' ctv=fo
 have kp:∀ b o,b≠PT→s.heap.get? b=some o→(h'.push fo).get? b=some o:=fun b o hn e=>Z0m _ (hx1 b o hn e)
 have sz:s.heap.objs.size≤h'.objs.size:=Z0x hge (Z1k hlt)
 have htb':(h'.push fo).get? PT=some (PySem.W.tabObj (ps++#[rawInt lpos.line,rawInt lpos.col,.ref c'])):=Z0m _ htb
 have I3:Inv X pins σ (upd H PT (.tbl (ps++#[rawInt lpos.line,rawInt lpos.col,.ref c']))) { s with heap:=h'.push fo,toks:=tk }:=by
  refine I.un ⟨fun b o q n _ _=>kp b o (fun z=>by rw [z,hT]at n;cases n) q,fun b o q n _ _=>⟨o.slots,kp b o (fun z=>by rw [z,hT]at n;cases n) q⟩,fun b o q n _=>?_,fun b o q _=>?_,fun b xs q=>?_,fun b o u q=>?_,fun b qs q=>?_⟩ fun a o e=>?_
  ·rw [Z1W (fun z=>by rw [z,hT]at n;cases n)];exact n
  ·by_cases z:b=PT
   ·rw [z];exact⟨_,htb'⟩
   ·exact⟨o,kp b o z q⟩
  ·rw [Z1W (fun z=>by rw [z,hT]at q;cases q)];exact q
  ·rw [Z1W (fun z=>by rw [z,hT]at q;cases q)];exact q
  ·by_cases z:b=PT
   ·rw [z,hT]at q
    cases q
    exact⟨_,by rw [z,Z1X]⟩
   ·exact⟨#[],by rw [Z1W z,q];simp⟩
  ·by_cases z:a=PT
   ·rw [z,Z1X]at e
    cases e
    rw [z]
    exact htb'
   ·rw [Z1W z]at e
    refine(I.hok a o e).stay (fun b u hb q=>kp b u (fun z'=>?_) q) (fun b q=>?_) fun b xs q=>?_
    ·rcases hb with hb |hb
     ·exact z (hb ▸ z')
     ·rw [z',hT]at hb;cases hb
    ·rw [Z1W (fun z'=>by rw [z',hT]at q;cases q)];exact q
    ·rw [Z1W (fun z'=>by rw [z',hT]at q;cases q)];exact q
 generalize hmore:(#[rawInt lpos.line,rawInt lpos.col,.ref c']:Array Value)=more at I3 htb'
 refine⟨I3.kIn,?_⟩
 generalize hH3:upd H PT (.tbl (ps++more))=H3 at I3
 have sub:∀ {b:Addr}{o:Obj},(h'.push fo).get? b=some o→H3 b=none→b∉frs X.stack→(hidT (h'.push fo) (inH (frs X.stack) H3)).get? b=some o:=fun e n1 n2=>Z8c e (inH_of n2 n1)
 have nfr:∀ b o,X.base.get? b=some o→b∉frs X.stack:=fun b o e z=>by
  have:=(I3.stack.mem z).1
  rw [e]at this
  cases this
 have bk:∀ b o,X.base.get? b=some o→(hidT (h'.push fo) (inH (frs X.stack) H3)).get? b=some o:=fun b o e=>sub (I3.bk b o e) (I3.bs b o e).2 (nfr b o e)
 have hKb:X.K.In (hidT (h'.push fo) (inH (frs X.stack) H3)):=I.ok.mod.kin.keeps bk
 have hM:Mod X.K X.mg (hidT (h'.push fo) (inH (frs X.stack) H3)):=⟨hKb,I.ok.mod.glob.keeps bk,let ⟨mb,a,b⟩:=I.ok.mod.blt;⟨mb,a.keeps bk,b⟩,I.ok.mod.nolimit.keeps bk⟩
 have e0:Env0 X.prog X.w X.K X.mg (hidT (h'.push fo) (inH (frs X.stack) H3)) X.A X.stack { s with heap:=h'.push fo,toks:=tk } H3 :=
  ⟨I.ok.frames,hM,fun b o e=>⟨(Z6d e).1,(Z8u (Z6d e).2).2⟩,Z0U (Z7E _ _),Z7H I3.stack fun b hb=>?_,I3.stkFree,I3.hok,I3.bare⟩
 case refine_1 =>
  cases z:(hidT (h'.push fo) (inH (frs X.stack) H3)).get? b with
  |none=>rfl
  |some o=>exact absurd hb (Z8u (Z6d z).2).1
 have new:∀ {a:Addr},s.heap.objs.size≤a→H3 a=none∧a∉frs X.stack:=fun{a} ha=>by
  refine⟨?_,fun z=>?_⟩
  ·rw [←hH3,Z1W (fun z=>by rw [z]at ha;exact absurd (Z0h hP) (Nat.not_lt_of_le ha))]
   exact I.hok.fresh ha
  ·obtain⟨_,o,e,_⟩:=I.stack.mem z
   exact absurd (Z0h e) (Nat.not_lt_of_le ha)
 have nf:=new sz
 have fget:(hidT (h'.push fo) (inH (frs X.stack) H3)).get? h'.objs.size=some fo:=sub (Z0C _ (by rw [←hfo];rfl)) nf.1 nf.2
 have cells:∀ {y:Str}{c1:Addr},(Z2l X.env.cells scope.names []).lookup y=some c1→X.env.cells.lookup y=some c1:=fun{y c1} e=>by
  rcases Z3x (PySem.mem_of_lookup e)with z |⟨z1,z2⟩
  ·cases z
  ·obtain⟨c2,e2⟩:=hfree _ z1 rfl
   rw [e2]at z2
   rw [e2,z2];rfl
 have celB:∀ {y:Str}{c1:Addr}{v:Option Value},X.env.cells.lookup y=some c1→s.heap.IsCell c1 v→(hidT (h'.push fo) (inH (frs X.stack) H3)).IsCell c1 v:=fun{y c1 v} e ⟨o,e1,e2⟩=>by
  have nP:c1≠PT:=fun z=>by
   have:=I.freeC y c1 e
   rw [z,hT]at this
   cases this
  refine⟨o,sub (kp c1 o nP e1) (by rw [←hH3,Z1W nP];exact I.freeC y c1 e) fun z=>?_,e2⟩
  rw [hst,Z6n hfr]at z
  rcases Z0d.mp z with z |z
  ·exact I.cne y c1 e z
  ·obtain⟨_,o',e',_⟩:=I.ok.funs.mem z
   exact absurd (Z0h e') (Nat.not_lt_of_le (I.ok.cab y c1 (hfn y) e))
 have hLam:Lam (hidT (h'.push fo) (inH (frs X.stack) H3)) h'.objs.size (PySem.W.kla_fn "<lambda>" (X.env.qual++"<lambda>") params body scope (Z2l X.env.cells scope.names []) ((X.mg "__name__").getD .none) (.ref c') ctv) (X.env.qual++"<lambda>") params body scope (Z2l X.env.cells scope.names []) (.ref c') M vs:=by
  refine⟨⟨_,_,_,_,_,rfl,by rw [fget,←hfo]⟩,?_,fun y z c1 e1 e2=>I.ok.inj y z c1 (cells e1) (cells e2),fun y e=>?_,fun y c1 e=>?_,fun j y v e1 e2=>?_,by rw [hvl,hlx]⟩
  ·obtain⟨c2,o2,vs2,t2,q1,q2,q3,q4⟩:=hrec
   cases q1
   exact⟨c',o2,vs2,t2,rfl,sub (Z0m _ q2) (new hge).1 (new hge).2,q3,q4⟩
  ·obtain⟨c1,z⟩:=Z3K (Z3w (cells:=X.env.cells) (acc:=[]) (PySem.mem_of_lookup e))
   exact⟨c1,z⟩
  ·obtain⟨v,z⟩:=I.cell y c1 (cells e)
   exact⟨v,celB (cells e) z⟩
  ·obtain⟨i,i1,i2⟩:=hix j y e1
   have hi:=hvs j i v i1 e2
   obtain⟨m,hn,hl⟩:=I.loc
   have yf:=S.free y (Z0z e1)
   have yc:=hcel _ (PySem.mem_of_lookup yf) rfl
   obtain⟨u,ru,lk⟩:=hl i y v i2 hi (.inr (.inl yc))
   rcases lk with⟨z,_⟩ |⟨_,c1,z1,z2⟩
   ·have z:X.env.scope.names.lookup y=some .local:=z
    rw [yc]at z;cases z
   ·obtain⟨c2,z3⟩:=Z3K (Z3w (cells:=X.env.cells) (acc:=[]) (PySem.mem_of_lookup yf))
    have z4:=cells z3
    rw [z1]at z4
    cases z4
    exact⟨c1,u,z3,celB z1 z2,ru⟩
 have FF:=F _ _ _ _ _ vs hKb hM.glob hLam
 have hsp':=hsp h'.objs.size more (I.hok.fresh sz)
 rw [hH3]at hsp'
 have hb':=hb { s with heap:=h'.push fo,toks:=tk } [.ref h'.objs.size] I3.kIn rfl
 refine wpAny_call (codeAny_mono (FF.run X.A X.stack _ H3 ⟨[.ref h'.objs.size],[]⟩ [.ref h'.objs.size] [.ref h'.objs.size] Q E hr e0 hb' (.cons rfl .nil) hsp') fun r s' hq=>?_)
 cases r with
 |error e=>exact hx pins σ H3 _ e s' I3 hq
 |ok fl =>
  cases fl with
  |ret u=>exact I3.after hq
  |next=>exact False.elim hq
  |brk=>exact False.elim hq
  |cont=>exact False.elim hq
end
end LM
end
section
set_option maxHeartbeats 2000000
namespace LM
open PySem PySem.Spec PyProof.Rows L2 EX
open PySem.W (WData Codec OpenSpec Well WellAll ReadsW ReadsAllW)
theorem Z9W{P:Program}{w:World}{K:Z0a}{mg mb:Str→Option Value}{CX:CXT}{k:Nat}{fa c PT:Addr}{fd:FuncData}{ps:List Str}{sp:Sp}{s₁:Shared}{vals:List Value}{ds:List WData}{R:PySem.W.WRecords}{cl:Str→Option Addr}{d0:WData}
  (KX:K.In s₁.heap)(nT:PySem.W.noTabs K=true)(hC:PySem.W.CodeHd s₁.heap c PT)(hT:s₁.heap.get? PT=some (PySem.W.tabObj #[]))
  (hBm:∃ bm ob,mg "__builtins__" = some (.ref bm)∧bm≠builtinsNs∧s₁.heap.get? bm=some ob∧ob.cls=.type "module"∧ob.dict=some builtinsNs∧ob.data=.plain)
  (hns:s₁.heap.Ns mainGlobals mg)(hb:s₁.heap.Ns builtinsNs mb)(hbb:∀ x:Str,x≠"__name__"→mb x=bootBuiltins x)(hlim:s₁.heap.NoLimit)(hg:s₁.gens=#[])
  (hwl:WellAll w.params s₁.heap vals ds)(hpl:plWs ds=true)(hwt:∀ d∈ds,d.weight≤1048576)(hr:Room k callerA)
  (F:∀ base:Heap,K.In base→base.Ns mainGlobals mg→PySem.W.CodeHd base c PT→base.BuiltinsAt mg PT→FnOk P w K mg base CX k fa fd ps sp)(hbind:∀ (s:Shared)(us:List Value),us.length=ps.length→BindsTo s fd ⟨us,[]⟩ (ps.zip us))(hlen:ds.length=ps.length)
  (hsp:∀ (H:Hp)(xs:List V),DwAll K H xs ds→H PT=none→sp xs (upd H PT (.tbl #[])) (fun v H'=>Dw K H' v d0) fun _ _ _=>False)
  (hCX:∀ H e s',CX [] H s₁ (fun _ _ _=>False) e s'→False) :
  codeAny (model P w) callerA (.call (.ref fa) ⟨vals,[]⟩) (fun r s'=>∃ u as,r=.ok (.ret u)∧ReadsW R cl s'.heap u d0 as∧OldK s₁.heap s'.heap∧s'.os=s₁.os∧AllBare s'.gens) s₁:=by
 obtain⟨A,ho,ar⟩:=Z5p ds vals hwl hpl hwt
 have hO:OnlyF (argH K s₁.heap A):=Zaj ar
 have hok0:HOk P w (argH K s₁.heap A) s₁.heap:=argH_ok ar
 have hS:=Z6Z KX ar ds vals hwl hpl ho
 have hV:=Z3X ho
 have hK0:∀ b u,argH K s₁.heap A b=some u→K.lookup b=none:=fun b u q=>(Z6e ar q).1
 have noA:∀ {b:Addr}{o:Obj},s₁.heap.get? b=some o→(∀ vs n,o.data≠.seq vs n)→argH K s₁.heap A b=none:=fun{b o} e d=>by
  cases q:argH K s₁.heap A b with
  |none=>rfl
  |some u =>
   obtain⟨_,vs,_,_,⟨e2,_⟩ |⟨e2,_⟩⟩:=Z6e ar q
   ·rw [e2]at e
    cases e
    exact absurd rfl (d vs.toArray _)
   ·rw [e2]at e
    cases e
    exact absurd rfl (d vs.toArray _)
 have hPT:argH K s₁.heap A PT=none:=noA hT (fun vs n z=>by cases z)
 generalize argH K s₁.heap A=H0 at hO hok0 hS hK0 noA hPT
 have hok:HOk P w (upd H0 PT (.tbl #[])) s₁.heap:=fun a o e=>by
  by_cases z:a=PT
  ·rw [z,Z1X]at e
   cases e
   rw [z]
   exact hT
  ·rw [Z1W z]at e
   exact(hok0 a o e).stay (fun b u _ q=>q) (fun b q=>by rw [Z1W (Z1Z q hPT)];exact q) fun b xs q=>by rw [Z1W (Z1Z q hPT)];exact q
 have nKT:∀ b o,K.lookup b=some o→b≠PT:=fun b o e z=>by
  have e2:=KX b o e
  rw [z,hT]at e2
  have h2:=Z0R.mp nT (b,o) (PySem.W.mem_of_lookupK e)
  cases e2
  exact absurd (show false=true from h2) Z0t
 have base_of:∀ {b:Addr}{o:Obj},s₁.heap.get? b=some o→H0 b=none→b≠PT→(hidT s₁.heap (upd H0 PT (.tbl #[]))).get? b=some o:=fun e n z=>Z8c e (by rw [Z1W z];exact n)
 have nsK:∀ {b:Addr}{m:Str→Option Value},s₁.heap.Ns b m→(hidT s₁.heap (upd H0 PT (.tbl #[]))).Ns b m:=fun{b m} ⟨o,es,ep,e,d,r⟩ =>
  ⟨o,es,ep,base_of e (noA e fun vs n z=>by rw [d]at z;cases z) (fun z=>by rw [z,hT]at e;cases e;cases d),d,r⟩
 have nK:∀ b o,K.lookup b=some o→H0 b=none:=fun b o e=>by
  cases q:H0 b with
  |none=>rfl
  |some u =>
   rw [hK0 b u q]at e
   cases e
 have hKb:K.In (hidT s₁.heap (upd H0 PT (.tbl #[]))):=fun b o e=>base_of (KX b o e) (nK b o e) (nKT b o e)
 have hM:Mod K mg (hidT s₁.heap (upd H0 PT (.tbl #[]))):=⟨hKb,nsK hns,⟨mb,nsK hb,hbb⟩,let ⟨mc,h1,h2⟩:=hlim;⟨mc,nsK h1,h2⟩⟩
 have e0:Env0 P w K mg (hidT s₁.heap (upd H0 PT (.tbl #[]))) callerA [] s₁ (upd H0 PT (.tbl #[])):=⟨rfl,hM,fun b o e=>Z6d e,Z0U (Z7E _ _),trivial,fun b hb=>absurd (show b∈([]:List Addr)from hb) (by simp),hok,.of_eq hg⟩
 have hC':PySem.W.CodeHd (hidT s₁.heap (upd H0 PT (.tbl #[]))) c PT:=by
  obtain⟨o,vs,file,tf,flags,tg,inF,text,tt,e1,r1,r2,r3,r4,r5,r6,r7,r8,hne⟩:=hC
  exact⟨o,vs,file,tf,flags,tg,inF,text,tt,base_of e1 (noA e1 fun _ _ z=>by rw [r2]at z;cases z) hne,r1,r2,r3,r4,r5,r6,r7,r8,hne⟩
 have hB':(hidT s₁.heap (upd H0 PT (.tbl #[]))).BuiltinsAt mg PT:=by
  obtain⟨bm,ob,b1,b2,b3,b4,b5,b6⟩:=hBm
  have n1:bm≠PT:=fun z=>by rw [z,hT]at b3;cases b3;cases b4
  have n2:bm≠mainGlobals:=fun z=>by
   obtain⟨o,es,ep,e,d,_⟩:=hns
   rw [z,e]at b3
   cases b3
   rw [d]at b6
   cases b6
  exact⟨bm,ob,b1,b2,n2,n1,base_of b3 (noA b3 fun _ _ z=>by rw [b6]at z;cases z) n1,b4,b5,b6⟩
 have hl:vals.length=ps.length:=by rw [Z4d hwl];exact hlen
 refine codeAny_mono ((F _ hKb (nsK hns) hC' hB').run callerA [] s₁ (upd H0 PT (.tbl #[])) ⟨vals,[]⟩ vals (vals.map toV) _ _ hr e0 (hbind s₁ vals hl) hV (hsp H0 _ hS hPT)) fun r s' x=>?_
 cases r with
 |error e=>exact(hCX _ e s' x).elim
 |ok fl =>
  cases fl with
  |next=>exact False.elim x
  |brk=>exact False.elim x
  |cont=>exact False.elim x
  |ret u =>
   obtain⟨v,H',os,bare,un,hok',r',q⟩:=x
   have kept:∀ b o,b≠PT→s₁.heap.get? b=some o→s'.heap.get? b=some o:=fun b o nb e=>by
    cases q2:H0 b with
    |none=>exact un.keep b o e (by rw [Z1W nb];exact q2) (by intro z;exact absurd (show b∈([]:List Addr)from z) (by simp)) (by simp)
    |some u2 =>
     rcases hO b with z |⟨ob,u3,z⟩
     ·rw [q2]at z
      cases z
     ·have z2:=un.frzs b ob _ (by rw [Z1W nb];exact z)
      obtain⟨e1,_⟩:=hok0 b _ z
      obtain⟨e2,_⟩:=hok' b _ z2
      rw [e]at e1
      cases e1
      exact e2
   have KX':K.In s'.heap:=fun b o e=>kept b o (nKT b o e) (KX b o e)
   obtain⟨as,hrd⟩:=Dw.reads (R:=R) (cl:=cl) hok' KX' d0 v u q r'
   obtain⟨more,hm⟩:=un.tbls PT #[] Z1X
   have hm':s'.heap.get? PT=some (PySem.W.tabObj (#[]++more)):=hok' PT _ hm
   refine⟨u,as,rfl,hrd,⟨fun b o e=>?_,fun b o e=>?_⟩,os,bare⟩
   ·by_cases z:b=PT
    ·subst z
     rw [hT]at e
     cases e
     exact .inr (.inl ⟨(hC.tab hT).isCodeTable,rfl,#[],more,rfl,hm'⟩)
    ·exact .inl (kept b o z e)
   ·by_cases z:b=PT
    ·subst z
     exact⟨_,hm'⟩
    ·exact⟨o,kept b o z e⟩
theorem ZaE{r:OpenSpec}{k:Nat}{q:Program}{loose:List Str}{XP:(Str→Option Value)→Heap→Prop}{YP:World→Heap→Prop}{d:DefRec}{K:Params→Z0a}{CX:CXT}{ps:List Str}{sp:Z0a→Addr→Sp}
  (hwell:r.wellSaid=true)(hdf:d.params.defaults=[])(hlen:r.args.length=ps.length)(hr:Room k callerA)(hfind:(recsOf q).find? (fun e=>e.name==d.name)=some d)
  (hY:∀ (w:World)(h:Heap),YP w h→(K w.params).In h)
  (nT:∀ w:World,PySem.W.noTabs (K w.params)=true)
  (F:∀ (w:World)(mg:Str→Option Value)(fa:Addr)(h:Heap),YP w h→(K w.params).In h→h.Ns mainGlobals mg→mg d.name=some (.ref fa) →
    ∃ (fd:FuncData)(c PT:Addr),PySem.W.tabIn (K w.params) d.name=some (c,PT)∧(∀ (s:Shared)(us:List Value),us.length=ps.length→BindsTo s fd ⟨us,[]⟩ (ps.zip us)) ∧
     ∀ base:Heap,(K w.params).In base→base.Ns mainGlobals mg→PySem.W.CodeHd base c PT→base.BuiltinsAt mg PT→FnOk r.prog w (K w.params) mg base CX k fa fd ps (sp (K w.params) PT))
  (hsp:∀ (K:Z0a)(PT:Addr)(H:Hp)(xs:List V)(a:Codec.denoteAll r.args),H PT=none→Codec.withinAll r.args a=true→Codec.app r.args r.asked a=true→DwAll K H xs (Codec.encAll r.args a) →
    sp K PT xs (upd H PT (.tbl #[])) (fun v H'=>Dw K H' v (r.ret.enc (Codec.app r.args r.f a))) fun _ _ _=>False)
  (hCX:∀ (H:Hp)(s:Shared)(e:Value)(s':Shared),CX [] H s (fun _ _ _=>False) e s'→False) :
  PySem.W.WalkOS q loose XP YP r d [] (fun f vs=>PySem.call f vs):=by
 intro w s_0 s₁ mg mb G Y fa o pm cd doc dV kV ho hd hcd hD hmg hg args vals as hpre hlay hrd hwl hlo
 obtain⟨a,e1,e2⟩:=PySem.W.os_pre_some hpre
 obtain⟨e3,hwi⟩:=Codec.encAll_of_decAll r.args args a e1
 subst e3
 have KX:=hY w _ Y
 obtain⟨fd,c,PT,hti,hb,hF⟩:=F w mg fa _ Y KX G.T.g hmg
 obtain⟨hC,hT⟩:=PySem.W.tab_of G.T KX hfind hti
 refine PySem.W.enter_call (codeAny_mono (Z9W (R:=[]) (cl:=classAt s_0.heap) (d0:=r.ret.enc (Codec.app r.args r.f a)) KX (nT w) hC hT G.T.bmain G.T.g G.T.b G.T.builtins G.T.nolimit hg hwl (Z7D _ _) (Z7m hlay) hr hF hb (by rw [Z6Q];exact hlen)
  (fun H xs hS hP=>hsp _ PT H xs a hP hwi e2 hS) fun H e s'=>hCX H s₁ e s') fun r' s' hq=>?_)
 obtain⟨u,as',rfl,h1,h2,h3,h4⟩:=hq
 exact⟨.inl ⟨u,_,as',rfl,fun _=>rfl,h1,(OpenSpec.post_iff hwell hwi _ _).mpr rfl,fun z=>Bool.noConfusion (show false=true from z)⟩,h2,h3,h4⟩
end LM
end
section
namespace EX
open PySem PyProof.Rows HT
def lexLe:List Int→List Int→Bool
 |[],_=>true
 |_::_,[]=>false
 |x::xs,y::ys=>if x=y then lexLe xs ys else decide (x≤y)
theorem Z5B(x y:Int)(xs ys:List Int):lexLe (x::xs) (y::ys)=if x=y then lexLe xs ys else decide (x≤y):=rfl
theorem rcLe_int(A:Around)(s:Shared)(a:Int)(t:Tok)(c:Int)(u:Tok)(prog:Program)(w:World)(E:Value→Shared→Prop)(Q:Value→Shared→Prop)(h:Q (.bool (decide (a≤c))) s) :
  wpAny (model prog w) A (richCompare .LtE (.int a t) (.int c u)) Q E s :=
 (PyProof.Rows.le_int h:wpAny (model prog w) A (compareOp .LtE (.int a t) (.int c u)) Q E s)
section
open PySem.SeqAt
open PySem.AutoSeq1 (wpAny_loadPart')
open PySem.MeetsSeq PySem.MeetsSeq2 PySem.MeetsSeq3
theorem Z7Q(l b:Addr)(items items2:Array Value)(n n2:Nat)(dd dd2:Option Addr)(sl sl2:Array (Option Value))(ns ms:List Int)(hi:IntsAre items.toList ns)(hj:IntsAre items2.toList ms) :
  Meets (Builtin.«tuple.__le__» ⟨[.ref l,.ref b],[]⟩)
   (fun _ R s=>s.heap.get? l=some { cls:=.type "tuple",dict:=dd,data:=.seq items n,slots:=sl }∧s.heap.get? b=some { cls:=.type "tuple",dict:=dd2,data:=.seq items2 n2,slots:=sl2 } ∧
     R (.ok (.ret (.bool (lexLe ns ms)))) s) :=
 .of_wp fun prog w A R s h=>by
  obtain⟨hp,g,d,tk,os⟩:=s;obtain⟨hl,hb,h⟩:=h
  have f2:=AutoSeq1.sub_tuple_tuple
  have z1:items.size=ns.length:=by rw [←hi.length];simp
  have z2:items2.size=ms.length:=by rw [←hj.length];simp
  wp_walk using wpAny_loadPart' hl,wpAny_loadPart' hb,wpAny_forIn_list _ (fun rest b s'=>b.1=none∧s'=⟨hp,g,d,tk,os⟩∧∃ (vs ws:List Value)(ns' ms':List Int),rest=vs.zip ws ∧
   IntsAre vs ns'∧IntsAre ws ms'∧ns'.length+items2.size=ms'.length+items.size∧R (.ok (.ret (.bool (lexLe ns' ms')))) ⟨hp,g,d,tk,os⟩) _
  case turn =>
   rintro⟨y,x⟩ rest b s' ⟨hb',rfl,vs,ws,ns',ms',hz,hvi,hwi,hlen,hR⟩
   cases hvi with
   |nil=>rw [List.zip_nil_left]at hz;cases hz
   |cons a t hvi' =>
    cases hwi with
    |nil=>rw [List.zip_nil_right]at hz;cases hz
    |cons c u hwi' =>
     rw [List.zip_cons_cons]at hz
     injection hz with hyx hrest
     injection hyx with hy hx
     subst hy hx
     rw [Z5B]at hR
     simp only [Z0s]at hlen
     obtain⟨e,he,hiff⟩:=eqAt_int A.in1 ⟨hp,g,d,tk,os⟩ a t c u
     refine wpAny_bind (he prog w _ _ ?_)
     cases e with
     |true =>
      rw [if_pos (hiff.mp rfl)]at hR
      wp_walk
      exact⟨rfl,rfl,_,_,_,_,hrest,hvi',hwi',by omega,hR⟩
     |false =>
      rw [if_neg (fun q=>absurd (hiff.mpr q) Z0t)]at hR
      have hri:=rcLe_int A.in1 ⟨hp,g,d,tk,os⟩ a t c u prog w
      wp_walk using hri
      exact⟨_,rfl,by simpa using hR⟩
  case fin =>
   rintro⟨b1,b2⟩ s' ⟨hb',rfl,vs,ws,ns',ms',hz,hvi,hwi,hlen,hR⟩
   simp only at hb'
   subst hb'
   have hv:lexLe ns' ms'=decide (items.size≤items2.size):=by
    cases hvi with
    |nil =>
     simp only [Z0Q]at hlen
     exact(decide_eq_true (by omega)).symm
    |cons a t hv =>
     cases hwi with
     |nil =>
      simp only [Z0Q,Z0s]at hlen
      exact(decide_eq_false (by omega)).symm
     |cons c u hw =>
      rw [List.zip_cons_cons]at hz
      cases hz
   rw [hv]at hR
   wp_walk
   exact⟨_,rfl,by simpa [Builtin.Tuple.tupleCompareSizes]using hR⟩
  case h =>
   exact⟨rfl,rfl,items.toList,items2.toList,ns,ms,rfl,hi,hj,by omega,h⟩
end
section
variable{prog:Program}{w:World}{A:Around}{E:Value→Shared→Prop}{s:Shared}
theorem Z9J{l b:Addr}{items items2:Array Value}{ns ms:List Int}{Q:Value→Shared→Prop}(hl:IsTup s.heap l items)(hb:IsTup s.heap b items2)(hi:IntsAre items.toList ns)(hj:IntsAre items2.toList ms)
  (hu:A.units<cLine)(h:Q (.bool (lexLe ns ms)) s):wpAny (model prog w) A (compareOp .LtE (.ref l) (.ref b)) Q E s:=by
 obtain⟨⟨cls,dd,data,sl⟩,ho,hc,n,hd⟩:=id hl
 obtain⟨⟨cls2,dd2,data2,sl2⟩,ho2,hc2,n2,hd2⟩:=id hb
 simp only at hc hd hc2 hd2
 subst hc hd hc2 hd2
 exact richCompare_meets_room (op:=.LtE) ⟨_,ho,rfl⟩ ⟨_,ho2,rfl⟩ PySem.F.slot_tuple_le PySem.F.entry_tuple_le (PySem.F.args_tuple_le_2 _ _) (Z7Q l b items items2 n n2 dd dd2 sl sl2 ns ms hi hj)
  ⟨ho,ho2,show Value.bool (lexLe ns ms)≠Value.notImplemented∧Q (.bool (lexLe ns ms)) s from⟨(fun x=>nomatch x),h⟩⟩ hu
end
open L2
def rLeT(K:Z0a):R2:=fun x y H Q=>∃ a b ns ms,x=.ref a∧y=.ref b∧SqT K H a (ns.map V.int)∧SqT K H b (ms.map V.int)∧Q (.bl (lexLe ns ms)) H
theorem op_leT{X:Cx}(hu:X.A.units<cLine):OpR X (compareOp .LtE) (rLeT X.K):=by
 intro pins s σ H x y v u Q I rx ry h
 obtain⟨a,b,ns,ms,rfl,rfl,ha,hb,q⟩:=h
 cases rx
 cases ry
 obtain⟨its,r1,p1,_⟩:=I.tuple ha
 obtain⟨its2,r2,p2,_⟩:=I.tuple hb
 exact Z9J p1 p2 (Z6U r1) (Z6U r2) hu ⟨.bl (lexLe ns ms),H,I,rfl,q⟩
end EX
end
section
namespace RD
open PySem PySem.Spec PyProof.Rows L2 EX
section
variable{X:Cx}
theorem pe_gc{x:Str}{v:V}{pos:Pos}(hg:Gl X x)(h:∃ u,X.mg x=some u∧RelV v u)(hd:(x==("__debug__" : Str))=false:=by decide):PE X (.Name x pos) (tC v):=by
 obtain⟨u,a,b⟩:=h
 exact Z6c hg a b hd
end
theorem for_rev{K:Z0a}{a:Addr}{xs:List V}{g:TG}{tb:TS}{D:Ends}{σ:L2.St}{H:Hp}(Pv:Nat→L2.St→Hp→Prop)(h0:Pv 0 σ H)(hl:∀ i σ H,i≤xs.length→Pv i σ H→SqL K H a xs)
  (hs:∀ i x σ H,i<xs.length→xs[xs.length-1-i]?=some x→Pv i σ H→g x σ H fun σ2 H2=>tb { D with nx:=Pv (i+1),ct:=Pv (i+1),bk:=D.nx } σ2 H2)(hd:∀ σ H,Pv xs.length σ H→D.nx σ H) :
  ∃ W:Nat→Nat→L2.St→Hp→Prop,(∃ m,W 0 m σ H)∧∀ i m σ H,W i m σ H →
   ((Itv K a xs.length).stop i H∧D.nx σ H)∨((Itv K a xs.length).go i H∧∃ N:L2.St→Hp→Prop,(∀ σ' H',N σ' H'→∃ m',m' < m∧W (i+1) m' σ' H')∧∀ x H',(Itv K a xs.length).yld i H x H'→g x σ H' fun σ2 H2=>tb { D with nx:=N,ct:=N,bk:=D.nx } σ2 H2):=by
 refine⟨fun i m σ H=>m=xs.length-i∧i≤xs.length∧Pv i σ H,⟨xs.length,by simp,Z0q _,h0⟩,?_⟩
 rintro i m σ H ⟨rfl,hi,p⟩
 have q:=hl i σ H hi p
 by_cases hlt:i<xs.length
 ·have hx:xs.length-1-i<xs.length:=by omega
  refine .inr ⟨⟨hlt,xs,xs[xs.length-1-i],q,by simp [hx]⟩,Pv (i+1),fun σ' H' p'=>⟨xs.length-(i+1),by omega,rfl,hlt,p'⟩,fun x H' y=>?_⟩
  obtain⟨e,y⟩:=y
  subst e
  exact hs i x σ _ hlt (y xs q) p
 ·have e:i=xs.length:=by omega
  subst e
  exact .inl ⟨Z0e _,hd σ H p⟩
def Only(r:Addr)(H H':Hp):Prop:=∀ b o,H b=some o→b≠r→H' b=some o
theorem Only.refl(r:Addr)(H:Hp):Only r H H:=fun _ _ h _=>h
theorem Only.trans{r:Addr}{H H1 H2:Hp}(a:Only r H H1)(b:Only r H1 H2):Only r H H2:=fun c o h n=>b c o (a c o h n) n
theorem Only.upd{r:Addr}{H:Hp}(o:HO):Only r H (L2.upd H r o):=fun b o' h n=>by rw [Z1W n];exact h
theorem Only.new{r a:Addr}{H H1:Hp}{o:HO}(h:Only r H H1)(n:H1 a=none):Only r H (L2.upd H1 a o):=fun b o' e hb=>by
 have e1:=h b o' e hb
 rw [Z1W (Z1Z e1 n)];exact e1
theorem Same.new{a:Addr}{H:Hp}{o:HO}(n:H a=none):Same H (L2.upd H a o):=fun b o' e=>by
 rw [Z1W (Z1Z e n)];exact e
theorem Only.sq{K:Z0a}{r a C dx:Addr}{fs:List (Str×V)}{H H':Hp}{xs:List V}(h:Only r H H')(hr:H r=some (.ins C dx fs))(s:SqL K H a xs):SqL K H' a xs:=by
 rcases s with(s |⟨o,s⟩) |s
 ·exact .inl (.inl (h _ _ s (ne_of s hr (by intro z;cases z))))
 ·exact .inl (.inr ⟨o,h _ _ s (ne_of s hr (by intro z;cases z))⟩)
 ·exact .inr s
theorem Only.sqT{K:Z0a}{r a C dx:Addr}{fs:List (Str×V)}{H H':Hp}{xs:List V}(h:Only r H H')(hr:H r=some (.ins C dx fs))(s:SqT K H a xs):SqT K H' a xs:=by
 rcases s with(s |⟨o,s⟩) |s
 ·exact .inl (.inl (h _ _ s (ne_of s hr (by intro z;cases z))))
 ·exact .inl (.inr ⟨o,h _ _ s (ne_of s hr (by intro z;cases z))⟩)
 ·exact .inr s
theorem Same.sqT{K:Z0a}{H H':Hp}{a:Addr}{xs:List V}(e:Same H H')(h:SqT K H a xs):SqT K H' a xs:=by
 rcases h with(h |⟨o,h⟩) |h
 ·exact .inl (.inl (e _ _ h))
 ·exact .inl (.inr ⟨o,e _ _ h⟩)
 ·exact .inr h
def rf(a:Addr)(p:Int):List (Str×V):=[("form",.ref a),("place",.int p)]
theorem Z4w(a:Addr)(p:Int):(rf a p).lookup ("form" : Str)=some (.ref a):=by
 unfold rf;rw [Z0b,show(("form" : Str)=="form")=true by decide]
theorem Z2L(a:Addr)(p:Int):(rf a p).lookup ("place" : Str)=some (.int p):=by
 unfold rf;rw [Z0b,show(("place" : Str)=="form")=false by decide,Z0b,show(("place" : Str)=="place")=true by decide]
theorem rf_no(a:Addr)(p:Int){m:Str}(h:(m=="form")=false)(h':(m=="place")=false):(rf a p).lookup m=none:=by
 unfold rf;rw [Z0b,h,Z0b,h'];rfl
theorem rf_put(a:Addr)(p q:Int):putF "place" (.int q) (rf a p)=rf a q:=by
 unfold rf putF
 rw [if_neg (by decide)]
 unfold putF
 rw [if_pos rfl]
theorem rf_mk(a:Addr)(p:Int):putF "place" (.int p) (putF "form" (.ref a) [])=rf a p:=by
 unfold rf
 show putF "place" (.int p) [("form",.ref a)]=_
 unfold putF
 rw [if_neg (by decide)]
 rfl
def RdAt(C:Addr)(H:Hp)(r a:Addr)(p:Nat):Prop:=∃ dx,H r=some (.ins C dx (rf a p))
def xf(rule place which:Int):List (Str×V):=[("which",.int which),("place",.int place),("rule",.int rule)]
theorem xf_which(r p w:Int):(xf r p w).lookup ("which" : Str)=some (.int w):=by
 unfold xf;rw [Z0b,show(("which" : Str)=="which")=true by decide]
theorem Z8f(r p w:Int):(xf r p w).lookup ("place" : Str)=some (.int p):=by
 unfold xf;rw [Z0b,show(("place" : Str)=="which")=false by decide,Z0b,show(("place" : Str)=="place")=true by decide]
theorem Z9g(r p w:Int):(xf r p w).lookup ("rule" : Str)=some (.int r):=by
 unfold xf;rw [Z0b,show(("rule" : Str)=="which")=false by decide,Z0b,show(("rule" : Str)=="place")=false by decide,Z0b,show(("rule" : Str)=="rule")=true by decide]
def Flt(CF:Addr)(E:XK)(H:Hp)(r:Addr)(rule place:Int):Prop:=∀ H' dx,Only r H H'→H' dx=some (.xd (xf rule place 0))→E (.ref CF) (some dx) H'
theorem Flt.only{CF:Addr}{E:XK}{H H1:Hp}{r:Addr}{rule place:Int}(f:Flt CF E H r rule place)(o:Only r H H1):Flt CF E H1 r rule place:=fun H' dx o' h=>f H' dx (o.trans o') h
def numL(l:List Int):Int:=l.foldr (fun b n=>b+256*n) 0
def numM(bs:List Int)(p size:Nat)(lo hi:Int):Except (Int×Int) Int :=
 if bs.length<p+size then .error (5,bs.length)else
 if numL ((bs.drop p).take size)<lo∨hi<numL ((bs.drop p).take size)then .error (2,p)else .ok (numL ((bs.drop p).take size))
def markM(bs:List Int):Nat→List Int→Except (Int×Int) Nat
 |p,[]=>.ok p
 |p,m::ms=>if p=bs.length then .error (5,p)else if bs[p]?≠some m then .error (1,p)else markM bs (p+1) ms
theorem cut_nat(xs:List V)(p q:Nat)(h:q≤xs.length)(hp:p≤q):cutV xs (some (p:Int)) (some (q:Int))=(xs.drop p).take (q-p):=by
 unfold cutV
 rw [HT.sIx_nat,HT.sIx_nat,Nat.min_eq_left h,Nat.min_eq_left (Z0x hp h)]
theorem Zan{l:List Int}{i:Nat}{x:Int}(hi:i<l.length)(h:l[l.length-1-i]?=some x):numL (l.drop (l.length-(i+1)))=numL (l.drop (l.length-i))*256+x:=by
 have h1:l.length-(i+1)<l.length:=by omega
 have e1:l.length-1-i=l.length-(i+1):=by omega
 rw [e1]at h
 have e2:l.length-(i+1)+1=l.length-i:=by omega
 have hx:l[l.length-(i+1)]=x:=by
  rw [Z0l h1]at h
  exact Option.some.inj h
 rw [Z1R h1,e2,hx]
 show x+256*numL (l.drop (l.length-i))=_
 omega
section
variable{X:Cx}
def CDivL(i j:Int):Prop:=0<j∧j.natAbs.log2<9000
theorem Z8O:OpR X (binaryOp .FloorDiv) (rI CDivL fun i j=>.int (i / j)):=opI fun i j _ _ _ _ _ hc q=>by
 have h1:(0:Int)<j:=hc.1
 exact floordiv_int (by omega) (by rw [Int.fdiv_eq_ediv_of_nonneg i (by omega)];exact q) (.inl (PyProof.noPylong_of_log2 hc.2))
theorem CDivL.of{i j:Int}{k:Nat}(h0:0<j)(h:j.natAbs<2 ^ k)(hk:k≤9000):CDivL i j:=by
 refine⟨h0,Z0v ((Nat.log2_lt (by omega)).mpr h) hk⟩
def Tups(H:Hp)(ts:List Addr)(ls:List (List Int)):Prop:=ts.length=ls.length∧∀ (j:Nat)(t:Addr)(m:List Int),ts[j]?=some t→ls[j]?=some m→H t=some (.tup (m.map V.int))
theorem Tups.same{H H':Hp}{ts:List Addr}{ls:List (List Int)}(h:Tups H ts ls)(k:∀ b xs,H b=some (.tup xs)→H' b=some (.tup xs)):Tups H' ts ls:=⟨h.1,fun j t m a b=>k _ _ (h.2 j t m a b)⟩
theorem Tups.nil{H:Hp}:Tups H [] []:=⟨rfl,fun j t m a b=>by simp at a⟩
theorem Tups.snoc{H:Hp}{ts:List Addr}{ls:List (List Int)}{t:Addr}{m:List Int}(h:Tups H ts ls)(ht:H t=some (.tup (m.map V.int))):Tups H (ts++[t]) (ls++[m]):=by
 refine⟨by simp [h.1],fun j t' m' a b=>?_⟩
 rw [List.getElem?_append]at a b
 rw [h.1]at a
 split at a
 ·rename_i hj
  rw [if_pos hj]at b
  exact h.2 j t' m' a b
 ·rename_i hj
  rw [if_neg hj]at b
  cases z:j-ls.length with
  |zero =>
   rw [z]at a b
   cases a;cases b
   exact ht
  |succ n=>rw [z]at a;simp at a
open Classical in
end
end RD
end
section
namespace L2
open PySem PySem.Spec PyProof.Rows
theorem Z6t{K:Z0a}{a:Addr}{xs:List V}{g:TG}{tb:TS}{D:Ends}{σ:St}{H:Hp}(Pv:Nat→St→Hp→Prop)(h0:Pv 0 σ H)(hl:∀ i σ H,i≤xs.length→Pv i σ H→SqL K H a xs)
  (hs:∀ i x σ H T,xs[i]?=some x→Pv i σ H→H T=none→g (.ref T) σ (upd H T (.tup [.int (i:Nat),x])) fun σ2 H2=>tb { D with nx:=Pv (i+1),ct:=Pv (i+1),bk:=D.nx } σ2 H2)(hd:∀ σ H,Pv xs.length σ H→D.nx σ H) :
  ∃ W:Nat→Nat→St→Hp→Prop,(∃ m,W 0 m σ H)∧∀ i m σ H,W i m σ H →
   ((Ite K a).stop i H∧D.nx σ H)∨((Ite K a).go i H∧∃ N:St→Hp→Prop,(∀ σ' H',N σ' H'→∃ m',m' < m∧W (i+1) m' σ' H')∧∀ x H',(Ite K a).yld i H x H'→g x σ H' fun σ2 H2=>tb { D with nx:=N,ct:=N,bk:=D.nx } σ2 H2):=by
 refine⟨fun i m σ H=>m=xs.length-i∧i≤xs.length∧Pv i σ H,⟨xs.length,by simp,Z0q _,h0⟩,?_⟩
 rintro i m σ H ⟨rfl,hi,p⟩
 have q:=hl i σ H hi p
 by_cases hlt:i<xs.length
 ·refine .inr ⟨⟨xs,xs[i],q,by simp [hlt]⟩,Pv (i+1),fun σ' H' p'=>⟨xs.length-(i+1),by omega,rfl,hlt,p'⟩,fun x H' y=>?_⟩
  obtain⟨T,y,rfl,hT,rfl,h⟩:=y
  exact hs i y σ _ T (h xs q) p hT
 ·have e:i=xs.length:=by omega
  subst e
  exact .inl ⟨⟨xs,q,Z0e _⟩,hd σ H p⟩
theorem Z9l{n j:Nat}(h:j<n):ixN n (j:Int)=some j:=by
 unfold ixN
 rw [if_pos (by omega),if_pos (by omega)]
 simp
section
variable{X:Cx}
def rGetL(K:Z0a):V→V→Hp→VK→Prop:=fun x y H Q=>∃ (p:Addr)(xs:List V)(j:Nat)(v:V),x=.ref p∧y=.int (j:Int)∧SqL K H p xs∧xs[j]?=some v∧Q v H
theorem Z8q:PGet X (rGetL X.K):=by
 intro pins s σ H o i ov iv Q I ro ri h
 obtain⟨p,xs,j,z,rfl,rfl,hq,he,q⟩:=h
 cases ro
 obtain⟨t,rfl⟩:=ri
 obtain⟨its,r,pl,hz⟩:=I.list hq
 obtain⟨w,ew,rw'⟩:=r.get he
 have hl:=r.length
 have hn:=Z5b
 have hj:=(Z0p.mp he).1
 exact wpAny_getItem_list pl.isList (by omega) (by omega) (by simpa using ew) ⟨z,H,I,rw',q⟩
end
end L2
end
section
namespace MX
def sm:Nat→(Nat→Int)→Int
 |0,_=>0
 |n+1,f=>sm n f+f n
theorem Z4P{n:Nat}{f g:Nat→Int}(h:∀ i,i<n→f i=g i):sm n f=sm n g:=by
 induction n with
 |zero=>rfl
 |succ n ih=>unfold sm;rw [ih fun i hi=>h i (by omega),h n (by omega)]
theorem Z3W{n:Nat}{f:Nat→Int}(h:∀ i,i<n→f i=0):sm n f=0:=by
 induction n with
 |zero=>rfl
 |succ n ih=>unfold sm;rw [ih fun i hi=>h i (by omega),h n (by omega)];rfl
theorem Z5V(n:Nat)(f g:Nat→Int):sm n (fun i=>f i+g i)=sm n f+sm n g:=by
 induction n with
 |zero=>rfl
 |succ n ih=>show sm n (fun i=>f i+g i)+(f n+g n)=(sm n f+f n)+(sm n g+g n);rw [ih];omega
theorem Z8l(n:Nat)(c:Int)(f:Nat→Int):sm n (fun i=>c*f i)=c*sm n f:=by
 induction n with
 |zero=>show(0:Int)=c*0;omega
 |succ n ih=>unfold sm;rw [ih,Int.mul_add]
theorem Z9m(n m:Nat)(f:Nat→Nat→Int):sm n (fun i=>sm m (fun j=>f i j))=sm m (fun j=>sm n (fun i=>f i j)):=by
 induction n with
 |zero=>exact(Z3W fun j _=>rfl).symm
 |succ n ih =>
  show sm n (fun i=>sm m fun j=>f i j)+sm m (fun j=>f n j)=sm m fun j=>sm n (fun i=>f i j)+f n j
  rw [ih,Z5V]
theorem Z5k{n a:Nat}(h:a<n)(g:Nat→Int):sm n (fun v=>if v=a then g v else 0)=g a:=by
 induction n with
 |zero=>omega
 |succ n ih =>
  show sm n (fun v=>if v=a then g v else 0)+(if n=a then g n else 0)=g a
  by_cases e:n=a
  ·subst e
   rw [if_pos rfl,Z3W fun i hi=>if_neg (by omega)]
   omega
  ·rw [if_neg e,ih (by omega)]
   omega
theorem Z7P{n:Nat}{f:Nat→Int}(h:∀ i,i<n→0≤f i):0≤sm n f:=by
 induction n with
 |zero=>exact Int.le_refl 0
 |succ n ih=>unfold sm;have:=ih fun i hi=>h i (by omega);have:=h n (by omega);omega
theorem sm_le{n:Nat}{f g:Nat→Int}(h:∀ i,i<n→f i≤g i):sm n f≤sm n g:=by
 induction n with
 |zero=>exact Int.le_refl 0
 |succ n ih=>unfold sm;have:=ih fun i hi=>h i (by omega);have:=h n (by omega);omega
theorem sm_but{n k:Nat}{f:Nat→Int}{b:Int}(hb:b≤0)(hk:b≤f k)(h:∀ i,i<n→i≠k→0≤f i):b≤sm n f:=by
 induction n with
 |zero=>exact hb
 |succ n ih =>
  unfold sm
  by_cases e:n=k
  ·subst e
   have:0≤sm n f:=Z7P fun i hi=>h i (by omega) (by omega)
   omega
  ·have:=ih fun i hi hn=>h i (by omega) hn
   have:=h n (by omega) e
   omega
theorem sm_even{n:Nat}{f g:Nat→Int}(h:∀ i,i<n→(f i-g i) % 2=0):(sm n f-sm n g) % 2=0:=by
 induction n with
 |zero=>rfl
 |succ n ih=>unfold sm;have:=ih fun i hi=>h i (by omega);have:=h n (by omega);omega
structure Bd where
 a:Nat
 b:Nat
 o:Int
structure Gr where
 n:Nat
 m:Nat
 bd:Nat→Bd
structure Gr.Ok(G:Gr):Prop where
 ne:∀ e,e<G.m→(G.bd e).a≠(G.bd e).b
 an:∀ e,e<G.m→(G.bd e).a<G.n
 bn:∀ e,e<G.m→(G.bd e).b<G.n
 lo:∀ e,e<G.m→1≤(G.bd e).o∧(G.bd e).o≤3
def Gr.room(G:Gr)(t:Int)(e:Nat):Int:=if t=1 then 3-(G.bd e).o else(G.bd e).o-1
def inc(d:Bd)(v:Nat):Int:=(if v=d.a then 1 else 0)+(if v=d.b then 1 else 0)
def Gr.bdr(G:Gr)(δ:Nat→Int)(v:Nat):Int:=sm G.m fun e=>inc (G.bd e) v*δ e
structure Gr.Chg(G:Gr)(δ:Nat→Int):Prop where
 up:∀ e,e<G.m→δ e≤3-(G.bd e).o
 dn:∀ e,e<G.m→-((G.bd e).o-1)≤δ e
 sum:∀ v,v<G.n→G.bdr δ v=0
inductive Lab where
 |un
 |one (t:Int)
 |two (r:Nat)
 deriving DecidableEq
def Lab.has:Lab→Int→Prop
 |.un,_=>False
 |.one t,s=>t=s
 |.two _,_=>True
def Lab.y:Lab→Int
 |.one t=>t
 |_=>0
structure Cert(G:Gr)(c:Nat)(T:Int)(lab:Nat→Lab)(st:Nat→Nat):Prop where
 sgn:∀ v t,v<G.n→lab v=.one t→t=1∨t=-1
 root:∀ v r,v<G.n→lab v=.two r→r<G.n∧lab r=.two r
 out:∀ e t,e<G.m→e≠c→(t=1∨t=-1)→0<G.room t e→((lab (G.bd e).a).has t→lab (G.bd e).b≠.un)∧((lab (G.bd e).b).has t→lab (G.bd e).a≠.un)
 two:∀ e t,e<G.m→e≠c→(t=1∨t=-1)→0<G.room t e→(lab (G.bd e).a).has t→(lab (G.bd e).b).has t →
  (∃ r,lab (G.bd e).a=.two r∧lab (G.bd e).b=.two r)∨(G.room t e=1∧((lab (G.bd e).a=.two (G.bd e).a∧st (G.bd e).a=e)∨(lab (G.bd e).b=.two (G.bd e).b∧st (G.bd e).b=e)))
 stem:∀ r,r<G.n→lab r=.two r→st r=c∨(st r<G.m∧st r≠c∧∃ s,(s=1∨s=-1)∧0<G.room s (st r)∧(((G.bd (st r)).a=r∧(lab (G.bd (st r)).b).has s)∨((G.bd (st r)).b=r∧(lab (G.bd (st r)).a).has s)))
 cm:c<G.m
 ca:lab (G.bd c).a=.one (-T)∨(lab (G.bd c).a=.two (G.bd c).a∧st (G.bd c).a=c)
 cb:lab (G.bd c).b=.one (-T)∨(lab (G.bd c).b=.two (G.bd c).b∧st (G.bd c).b=c)
 cT:T=1∨T=-1
def wt(lab:Nat→Lab)(st:Nat→Nat)(x y e:Nat)(r:Nat):Int:=if lab x=.two r∧lab y≠.two r then(if st r=e then -1 else 1)else 0
section
variable{G:Gr}{c:Nat}{T:Int}{lab:Nat→Lab}{st:Nat→Nat}{δ:Nat→Int}
theorem inc_pick(h:G.Ok){e:Nat}(he:e<G.m)(y:Nat→Int):sm G.n (fun v=>y v*inc (G.bd e) v)=y (G.bd e).a+y (G.bd e).b:=by
 have e1:(fun v=>y v*inc (G.bd e) v)=fun v=>(if v=(G.bd e).a then y v else 0)+(if v=(G.bd e).b then y v else 0):=by
  funext v
  unfold inc
  split<;>split<;>omega
 rw [e1,Z5V,Z5k (h.an e he),Z5k (h.bn e he)]
theorem sum_y(h:G.Ok)(hd:G.Chg δ)(y:Nat→Int):sm G.m (fun e=>δ e*(y (G.bd e).a+y (G.bd e).b))=0:=by
 have e1:sm G.n (fun v=>y v*G.bdr δ v)=0:=Z3W fun v hv=>by rw [hd.sum v hv];omega
 have e2:sm G.n (fun v=>y v*G.bdr δ v)=sm G.n fun v=>sm G.m fun e=>y v*(inc (G.bd e) v*δ e):=Z4P fun v _=>(Z8l _ _ _).symm
 rw [e2,Z9m]at e1
 rw [←e1]
 refine Z4P fun e he=>?_
 rw [←inc_pick h he y]
 rw [←Z8l]
 refine Z4P fun v _=>?_
 rw [Int.mul_comm (δ e),Int.mul_assoc]
theorem sum_wt(C:Cert G c T lab st)(h:G.Ok){x y e:Nat}(hx:x<G.n):sm G.n (fun r=>wt lab st x y e r)=(match lab x with |.two r=>if lab y≠.two r then(if st r=e then -1 else 1)else 0 |_=>0):=by
 cases hl:lab x with
 |un=>exact Z3W fun r _=>by unfold wt;rw [if_neg];rw [hl];rintro⟨z,_⟩;cases z
 |one t=>exact Z3W fun r _=>by unfold wt;rw [if_neg];rw [hl];rintro⟨z,_⟩;cases z
 |two r0 =>
  have hr:=(C.root x r0 hx hl).1
  have:(fun r=>wt lab st x y e r)=fun r=>if r=r0 then(if lab y≠.two r then(if st r=e then -1 else 1)else 0)else 0:=by
   funext r
   unfold wt
   rw [hl]
   by_cases q:r=r0
   ·subst q
    simp
   ·rw [if_neg q,if_neg]
    rintro⟨z,_⟩
    cases z
    exact q rfl
  rw [this,Z5k hr]
theorem border(C:Cert G c T lab st)(h:G.Ok)(hd:G.Chg δ)(hc:δ c=T){r:Nat}(hr:r<G.n) :
  0≤sm G.m (fun e=>(δ e).natAbs*(wt lab st (G.bd e).a (G.bd e).b e r+wt lab st (G.bd e).b (G.bd e).a e r)):=by
 by_cases hm:lab r=.two r
 ·have ev:(sm G.m (fun e=>(δ e).natAbs*(wt lab st (G.bd e).a (G.bd e).b e r+wt lab st (G.bd e).b (G.bd e).a e r))-sm G.m (fun e=>δ e*((if lab (G.bd e).a=.two r then 1 else 0)+(if lab (G.bd e).b=.two r then 1 else 0)))) % 2=0:=by
   refine sm_even fun e he=>?_
   unfold wt
   by_cases q1:lab (G.bd e).a=.two r<;>by_cases q2:lab (G.bd e).b=.two r
   ·simp [q1,q2]
   ·simp only [q1,q2,ne_eq,not_true_eq_false,not_false_eq_true,and_true,and_false,if_true,if_false]
    split<;>omega
   ·simp only [q1,q2,ne_eq,not_true_eq_false,not_false_eq_true,and_true,and_false,if_true,if_false]
    split<;>omega
   ·simp [q1,q2]
  rw [sum_y h hd (fun v=>if lab v=.two r then 1 else 0)]at ev
  have lb:(-1:Int)≤sm G.m (fun e=>(δ e).natAbs*(wt lab st (G.bd e).a (G.bd e).b e r+wt lab st (G.bd e).b (G.bd e).a e r)):=by
   refine sm_but (k:=st r) (by decide) ?_ fun e he hne=>?_
   ·
    by_cases q1:lab (G.bd (st r)).a=.two r<;>by_cases q2:lab (G.bd (st r)).b=.two r
    ·simp [wt,q1,q2]
    ·have small:(δ (st r)).natAbs≤1:=by
      rcases C.stem r hr hm with z |⟨z1,z2,s,hs,hro,z3⟩
      ·rw [z,hc];rcases C.cT with e |e<;>rw [e]<;>decide
      ·have hh:(lab (G.bd (st r)).a).has s:=by rw [q1];trivial
       have hh2:(lab (G.bd (st r)).b).has s:=by
        rcases z3 with⟨_,z⟩ |⟨z,_⟩
        ·exact z
        ·rw [z]at q2;exact absurd hm q2
       have:=C.two (st r) s z1 z2 hs hro hh hh2
       rcases this with⟨r2,a1,a2⟩ |⟨a1,_⟩
       ·rw [q1]at a1;cases a1;exact absurd a2 q2
       ·have u:=hd.up _ z1
        have d:=hd.dn _ z1
        unfold Gr.room at a1
        split at a1<;>omega
     simp only [wt,q1,q2,ne_eq,not_true_eq_false,not_false_eq_true,and_true,and_false,if_true,if_false]
     omega
    ·have small:(δ (st r)).natAbs≤1:=by
      rcases C.stem r hr hm with z |⟨z1,z2,s,hs,hro,z3⟩
      ·rw [z,hc];rcases C.cT with e |e<;>rw [e]<;>decide
      ·have hh:(lab (G.bd (st r)).b).has s:=by rw [q2];trivial
       have hh2:(lab (G.bd (st r)).a).has s:=by
        rcases z3 with⟨z,_⟩ |⟨_,z⟩
        ·rw [z]at q1;exact absurd hm q1
        ·exact z
       have:=C.two (st r) s z1 z2 hs hro hh2 hh
       rcases this with⟨r2,a1,a2⟩ |⟨a1,_⟩
       ·rw [q2]at a2;cases a2;exact absurd a1 q1
       ·have u:=hd.up _ z1
        have d:=hd.dn _ z1
        unfold Gr.room at a1
        split at a1<;>omega
     simp only [wt,q1,q2,ne_eq,not_true_eq_false,not_false_eq_true,and_true,and_false,if_true,if_false]
     omega
    ·simp [wt,q1,q2]
   ·have hn:(if st r=e then(-1:Int)else 1)=1:=if_neg fun z=>hne z.symm
    unfold wt
    rw [hn]
    by_cases q1:lab (G.bd e).a=.two r<;>by_cases q2:lab (G.bd e).b=.two r
    ·simp [q1,q2]
    ·simp only [q1,q2,ne_eq,not_true_eq_false,not_false_eq_true,and_true,and_false,if_true,if_false];omega
    ·simp only [q1,q2,ne_eq,not_true_eq_false,not_false_eq_true,and_true,and_false,if_true,if_false];omega
    ·simp [q1,q2]
  omega
 ·
  rw [Z3W]
  ·exact Int.le_refl 0
  ·intro e he
   have q1:lab (G.bd e).a≠.two r:=fun z=>hm (C.root _ r (h.an e he) z).2
   have q2:lab (G.bd e).b≠.two r:=fun z=>hm (C.root _ r (h.bn e he) z).2
   simp [wt,q1,q2]
def Wx(lab:Nat→Lab)(st:Nat→Nat)(x y e:Nat):Int:=match lab x with
 |.two r=>if lab y≠.two r then(if st r=e then -1 else 1)else 0
 |_=>0
theorem local_le(C:Cert G c T lab st)(h:G.Ok)(hd:G.Chg δ){e:Nat}(he:e<G.m)(hec:e≠c) :
  δ e*((lab (G.bd e).a).y+(lab (G.bd e).b).y)+(δ e).natAbs*(Wx lab st (G.bd e).a (G.bd e).b e+Wx lab st (G.bd e).b (G.bd e).a e)≤0:=by
 have up:=hd.up e he
 have dn:=hd.dn e he
 have rm:∀ t:Int,(t=1∨t=-1)→0<t*δ e→0<G.room t e:=fun t ht hp=>by
  unfold Gr.room
  rcases ht with rfl |rfl
  ·rw [if_pos rfl];omega
  ·rw [if_neg (by decide)];omega
 have C2:=fun t ht hp=>C.two e t he hec ht (rm t ht hp)
 have C1:=fun t ht hp=>C.out e t he hec ht (rm t ht hp)
 have sa:=fun t z=>C.sgn (G.bd e).a t (h.an e he) z
 have sb:=fun t z=>C.sgn (G.bd e).b t (h.bn e he) z
 unfold Wx
 generalize (G.bd e).a=x at *
 generalize (G.bd e).b=y at *
 generalize δ e=d at *
 cases lx:lab x with
 |un =>
  cases ly:lab y with
  |un=>simp [Lab.y]
  |one t =>
   rw [lx,ly]at C1
   simp only [Lab.y]
   have ht:=sb t ly
   have:¬ 0<t*d:=fun hp=>(C1 t ht hp).2 rfl rfl
   rcases ht with rfl |rfl<;>omega
  |two r =>
   rw [lx,ly]at C1
   have a1:¬ 0<1*d:=fun hp=>(C1 1 (.inl rfl) hp).2 trivial rfl
   have a2:¬ 0 < -1*d:=fun hp=>(C1 (-1) (.inr rfl) hp).2 trivial rfl
   have:d=0:=by omega
   rw [this];simp
 |one t =>
  have ht:=sa t lx
  cases ly:lab y with
  |un =>
   rw [lx,ly]at C1
   simp only [Lab.y]
   have:¬ 0<t*d:=fun hp=>(C1 t ht hp).1 rfl rfl
   rcases ht with rfl |rfl<;>omega
  |one u =>
   have hu:=sb u ly
   simp only [Lab.y]
   by_cases q:t=u
   ·subst q
    have:¬ 0<t*d:=fun hp=>by
     rcases C2 t ht hp (by rw [lx];rfl) (by rw [ly];rfl)with⟨r,z,_⟩ |⟨_,⟨z,_⟩ |⟨z,_⟩⟩
     ·rw [lx]at z;cases z
     ·rw [lx]at z;cases z
     ·rw [ly]at z;cases z
    rcases ht with rfl |rfl<;>omega
   ·have:t+u=0:=by omega
    rw [this];simp
  |two r =>
   simp only [Lab.y]
   rw [if_pos (by intro z;cases z)]
   by_cases hp:0<t*d
   ·rcases C2 t ht hp (by rw [lx];rfl) (by rw [ly];trivial)with⟨r',z,_⟩ |⟨_,⟨z,_⟩ |⟨z1,z2⟩⟩
    ·rw [lx]at z;cases z
    ·rw [lx]at z;cases z
    ·rw [ly]at z1
     cases z1
     rw [if_pos z2]
     rcases ht with rfl |rfl<;>omega
   ·have:(if st r=e then(-1:Int)else 1)≤1:=by split<;>decide
    generalize (if st r=e then(-1:Int)else 1)=w at this
    have hn:(0:Int)≤(d.natAbs:Int):=Int.natCast_nonneg _
    have h2:(d.natAbs:Int)*(0+w)≤(d.natAbs:Int)*1:=Z1S (by omega) hn
    rcases ht with rfl |rfl<;>omega
 |two r =>
  cases ly:lab y with
  |un =>
   rw [lx,ly]at C1
   have a1:¬ 0<1*d:=fun hp=>(C1 1 (.inl rfl) hp).1 trivial rfl
   have a2:¬ 0 < -1*d:=fun hp=>(C1 (-1) (.inr rfl) hp).1 trivial rfl
   have:d=0:=by omega
   rw [this];simp
  |one t =>
   have ht:=sb t ly
   simp only [Lab.y]
   rw [if_pos (by intro z;cases z)]
   by_cases hp:0<t*d
   ·rcases C2 t ht hp (by rw [lx];trivial) (by rw [ly];rfl)with⟨r',_,z⟩ |⟨_,⟨z1,z2⟩ |⟨z,_⟩⟩
    ·rw [ly]at z;cases z
    ·rw [lx]at z1
     cases z1
     rw [if_pos z2]
     rcases ht with rfl |rfl<;>omega
    ·rw [ly]at z;cases z
   ·have:(if st r=e then(-1:Int)else 1)≤1:=by split<;>decide
    generalize (if st r=e then(-1:Int)else 1)=w at this
    have hn:(0:Int)≤(d.natAbs:Int):=Int.natCast_nonneg _
    have h2:(d.natAbs:Int)*(w+0)≤(d.natAbs:Int)*1:=Z1S (by omega) hn
    rcases ht with rfl |rfl<;>omega
  |two u =>
   simp only [Lab.y]
   by_cases q:u=r
   ·subst q
    simp
   ·rw [if_pos (c:=Lab.two u≠Lab.two r) (by intro z;cases z;exact q rfl),if_pos (c:=Lab.two r≠Lab.two u) (by intro z;cases z;exact q rfl)]
    by_cases z:d=0
    ·rw [z];simp
    ·have hn:(0:Int)≤(d.natAbs:Int):=Int.natCast_nonneg _
     have key:(if st r=e then(-1:Int)else 1)+(if st u=e then(-1:Int)else 1)≤0:=by
      have:∃ t:Int,(t=1∨t=-1)∧0<t*d:=by
       rcases Int.lt_or_gt_of_ne z with z |z
       ·exact⟨-1,.inr rfl,by omega⟩
       ·exact⟨1,.inl rfl,by omega⟩
      obtain⟨t,ht,hp⟩:=this
      rcases C2 t ht hp (by rw [lx];trivial) (by rw [ly];trivial)with⟨r',z1,z2⟩ |⟨_,⟨z1,z2⟩ |⟨z1,z2⟩⟩
      ·rw [lx]at z1;rw [ly]at z2;cases z1;cases z2;exact absurd rfl q
      ·rw [lx]at z1;cases z1
       rw [if_pos z2]
       split<;>decide
      ·rw [ly]at z1;cases z1
       rw [if_pos z2]
       split<;>decide
     have h2:(d.natAbs:Int)*((if st r=e then(-1:Int)else 1)+(if st u=e then(-1:Int)else 1))≤(d.natAbs:Int)*0:=Z1S key hn
     omega
theorem local_c(C:Cert G c T lab st)(h:G.Ok)(hc:δ c=T) :
  δ c*((lab (G.bd c).a).y+(lab (G.bd c).b).y)+(δ c).natAbs*(Wx lab st (G.bd c).a (G.bd c).b c+Wx lab st (G.bd c).b (G.bd c).a c)≤-2:=by
 have ne:=h.ne c C.cm
 have ca:=C.ca
 have cb:=C.cb
 have hT:=C.cT
 rw [hc]
 unfold Wx
 generalize (G.bd c).a=x at *
 generalize (G.bd c).b=y at *
 rcases ca with ca |⟨ca,ca2⟩<;>rcases cb with cb |⟨cb,cb2⟩<;>rw [ca,cb]<;>simp only [Lab.y]
 ·rcases hT with rfl |rfl<;>decide
 ·rw [if_pos (by intro z;cases z),if_pos cb2]
  rcases hT with rfl |rfl<;>decide
 ·rw [if_pos (by intro z;cases z),if_pos ca2]
  rcases hT with rfl |rfl<;>decide
 ·rw [if_pos (c:=Lab.two y≠Lab.two x) (by intro z;cases z;exact ne rfl),if_pos (c:=Lab.two x≠Lab.two y) (by intro z;cases z;exact ne rfl),if_pos ca2,if_pos cb2]
  rcases hT with rfl |rfl<;>decide
theorem Zav(C:Cert G c T lab st)(h:G.Ok)(hd:G.Chg δ):δ c≠T:=fun hc=>by
 have s1:0≤sm G.n fun r=>sm G.m fun e=>(δ e).natAbs*(wt lab st (G.bd e).a (G.bd e).b e r+wt lab st (G.bd e).b (G.bd e).a e r):=Z7P fun r hr=>border C h hd hc hr
 rw [Z9m]at s1
 have e1:sm G.m (fun e=>sm G.n fun r=>(δ e).natAbs*(wt lab st (G.bd e).a (G.bd e).b e r+wt lab st (G.bd e).b (G.bd e).a e r))=sm G.m fun e=>(δ e).natAbs*(Wx lab st (G.bd e).a (G.bd e).b e+Wx lab st (G.bd e).b (G.bd e).a e):=by
  refine Z4P fun e he=>?_
  rw [Z8l,Z5V,sum_wt C h (h.an e he),sum_wt C h (h.bn e he)]
  rfl
 rw [e1]at s1
 have s2:=sum_y h hd (fun v=>(lab v).y)
 have s3:sm G.m (fun e=>δ e*((lab (G.bd e).a).y+(lab (G.bd e).b).y)+(δ e).natAbs*(Wx lab st (G.bd e).a (G.bd e).b e+Wx lab st (G.bd e).b (G.bd e).a e))≤sm G.m fun e=>if e=c then(-2:Int)else 0:=by
  refine sm_le fun e he=>?_
  by_cases q:e=c
  ·subst q
   rw [if_pos rfl]
   exact local_c C h hc
  ·rw [if_neg q]
   exact local_le C h hd he q
 rw [Z5V,s2,Z5k C.cm (fun _=>(-2:Int))]at s3
 omega
end
end MX
end
section
namespace MX
def Jn(d:Bd)(x y:Nat):Prop:=(d.a=x∧d.b=y)∨(d.b=x∧d.a=y)
theorem Jn.symm{d:Bd}{x y:Nat}(h:Jn d x y):Jn d y x:=h.elim (fun⟨a,b⟩=>.inr ⟨b,a⟩) fun⟨a,b⟩=>.inl ⟨b,a⟩
theorem Jn.eq{d:Bd}{x y z:Nat}(h:Jn d x y)(h2:Jn d x z)(hn:d.a≠d.b):y=z:=by
 rcases h with⟨a,b⟩ |⟨a,b⟩<;>rcases h2 with⟨a',b'⟩ |⟨a',b'⟩<;>first |(rw [←b,←b'];done) |(exfalso;apply hn;omega)
theorem Jn.ne{d:Bd}{x y:Nat}(h:Jn d x y)(hn:d.a≠d.b):x≠y:=by
 rcases h with⟨a,b⟩ |⟨a,b⟩<;>omega
theorem Jn.end{d:Bd}{x y z w:Nat}(h:Jn d x y)(h2:Jn d z w):z=x∨z=y:=by
 rcases h with⟨a,b⟩ |⟨a,b⟩<;>rcases h2 with⟨a',b'⟩ |⟨a',b'⟩<;>omega
def one(e:Nat)(t:Int):Nat→Int:=fun i=>if i=e then t else 0
def dl(x:Nat)(t:Int):Nat→Int:=fun v=>if v=x then t else 0
section
variable{G:Gr}
theorem Z2Q(f g:Nat→Int)(v:Nat):G.bdr (fun e=>f e+g e) v=G.bdr f v+G.bdr g v:=by
 unfold Gr.bdr
 rw [←Z5V]
 exact Z4P fun e _=>Int.mul_add ..
theorem Z6y(v:Nat):G.bdr (fun _=>0) v=0:=Z3W fun e _=>Int.mul_zero _
theorem Z4u{e x y:Nat}(he:e<G.m)(h:Jn (G.bd e) x y)(t:Int)(v:Nat):G.bdr (one e t) v=dl x t v+dl y t v:=by
 unfold Gr.bdr one
 have:(fun i=>inc (G.bd i) v*if i=e then t else 0)=fun i=>if i=e then inc (G.bd i) v*t else 0:=by
  funext i;split<;>omega
 rw [this,Z5k he (fun i=>inc (G.bd i) v*t)]
 unfold inc dl
 rcases h with⟨rfl,rfl⟩ |⟨rfl,rfl⟩<;>split<;>split<;>omega
def Gr.Bnd(G:Gr)(f:Nat→Int):Prop:=∀ e,e<G.m→f e≤G.room 1 e∧-(G.room (-1) e)≤f e
theorem Z4r(h:G.Ok){e:Nat}(he:e<G.m)(t:Int):0≤G.room t e:=by
 have:=h.lo e he
 unfold Gr.room
 split<;>omega
theorem Z6v(h:G.Ok):G.Bnd fun _=>0:=fun e he=>⟨Z4r h he 1,by have:=Z4r h he (-1);show -(G.room (-1) e)≤0;omega⟩
theorem Z5e(h:G.Ok){e:Nat}{t:Int}(ht:t=1∨t=-1)(hr:0<G.room t e):G.Bnd (one e t):=fun i hi=>by
 have a:=Z4r h hi 1
 have b:=Z4r h hi (-1)
 unfold one
 by_cases q:i=e
 ·subst q
  rw [if_pos rfl]
  rcases ht with rfl |rfl<;>omega
 ·rw [if_neg q];omega
theorem Z2T{f g:Nat→Int}(hf:G.Bnd f)(hg:G.Bnd g)(hd:∀ e,f e=0∨g e=0):G.Bnd fun e=>f e+g e:=fun e he=>by
 have a:=hf e he
 have b:=hg e he
 show f e+g e≤_∧_≤f e+g e
 rcases hd e with q |q<;>rw [q]<;>omega
end
structure S where
 re:Nat→Prop
 root:Nat→Nat
 rk:Nat→Nat
 nx:Nat
 cb:Nat→Nat
 cf:Nat→Option Nat
 ar:Nat→Int
 tn:Nat→Int→Prop
 dn:Nat→Int→Nat→Prop
def S.up(s:S)(z:Nat):Option Nat:=(s.cf z).map s.root
structure S.Mu(s:S)(G:Gr)(c v:Nat)(t:Int)(μ:Nat→Int):Prop where
 bnd:G.Bnd μ
 sup:∀ e,μ e≠0→e<G.m∧e≠c∧s.re (G.bd e).a∧s.re (G.bd e).b∧s.root (G.bd e).a=s.root v∧s.root (G.bd e).b=s.root v
 bdr:∀ w,G.bdr μ w=-(dl (s.root v) (s.ar (s.root v)) w)-dl v t w
structure S.Ok(s:S)(G:Gr)(c:Nat)(T:Int):Prop where
 rn:∀ x,s.re x→x<G.n
 rkn:∀ x,s.re x→s.rk x<s.nx
 root:∀ x,s.re x→s.re (s.root x)∧s.root (s.root x)=s.root x∧(s.root x≠x→s.rk (s.root x)<s.rk x)
 first:∀ x,s.re x→s.tn x (-(s.ar x))∧(s.ar x=1∨s.ar x=-1)
 tnr:∀ x t,s.tn x t→s.re x∧(t=1∨t=-1)
 cls:∀ x y t,s.re x→s.re y→x≠y→s.root x=s.root y→(t=1∨t=-1)→s.tn x t
 top:∀ x,s.re x→s.cf x=none→s.cb x=c∧(x=(G.bd c).a∨x=(G.bd c).b)∧s.ar x=T
 tree:∀ x w,s.re x→s.cf x=some w→s.re w∧s.rk w<s.rk x∧s.cb x<G.m∧s.cb x≠c∧Jn (G.bd (s.cb x)) x w∧0<G.room (s.ar x) (s.cb x)∧s.tn w (s.ar x)∧s.dn w (s.ar x) (s.cb x)
 upp:∀ x,s.re x→s.root x≠x→∃ w,s.cf x=some w∧s.root w=s.root x
 ends:s.re (G.bd c).a∧s.re (G.bd c).b∧s.cf (G.bd c).a=none∧s.cf (G.bd c).b=none
 mu:∀ v t,s.tn v t→∃ μ,s.Mu G c v t μ
 d1:∀ x t e,s.dn x t e→s.tn x t∧e<G.m∧e≠c∧0<G.room t e∧∃ y,Jn (G.bd e) x y∧s.re y
 d2:∀ x y t e,Jn (G.bd e) x y→s.dn x t e→s.dn y t e→s.root x=s.root y∨(G.room t e=1∧((s.root x=x∧s.cb x=e∧s.ar x=t)∨(s.root y=y∧s.cb y=e∧s.ar y=t)))
 d4:∀ x y t e,Jn (G.bd e) x y→s.dn y t e→s.cb x=e→s.cf x=some y→s.ar x=-t→s.root x=s.root y
section
variable{G:Gr}{c:Nat}{T:Int}{s:S}
theorem S.Ok.rootTop(k:s.Ok G c T){x:Nat}(h:s.re x)(hc:s.cf x=none):s.root x=x:=by
 by_cases q:s.root x=x
 ·exact q
 ·obtain⟨w,e,_⟩:=k.upp x h q
  rw [hc]at e;cases e
inductive Path (up:Nat→Option Nat):Nat→List Nat→Option Nat→Prop
 |nil (m:Nat):Path up m [] (some m)
 |top (z:Nat):up z=none→Path up z [z] none
 |step (z z':Nat)(L:List Nat)(m:Option Nat):up z=some z'→some z≠m→Path up z' L m→Path up z (z::L) m
theorem up_lt(k:s.Ok G c T){z z':Nat}(hr:s.re z)(h:s.up z=some z'):s.re z'∧s.root z'=z'∧s.rk z' < s.rk z:=by
 unfold S.up at h
 cases e:s.cf z with
 |none=>rw [e]at h;cases h
 |some w =>
  rw [e]at h
  cases h
  obtain⟨h1,h2,_⟩:=k.tree z w hr e
  obtain⟨h3,h4,h5⟩:=k.root w h1
  refine⟨h3,h4,?_⟩
  by_cases q:s.root w=w
  ·rw [q];exact h2
  ·exact Z0O (h5 q) h2
theorem Z6b(k:s.Ok G c T):∀ {z:Nat}{L:List Nat}{m:Option Nat},Path s.up z L m→s.re z→s.root z=z→(∀ w∈L,s.re w∧s.root w=w∧s.rk w≤s.rk z)∧∀ m',m=some m'→s.re m'∧s.root m'=m'∧s.rk m'≤s.rk z∧∀ w∈L,s.rk m' < s.rk w
 |_,_,_,.nil m,hr,hz=>⟨fun w hw=>by simp at hw,fun m' e=>by cases e;exact⟨hr,hz,Z0e _,fun w hw=>by simp at hw⟩⟩
 |_,_,_,.top z hu,hr,hz=>⟨fun w hw=>by rw [Z0i.mp hw];exact⟨hr,hz,Z0e _⟩,fun m' e=>by cases e⟩
 |_,_,_,.step z z' L m hu hne hp,hr,hz=>by
  obtain⟨a1,a2,a3⟩:=up_lt k hr hu
  obtain⟨b1,b2⟩:=Z6b k hp a1 a2
  refine⟨fun w hw=>?_,fun m' e=>?_⟩
  ·rcases Z0d.mp hw with rfl |hw
   ·exact⟨hr,hz,Z0e _⟩
   ·obtain⟨c1,c2,c3⟩:=b1 w hw
    exact⟨c1,c2,by omega⟩
  ·obtain⟨c1,c2,c3,c4⟩:=b2 m' e
   refine⟨c1,c2,by omega,fun w hw=>?_⟩
   rcases Z0d.mp hw with rfl |hw
   ·omega
   ·exact c4 w hw
theorem Z7d(k:s.Ok G c T){z z':Nat}{L:List Nat}{m:Option Nat}(hr:s.re z)(hz:s.root z=z)(hu:s.up z=some z')(hp:Path s.up z' L m):z∉L∧∀ w∈L,s.rk w<s.rk z:=by
 obtain⟨a1,a2,a3⟩:=up_lt k hr hu
 obtain⟨b1,_⟩:=Z6b k hp a1 a2
 have h:∀ w∈L,s.rk w<s.rk z:=fun w hw=>by have:=(b1 w hw).2.2;omega
 exact⟨fun hm=>Z0u _ (h z hm),h⟩
structure Kap(s:S)(G:Gr)(c v:Nat)(t:Int)(L:List Nat)(m:Nat)(κ:Nat→Int)(w:Nat)(r:Int):Prop where
 rew:s.re w
 rtw:s.root w=m
 tnw:s.tn w r
 bnd:G.Bnd κ
 sup:∀ e,κ e≠0→e<G.m∧e≠c∧s.re (G.bd e).a∧s.re (G.bd e).b∧(s.root (G.bd e).a∈L∨s.root (G.bd e).b∈L)∧(s.root (G.bd e).a∈L∨s.root (G.bd e).a=m)∧(s.root (G.bd e).b∈L∨s.root (G.bd e).b=m)
 stem:∀ e,κ e≠0→(s.root (G.bd e).a=m∨s.root (G.bd e).b=m)→∃ z∈L,∃ w',s.cb z=e∧Jn (G.bd e) z w'∧κ e=s.ar z
 bdr:∀ u,G.bdr κ u=-(dl v t u)+dl w r u
theorem kap(k:s.Ok G c T)(hG:G.Ok):∀ {L:List Nat}{z m v:Nat}{t:Int},Path s.up z L (some m)→s.re v→s.root v=z→s.tn v t→∃ κ w r,Kap s G c v t L m κ w r
 |[],z,m,v,t,hp,hv,hz,ht=>by
  have e:z=m:=by cases hp with |nil=>rfl
  subst e
  refine⟨fun _=>0,v,t,hv,hz,ht,Z6v hG,fun e h=>absurd rfl h,fun e h=>absurd rfl h,fun u=>?_⟩
  rw [Z6y];omega
 |y::L,z,m,v,t,hp,hv,hz,ht=>by
  have hyz:z=y:=by cases hp with |step _ _ _ _ _ _ _=>rfl
  subst hyz
  obtain⟨z',hu,hne,hp⟩:∃ z',s.up z=some z'∧some z≠some m∧Path s.up z' L (some m):=by
   cases hp with |step _ z' _ _ hu hne hp=>exact⟨z',hu,hne,hp⟩
  ·
   have hroot:=k.root v hv
   rw [hz]at hroot
   obtain⟨hrz,hzz,_⟩:=hroot
   obtain⟨nL,_⟩:=Z7d k hrz hzz hu hp
   have hu':=hu
   unfold S.up at hu'
   cases ec:s.cf z with
   |none=>rw [ec]at hu';cases hu'
   |some w1 =>
    rw [ec]at hu'
    have er:s.root w1=z':=Option.some.inj hu'
    obtain⟨t1,t2,t3,t4,t5,t6,t7,t8⟩:=k.tree z w1 hrz ec
    obtain⟨κ1,w,r,K1⟩:=kap k hG hp t1 er t7
    obtain⟨μ,M⟩:=k.mu v t ht
    have a1:=up_lt k hrz hu
    have mz:∀ m',some m=some m'→m'≠z:=fun m' e q=>hne (by rw [e,q])
    have mz:=mz m rfl
    have z'z:z'≠z:=fun q=>by have:=a1.2.2;rw [q]at this;exact Z0u _ this
    have hf:=(k.first z hrz).2
    have s1:∀ e,κ1 e≠0→s.root (G.bd e).a≠z∧s.root (G.bd e).b≠z:=fun e h=>by
     obtain⟨_,_,_,_,_,q1,q2⟩:=K1.sup e h
     refine⟨fun q=>?_,fun q=>?_⟩
     ·rcases q1 with q1 |q1
      ·rw [q]at q1;exact nL q1
      ·rw [q]at q1;exact mz q1.symm
     ·rcases q2 with q2 |q2
      ·rw [q]at q2;exact nL q2
      ·rw [q]at q2;exact mz q2.symm
    have s2:∀ e,μ e≠0→s.root (G.bd e).a=z∧s.root (G.bd e).b=z:=fun e h=>by
     obtain⟨_,_,_,_,q1,q2⟩:=M.sup e h
     rw [hz]at q1 q2
     exact⟨q1,q2⟩
    have s3:(s.root (G.bd (s.cb z)).a=z∧s.root (G.bd (s.cb z)).b=z')∨(s.root (G.bd (s.cb z)).b=z∧s.root (G.bd (s.cb z)).a=z'):=by
     rcases t5 with⟨q1,q2⟩ |⟨q1,q2⟩
     ·exact .inl ⟨by rw [q1];exact hzz,by rw [q2];exact er⟩
     ·exact .inr ⟨by rw [q1];exact hzz,by rw [q2];exact er⟩
    have d1:∀ e,μ e=0∨one (s.cb z) (s.ar z) e=0:=fun e=>by
     by_cases q:e=s.cb z
     ·left
      by_cases q2:μ e=0
      ·exact q2
      ·have:=s2 e q2
       rw [q]at this
       rcases s3 with⟨_,b⟩ |⟨_,b⟩
       ·rw [this.2]at b;exact absurd b.symm z'z
       ·rw [this.1]at b;exact absurd b.symm z'z
     ·right;unfold one;rw [if_neg q]
    have d2:∀ e,μ e+one (s.cb z) (s.ar z) e=0∨κ1 e=0:=fun e=>by
     by_cases q:κ1 e=0
     ·exact .inr q
     ·left
      have h1:=s1 e q
      have h2:μ e=0:=by
       by_cases q2:μ e=0
       ·exact q2
       ·exact absurd (s2 e q2).1 h1.1
      have h3:e≠s.cb z:=fun q3=>by
       rw [q3]at h1
       rcases s3 with⟨b,_⟩ |⟨b,_⟩
       ·exact h1.1 b
       ·exact h1.2 b
      rw [h2]
      unfold one
      rw [if_neg h3]
      rfl
    refine⟨fun e=>(μ e+one (s.cb z) (s.ar z) e)+κ1 e,w,r,K1.rew,K1.rtw,K1.tnw,Z2T (Z2T M.bnd (Z5e hG hf t6) d1) K1.bnd d2,fun e h=>?_,fun e h hm=>?_,fun u=>?_⟩
    ·by_cases q1:κ1 e=0
     ·by_cases q2:e=s.cb z
      ·rw [q2]
       refine⟨t3,t4,?_⟩
       have hz':z'∈L∨z'=m:=by
        cases hp with
        |nil=>exact .inr rfl
        |step _ _ _ _ _ _ _=>exact .inl (Z0g ..)
       have rea:s.re (G.bd (s.cb z)).a∧s.re (G.bd (s.cb z)).b:=by
        rcases t5 with⟨q1,q2⟩ |⟨q1,q2⟩
        ·rw [q1,q2];exact⟨hrz,t1⟩
        ·rw [q1,q2];exact⟨t1,hrz⟩
       refine⟨rea.1,rea.2,?_⟩
       rcases s3 with⟨b1,b2⟩ |⟨b1,b2⟩
       ·rw [b1,b2]
        exact⟨.inl (Z0g ..),.inl (Z0g ..),hz'.elim (fun q=>.inl (Z0f _ q)) .inr⟩
       ·rw [b1,b2]
        exact⟨.inr (Z0g ..),hz'.elim (fun q=>.inl (Z0f _ q)) .inr,.inl (Z0g ..)⟩
      ·have q3:μ e≠0:=fun q3=>h (by show μ e+one (s.cb z) (s.ar z) e+κ1 e=0;rw [q1,q3];unfold one;rw [if_neg q2];rfl)
       obtain⟨m1,m2,m3,m4,m5,m6⟩:=M.sup e q3
       rw [hz]at m5 m6
       rw [m5,m6]
       exact⟨m1,m2,m3,m4,.inl (Z0g ..),.inl (Z0g ..),.inl (Z0g ..)⟩
     ·obtain⟨m1,m2,m3,m4,m5,m6,m7⟩:=K1.sup e q1
      exact⟨m1,m2,m3,m4,m5.imp (Z0f _) (Z0f _),m6.imp_left (Z0f _),m7.imp_left (Z0f _)⟩
    ·by_cases q1:κ1 e=0
     ·by_cases q2:e=s.cb z
      ·refine⟨z,Z0g ..,w1,q2.symm,by rw [q2];exact t5,?_⟩
       have h2:μ e=0:=by
        rcases d1 e with q |q
        ·exact q
        ·rw [q2]at q;unfold one at q;rw [if_pos rfl]at q;rcases hf with z |z<;>omega
       show μ e+one (s.cb z) (s.ar z) e+κ1 e=s.ar z
       rw [q1,h2,q2];unfold one;rw [if_pos rfl];omega
      ·have q3:μ e≠0:=fun q3=>h (by show μ e+one (s.cb z) (s.ar z) e+κ1 e=0;rw [q1,q3];unfold one;rw [if_neg q2];rfl)
       obtain⟨m5,m6⟩:=s2 e q3
       rw [m5,m6]at hm
       exact absurd (hm.elim id id).symm mz
     ·obtain⟨y',hy,w',a1,a2,a3⟩:=K1.stem e q1 hm
      refine⟨y',Z0f _ hy,w',a1,a2,?_⟩
      show μ e+one (s.cb z) (s.ar z) e+κ1 e=s.ar y'
      rcases d2 e with q |q
      ·omega
      ·exact absurd q q1
    ·rw [Z2Q,Z2Q,M.bdr,Z4u t3 t5,K1.bdr,hz]
     omega
end
end MX
end
section
namespace MX
section
variable{G:Gr}{c:Nat}{T:Int}{s:S}
structure Nu(s:S)(G:Gr)(c:Nat)(T:Int)(v:Nat)(t:Int)(L:List Nat)(ν:Nat→Int)(p:Nat):Prop where
 top:p=(G.bd c).a∨p=(G.bd c).b
 mem:p∈L
 bnd:G.Bnd ν
 sup:∀ e,ν e≠0→e<G.m∧e≠c∧s.root (G.bd e).a∈L∧s.root (G.bd e).b∈L
 bdr:∀ u,G.bdr ν u=-(dl v t u)-dl p T u
theorem nu(k:s.Ok G c T)(hG:G.Ok):∀ {L:List Nat}{z v:Nat}{t:Int},Path s.up z L none→s.re v→s.root v=z→s.tn v t→∃ ν p,Nu s G c T v t L ν p
 |[],z,v,t,hp,hv,hz,ht=>by cases hp
 |y::L,z,v,t,hp,hv,hz,ht=>by
  have hyz:z=y:=by cases hp<;>rfl
  subst hyz
  have hroot:=k.root v hv
  rw [hz]at hroot
  obtain⟨hrz,hzz,_⟩:=hroot
  obtain⟨μ,M⟩:=k.mu v t ht
  have cases2:(L=[]∧s.up z=none)∨∃ z',s.up z=some z'∧Path s.up z' L none:=by
   cases hp with
   |top _ hu=>exact .inl ⟨rfl,hu⟩
   |step _ z' _ _ hu hne hp=>exact .inr ⟨z',hu,hp⟩
  rcases cases2 with⟨rfl,hu⟩ |⟨z',hu,hp⟩
  ·have ec:s.cf z=none:=by
    unfold S.up at hu
    cases e:s.cf z with
    |none=>rfl
    |some w=>rw [e]at hu;cases hu
   obtain⟨c1,c2,c3⟩:=k.top z hrz ec
   refine⟨μ,z,c2,Z0g ..,M.bnd,fun e h=>?_,fun u=>?_⟩
   ·obtain⟨m1,m2,m3,m4,m5,m6⟩:=M.sup e h
    rw [hz]at m5 m6
    rw [m5,m6]
    exact⟨m1,m2,Z0g ..,Z0g ..⟩
   ·rw [M.bdr,hz,c3];omega
  ·obtain⟨nL,_⟩:=Z7d k hrz hzz hu hp
   have hu':=hu
   unfold S.up at hu'
   cases ec:s.cf z with
   |none=>rw [ec]at hu';cases hu'
   |some w1 =>
    rw [ec]at hu'
    have er:s.root w1=z':=Option.some.inj hu'
    obtain⟨t1,t2,t3,t4,t5,t6,t7,t8⟩:=k.tree z w1 hrz ec
    obtain⟨ν1,p,N1⟩:=nu k hG hp t1 er t7
    have a1:=up_lt k hrz hu
    have z'z:z'≠z:=fun q=>by have:=a1.2.2;rw [q]at this;exact Z0u _ this
    have hf:=(k.first z hrz).2
    have s1:∀ e,ν1 e≠0→s.root (G.bd e).a≠z∧s.root (G.bd e).b≠z:=fun e h=>by
     obtain⟨_,_,q1,q2⟩:=N1.sup e h
     exact⟨fun q=>nL (q ▸ q1),fun q=>nL (q ▸ q2)⟩
    have s2:∀ e,μ e≠0→s.root (G.bd e).a=z∧s.root (G.bd e).b=z:=fun e h=>by
     obtain⟨_,_,_,_,q1,q2⟩:=M.sup e h
     rw [hz]at q1 q2
     exact⟨q1,q2⟩
    have s3:(s.root (G.bd (s.cb z)).a=z∧s.root (G.bd (s.cb z)).b=z')∨(s.root (G.bd (s.cb z)).b=z∧s.root (G.bd (s.cb z)).a=z'):=by
     rcases t5 with⟨q1,q2⟩ |⟨q1,q2⟩
     ·exact .inl ⟨by rw [q1];exact hzz,by rw [q2];exact er⟩
     ·exact .inr ⟨by rw [q1];exact hzz,by rw [q2];exact er⟩
    have d1:∀ e,μ e=0∨one (s.cb z) (s.ar z) e=0:=fun e=>by
     by_cases q:e=s.cb z
     ·left
      by_cases q2:μ e=0
      ·exact q2
      ·have:=s2 e q2
       rw [q]at this
       rcases s3 with⟨_,b⟩ |⟨_,b⟩
       ·rw [this.2]at b;exact absurd b.symm z'z
       ·rw [this.1]at b;exact absurd b.symm z'z
     ·right;unfold one;rw [if_neg q]
    have d2:∀ e,μ e+one (s.cb z) (s.ar z) e=0∨ν1 e=0:=fun e=>by
     by_cases q:ν1 e=0
     ·exact .inr q
     ·left
      have h1:=s1 e q
      have h2:μ e=0:=by
       by_cases q2:μ e=0
       ·exact q2
       ·exact absurd (s2 e q2).1 h1.1
      have h3:e≠s.cb z:=fun q3=>by
       rw [q3]at h1
       rcases s3 with⟨b,_⟩ |⟨b,_⟩
       ·exact h1.1 b
       ·exact h1.2 b
      rw [h2]
      unfold one
      rw [if_neg h3]
      rfl
    have hz':z'∈L:=by
     cases hp with
     |top _ _=>exact Z0g ..
     |step _ _ _ _ _ _ _=>exact Z0g ..
    refine⟨fun e=>(μ e+one (s.cb z) (s.ar z) e)+ν1 e,p,N1.top,Z0f _ N1.mem,Z2T (Z2T M.bnd (Z5e hG hf t6) d1) N1.bnd d2,fun e h=>?_,fun u=>?_⟩
    ·by_cases q1:ν1 e=0
     ·by_cases q2:e=s.cb z
      ·rw [q2]
       refine⟨t3,t4,?_⟩
       rcases s3 with⟨b1,b2⟩ |⟨b1,b2⟩
       ·rw [b1,b2];exact⟨Z0g ..,Z0f _ hz'⟩
       ·rw [b1,b2];exact⟨Z0f _ hz',Z0g ..⟩
      ·have q3:μ e≠0:=fun q3=>h (by show μ e+one (s.cb z) (s.ar z) e+ν1 e=0;rw [q1,q3];unfold one;rw [if_neg q2];rfl)
       obtain⟨m1,m2,m3,m4,m5,m6⟩:=M.sup e q3
       rw [hz]at m5 m6
       rw [m5,m6]
       exact⟨m1,m2,Z0g ..,Z0g ..⟩
     ·obtain⟨m1,m2,m3,m4⟩:=N1.sup e q1
      exact⟨m1,m2,Z0f _ m3,Z0f _ m4⟩
    ·rw [Z2Q,Z2Q,M.bdr,Z4u t3 t5,N1.bdr,hz]
     omega
theorem found(k:s.Ok G c T)(hG:G.Ok)(hcm:c<G.m)(ho:(G.bd c).o=2)(hT:T=1∨T=-1){x y e:Nat}{t:Int}{C D:List Nat}(he:e<G.m)(hec:e≠c)(hj:Jn (G.bd e) x y)(hr:0<G.room t e)
  (tx:s.tn x t)(ty:s.tn y t)(pC:Path s.up (s.root x) C none)(pD:Path s.up (s.root y) D none)(dis:∀ z,z∈C→z∉D):∃ δ,G.Chg δ∧δ c=T:=by
 obtain⟨rx,ht⟩:=k.tnr x t tx
 obtain⟨ry,_⟩:=k.tnr y t ty
 obtain⟨f,p,F⟩:=nu k hG pC rx rfl tx
 obtain⟨g,q,Gq⟩:=nu k hG pD ry rfl ty
 have head:∀ {z:Nat}{L:List Nat},Path s.up z L none→z∈L:=fun{z L} h=>by
  cases h with
  |top _ _=>exact Z0g ..
  |step _ _ _ _ _ _ _=>exact Z0g ..
 have hx:=head pC
 have hy:=head pD
 have sx:∀ i,f i≠0→s.root (G.bd i).a∉D∧s.root (G.bd i).b∉D:=fun i h=>let ⟨_,_,a,b⟩:=F.sup i h;⟨dis _ a,dis _ b⟩
 have d1:∀ i,f i=0∨g i=0:=fun i=>by
  by_cases h:f i=0
  ·exact .inl h
  ·right
   by_cases h2:g i=0
   ·exact h2
   ·exact absurd (Gq.sup i h2).2.2.1 (sx i h).1
 have fe:f e=0:=by
  by_cases h:f e=0
  ·exact h
  ·obtain⟨_,_,a,b⟩:=F.sup e h
   rcases hj with⟨q1,q2⟩ |⟨q1,q2⟩
   ·rw [q2]at b;exact absurd hy (dis _ b)
   ·rw [q2]at a;exact absurd hy (dis _ a)
 have ge:g e=0:=by
  by_cases h:g e=0
  ·exact h
  ·obtain⟨_,_,a,b⟩:=Gq.sup e h
   rcases hj with⟨q1,q2⟩ |⟨q1,q2⟩
   ·rw [q1]at a;exact absurd a (dis _ hx)
   ·rw [q1]at b;exact absurd b (dis _ hx)
 have fc:f c=0:=by
  by_cases h:f c=0
  ·exact h
  ·exact absurd rfl (F.sup c h).2.1
 have gc:g c=0:=by
  by_cases h:g c=0
  ·exact h
  ·exact absurd rfl (Gq.sup c h).2.1
 have rc:∀ t:Int,G.room t c=1:=fun t=>by unfold Gr.room;rw [ho];split<;>rfl
 have b1:=Z2T F.bnd Gq.bnd d1
 have b2:=Z2T b1 (Z5e hG ht hr) fun i=>by
  by_cases h:i=e
  ·rw [h];left;show f e+g e=0;omega
  ·right;unfold one;rw [if_neg h]
 have b3:=Z2T b2 (Z5e hG hT (by rw [rc];decide)) fun i=>by
  by_cases h:i=c
  ·rw [h];left;show f c+g c+one e t c=0;unfold one;rw [if_neg (Ne.symm hec)];omega
  ·right;unfold one;rw [if_neg h]
 refine⟨fun i=>f i+g i+one e t i+one c T i,⟨fun i hi=>?_,fun i hi=>?_,fun v _=>?_⟩,?_⟩
 ·have:=(b3 i hi).1;unfold Gr.room at this;rw [if_pos rfl]at this;exact this
 ·have:=(b3 i hi).2;unfold Gr.room at this;rw [if_neg (by decide)]at this;exact this
 ·rw [Z2Q,Z2Q,Z2Q,F.bdr,Gq.bdr,Z4u he hj,Z4u hcm (.inl ⟨rfl,rfl⟩)]
  have pq:p≠q:=fun z=>dis p F.mem (z ▸ Gq.mem)
  rcases F.top with rfl |rfl<;>rcases Gq.top with rfl |rfl
  ·exact absurd rfl pq
  ·omega
  ·omega
  ·exact absurd rfl pq
 ·show f c+g c+one e t c+one c T c=T
  unfold one
  rw [if_neg (Ne.symm hec),if_pos rfl]
  omega
end
end MX
end
section
namespace MX
section
variable{G:Gr}{c:Nat}{T:Int}{s:S}
theorem Z2O{up:Nat→Option Nat}{z:Nat}{L:List Nat}{m:Nat}(h:Path up z L (some m)):z∈L∨z=m:=by
 cases h with
 |nil=>exact .inr rfl
 |step _ _ _ _ _ _ _=>exact .inl (Z0g ..)
theorem Z4p(k:s.Ok G c T):∀ {L:List Nat}{x m z:Nat},Path s.up x L (some m)→s.re x→s.root x=x→z∈L→∃ C1 C2,L=C1++z::C2∧Path s.up x C1 (some z)∧Path s.up z (z::C2) (some m)∧(∀ w∈C1,w∈L)∧∀ w∈C2,w∈L
 |[],x,m,z,h,hr,hx,hz=>by simp at hz
 |y::L,x,m,z,h,hr,hx,hz=>by
  have hyx:x=y:=by cases h with |step _ _ _ _ _ _ _=>rfl
  subst hyx
  obtain⟨x',hu,hne,hp⟩:∃ x',s.up x=some x'∧some x≠some m∧Path s.up x' L (some m):=by
   cases h with |step _ x' _ _ hu hne hp=>exact⟨x',hu,hne,hp⟩
  obtain⟨nL,_⟩:=Z7d k hr hx hu hp
  rcases Z0d.mp hz with rfl |hz
  ·exact⟨[],L,rfl,.nil _,.step _ x' _ _ hu hne hp,fun w hw=>by simp at hw,fun w hw=>Z0f _ hw⟩
  ·obtain⟨a1,a2,a3⟩:=up_lt k hr hu
   obtain⟨C1,C2,e,p1,p2,b1,b2⟩:=Z4p k hp a1 a2 hz
   refine⟨x::C1,C2,by rw [e];rfl,.step _ x' _ _ hu (fun q=>?_) p1,p2,fun w hw=>?_,fun w hw=>Z0f _ (b2 w hw)⟩
   ·cases q;exact nL hz
   ·rcases Z0d.mp hw with rfl |hw
    ·exact Z0g ..
    ·exact Z0f _ (b1 w hw)
structure Ring(s:S)(G:Gr)(c x y e:Nat)(t:Int)(C D:List Nat)(m:Nat):Prop where
 tx:s.tn x t
 ty:s.tn y t
 he:e<G.m
 hec:e≠c
 hj:Jn (G.bd e) x y
 hr:0<G.room t e
 pC:Path s.up (s.root x) C (some m)
 pD:Path s.up (s.root y) D (some m)
 dis:∀ z,z∈C→z∉D
theorem Ring.symm{x y e:Nat}{t:Int}{C D:List Nat}{m:Nat}(R:Ring s G c x y e t C D m):Ring s G c y x e t D C m:=⟨R.ty,R.tx,R.he,R.hec,R.hj.symm,R.hr,R.pD,R.pC,fun z a b=>R.dis z b a⟩
structure RMu(s:S)(G:Gr)(c:Nat)(C D:List Nat)(m v:Nat)(t:Int)(μ:Nat→Int):Prop where
 bnd:G.Bnd μ
 sup:∀ e,μ e≠0→e<G.m∧e≠c∧s.re (G.bd e).a∧s.re (G.bd e).b∧(s.root (G.bd e).a∈C∨s.root (G.bd e).a∈D∨s.root (G.bd e).a=m)∧(s.root (G.bd e).b∈C∨s.root (G.bd e).b∈D∨s.root (G.bd e).b=m)
 bdr:∀ w,G.bdr μ w=-(dl m (s.ar m) w)-dl v t w
theorem RMu.swap{C D:List Nat}{m v:Nat}{t:Int}{μ:Nat→Int}(h:RMu s G c C D m v t μ):RMu s G c D C m v t μ :=
 ⟨h.bnd,fun e q=>let ⟨a,b,c1,d,f,g⟩:=h.sup e q;⟨a,b,c1,d,f.elim (fun z=>.inr (.inl z)) fun z=>z.elim .inl fun z=>.inr (.inr z),g.elim (fun z=>.inr (.inl z)) fun z=>z.elim .inl fun z=>.inr (.inr z)⟩,h.bdr⟩
theorem Z6O(k:s.Ok G c T){x y e:Nat}{t:Int}{C D:List Nat}{m:Nat}(R:Ring s G c x y e t C D m):s.re m∧s.root m=m∧m∉C∧m∉D∧(∀ z∈C,s.re z∧s.root z=z∧s.rk m<s.rk z)∧∀ z∈D,s.re z∧s.root z=z∧s.rk m<s.rk z:=by
 have rx:=(k.tnr x t R.tx).1
 have ry:=(k.tnr y t R.ty).1
 obtain⟨a1,a2⟩:=Z6b k R.pC (k.root x rx).1 (k.root x rx).2.1
 obtain⟨b1,b2⟩:=Z6b k R.pD (k.root y ry).1 (k.root y ry).2.1
 obtain⟨c1,c2,c3,c4⟩:=a2 m rfl
 obtain⟨_,_,_,d4⟩:=b2 m rfl
 exact⟨c1,c2,fun h=>Z0u _ (c4 m h),fun h=>Z0u _ (d4 m h),fun z hz=>⟨(a1 z hz).1,(a1 z hz).2.1,c4 z hz⟩,fun z hz=>⟨(b1 z hz).1,(b1 z hz).2.1,d4 z hz⟩⟩
theorem Z8A(k:s.Ok G c T)(hG:G.Ok){x y e v:Nat}{t u:Int}{C D:List Nat}{m:Nat}(R:Ring s G c x y e t C D m)(hv:s.re v)(hc:s.root v∈C)(hu:s.tn v u):∃ μ,RMu s G c C D m v u μ:=by
 obtain⟨m1,m2,m3,m4,m5,m6⟩:=Z6O k R
 have rx:=(k.tnr x t R.tx).1
 obtain⟨C1,C2,e1,p1,p2,b1,b2⟩:=Z4p k R.pC (k.root x rx).1 (k.root x rx).2.1 hc
 have sub:∀ w,w∈s.root v::C2→w∈C:=fun w hw=>by
  rcases Z0d.mp hw with rfl |hw
  ·exact hc
  ·exact b2 w hw
 obtain⟨κ,w,r,K⟩:=kap k hG p2 hv rfl hu
 obtain⟨μ,M⟩:=k.mu w r K.tnw
 have hM:∀ i,μ i≠0→s.root (G.bd i).a=m∧s.root (G.bd i).b=m:=fun i h=>by
  obtain⟨_,_,_,_,q1,q2⟩:=M.sup i h
  rw [K.rtw]at q1 q2
  exact⟨q1,q2⟩
 have d:∀ i,κ i=0∨μ i=0:=fun i=>by
  by_cases h:κ i=0
  ·exact .inl h
  ·right
   by_cases h2:μ i=0
   ·exact h2
   ·obtain⟨q1,q2⟩:=hM i h2
    obtain⟨_,_,_,_,q,_,_⟩:=K.sup i h
    rw [q1,q2]at q
    exact absurd (sub m (q.elim id id)) m3
 refine⟨fun i=>κ i+μ i,Z2T K.bnd M.bnd d,fun i h=>?_,fun q=>?_⟩
 ·by_cases h1:κ i=0
  ·have h2:μ i≠0:=fun z=>h (by show κ i+μ i=0;rw [h1,z];rfl)
   obtain⟨a1,a2,a3,a4,_,_⟩:=M.sup i h2
   obtain⟨q1,q2⟩:=hM i h2
   exact⟨a1,a2,a3,a4,.inr (.inr q1),.inr (.inr q2)⟩
  ·obtain⟨a1,a2,a3,a4,_,a6,a7⟩:=K.sup i h1
   exact⟨a1,a2,a3,a4,a6.elim (fun z=>.inl (sub _ z)) fun z=>.inr (.inr z),a7.elim (fun z=>.inl (sub _ z)) fun z=>.inr (.inr z)⟩
 ·rw [Z2Q,K.bdr,M.bdr,K.rtw]
  omega
theorem Z7X(k:s.Ok G c T)(hG:G.Ok){x y e z:Nat}{t:Int}{C D:List Nat}{m:Nat}(R:Ring s G c x y e t C D m)(hz:z∈C)(hn:¬ s.tn z (s.ar z)):∃ μ,RMu s G c C D m z (s.ar z) μ:=by
 obtain⟨m1,m2,m3,m4,m5,m6⟩:=Z6O k R
 have rx:=(k.tnr x t R.tx).1
 have ry:=(k.tnr y t R.ty).1
 obtain⟨C1,C2,e1,p1,p2,b1,b2⟩:=Z4p k R.pC (k.root x rx).1 (k.root x rx).2.1 hz
 obtain⟨hrz,hzz,hmz⟩:=m5 z hz
 have hsz:=(k.first z hrz).2
 obtain⟨κ1,w1,r1,K1⟩:=kap k hG p1 rx rfl R.tx
 have hw1:w1=z:=by
  by_cases q:w1=z
  ·exact q
  ·exact absurd (k.cls z w1 (s.ar z) hrz K1.rew (fun z'=>q z'.symm) (by rw [K1.rtw,hzz]) hsz) hn
 subst hw1
 have hr1:r1=-(s.ar w1):=by
  have h2:=(k.tnr w1 r1 K1.tnw).2
  by_cases q:r1=s.ar w1
  ·rw [q]at K1;exact absurd K1.tnw hn
  ·omega
 obtain⟨κy,wy,ry',Ky⟩:=kap k hG R.pD ry rfl R.ty
 obtain⟨μ,M⟩:=k.mu wy ry' Ky.tnw
 have hM:∀ i,μ i≠0→s.root (G.bd i).a=m∧s.root (G.bd i).b=m:=fun i h=>by
  obtain⟨_,_,_,_,q1,q2⟩:=M.sup i h
  rw [Ky.rtw]at q1 q2
  exact⟨q1,q2⟩
 have h1:∀ i,κ1 i≠0→s.root (G.bd i).a∈C∧s.root (G.bd i).b∈C:=fun i h=>by
  obtain⟨_,_,_,_,_,a6,a7⟩:=K1.sup i h
  exact⟨a6.elim (b1 _) fun q=>by rw [q];exact hz,a7.elim (b1 _) fun q=>by rw [q];exact hz⟩
 have hy:∀ i,κy i≠0→s.root (G.bd i).a∉C∧s.root (G.bd i).b∉C:=fun i h=>by
  obtain⟨_,_,_,_,_,a6,a7⟩:=Ky.sup i h
  exact⟨fun q=>a6.elim (R.dis _ q) fun z'=>by rw [z']at q;exact m3 q,fun q=>a7.elim (R.dis _ q) fun z'=>by rw [z']at q;exact m3 q⟩
 have xC:s.root x∈C:=by
  rcases Z2O R.pC with q |q
  ·exact q
  ·have hpc:=R.pC
   rw [q]at hpc
   cases hpc with
   |nil=>simp at hz
   |step _ _ _ _ _ hne _=>exact absurd rfl hne
 have yD:s.root y∉C:=by
  rcases Z2O R.pD with q |q
  ·exact fun z'=>R.dis _ z' q
  ·rw [q];exact m3
 have eA:(s.root (G.bd e).a∈C∧s.root (G.bd e).b∉C)∨(s.root (G.bd e).b∈C∧s.root (G.bd e).a∉C):=by
  rcases R.hj with⟨q1,q2⟩ |⟨q1,q2⟩
  ·rw [q1,q2];exact .inl ⟨xC,yD⟩
  ·rw [q1,q2];exact .inr ⟨xC,yD⟩
 have d1:∀ i,κy i=0∨μ i=0:=fun i=>by
  by_cases h:κy i=0
  ·exact .inl h
  ·right
   by_cases h2:μ i=0
   ·exact h2
   ·obtain⟨q1,q2⟩:=hM i h2
    obtain⟨_,_,_,_,q,_,_⟩:=Ky.sup i h
    rw [q1,q2]at q
    exact absurd (q.elim id id) m4
 have d2:∀ i,κy i+μ i=0∨one e t i=0:=fun i=>by
  by_cases h:i=e
  ·left
   have a:κy i=0:=by
    by_cases q:κy i=0
    ·exact q
    ·have:=hy i q
     rw [h]at this
     rcases eA with z' |z'
     ·exact absurd z'.1 this.1
     ·exact absurd z'.1 this.2
   have b:μ i=0:=by
    by_cases q:μ i=0
    ·exact q
    ·have:=hM i q
     rw [h]at this
     rcases eA with z' |z'
     ·rw [this.1]at z';exact absurd z'.1 m3
     ·rw [this.2]at z';exact absurd z'.1 m3
   rw [a,b];rfl
  ·right;unfold one;rw [if_neg h]
 have d3:∀ i,κy i+μ i+one e t i=0∨κ1 i=0:=fun i=>by
  by_cases h:κ1 i=0
  ·exact .inr h
  ·left
   obtain⟨q1,q2⟩:=h1 i h
   have a:κy i=0:=by
    by_cases q:κy i=0
    ·exact q
    ·exact absurd q1 (hy i q).1
   have b:μ i=0:=by
    by_cases q:μ i=0
    ·exact q
    ·rw [(hM i q).1]at q1;exact absurd q1 m3
   have c1:i≠e:=fun q=>by
    rw [q]at q1 q2
    rcases eA with z' |z'
    ·exact z'.2 q2
    ·exact z'.2 q1
   rw [a,b];unfold one;rw [if_neg c1];rfl
 have hs:=(k.tnr x t R.tx).2
 refine⟨fun i=>κy i+μ i+one e t i+κ1 i,Z2T (Z2T (Z2T Ky.bnd M.bnd d1) (Z5e hG hs R.hr) d2) K1.bnd d3,fun i h=>?_,fun q=>?_⟩
 ·by_cases q1:κ1 i=0
  ·by_cases q2:i=e
   ·rw [q2]
    refine⟨R.he,R.hec,?_⟩
    have yy:s.root y∈C∨s.root y∈D∨s.root y=m:=(Z2O R.pD).elim (fun z'=>.inr (.inl z')) fun z'=>.inr (.inr z')
    rcases R.hj with⟨j1,j2⟩ |⟨j1,j2⟩
    ·rw [j1,j2];exact⟨rx,ry,.inl xC,yy⟩
    ·rw [j1,j2];exact⟨ry,rx,yy,.inl xC⟩
   ·by_cases q3:κy i=0
    ·have q4:μ i≠0:=fun z'=>h (by show κy i+μ i+one e t i+κ1 i=0;rw [q1,q3,z'];unfold one;rw [if_neg q2];rfl)
     obtain⟨a1,a2,a3,a4,_,_⟩:=M.sup i q4
     obtain⟨z1,z2⟩:=hM i q4
     exact⟨a1,a2,a3,a4,.inr (.inr z1),.inr (.inr z2)⟩
    ·obtain⟨a1,a2,a3,a4,_,a6,a7⟩:=Ky.sup i q3
     exact⟨a1,a2,a3,a4,.inr a6,.inr a7⟩
  ·obtain⟨a1,a2,a3,a4,_,_,_⟩:=K1.sup i q1
   obtain⟨z1,z2⟩:=h1 i q1
   exact⟨a1,a2,a3,a4,.inl z1,.inl z2⟩
 ·rw [Z2Q,Z2Q,Z2Q,Ky.bdr,M.bdr,Ky.rtw,Z4u R.he R.hj,K1.bdr,hr1]
  unfold dl
  split<;>split<;>split<;>split<;>split<;>omega
theorem ring_top(k:s.Ok G c T)(hG:G.Ok){x y e:Nat}{t:Int}{C D:List Nat}{m:Nat}(R:Ring s G c x y e t C D m)(hn:¬ s.tn m (s.ar m))(hxy:s.root x≠s.root y)
  (hx:s.cb x=e→s.root x=x→s.ar x=t→2≤G.room t e)(hy:s.cb y=e→s.root y=y→s.ar y=t→2≤G.room t e):∃ μ,RMu s G c C D m m (s.ar m) μ:=by
 obtain⟨m1,m2,m3,m4,m5,m6⟩:=Z6O k R
 have rx:=(k.tnr x t R.tx).1
 have ry:=(k.tnr y t R.ty).1
 have hsm:=(k.first m m1).2
 obtain⟨f,wx,r,Kx⟩:=kap k hG R.pC rx rfl R.tx
 obtain⟨g,wy,r',Ky⟩:=kap k hG R.pD ry rfl R.ty
 have alone:∀ {w:Nat},s.re w→s.root w=m→w=m:=fun{w} h1 h2=>by
  by_cases q:w=m
  ·exact q
  ·exact absurd (k.cls m w (s.ar m) m1 h1 (fun z'=>q z'.symm) (by rw [h2,m2]) hsm) hn
 have ewx:=alone Kx.rew Kx.rtw
 have ewy:=alone Ky.rew Ky.rtw
 subst ewx
 have hr1:r=-(s.ar wx):=by
  have h2:=(k.tnr wx r Kx.tnw).2
  by_cases q:r=s.ar wx
  ·rw [q]at Kx;exact absurd Kx.tnw hn
  ·omega
 have hr2:r'=-(s.ar wx):=by
  have h3:=Ky.tnw
  rw [ewy]at h3
  have h2:=(k.tnr wx r' h3).2
  by_cases q:r'=s.ar wx
  ·rw [q]at h3;exact absurd h3 hn
  ·omega
 have d1:∀ i,f i=0∨g i=0:=fun i=>by
  by_cases h:f i=0
  ·exact .inl h
  ·right
   by_cases h2:g i=0
   ·exact h2
   ·obtain⟨_,_,_,_,a5,_,_⟩:=Kx.sup i h
    obtain⟨_,_,_,_,_,b6,b7⟩:=Ky.sup i h2
    rcases a5 with q |q
    ·exact(b6.elim (R.dis _ q) fun z'=>by rw [z']at q;exact m3 q).elim
    ·exact(b7.elim (R.dis _ q) fun z'=>by rw [z']at q;exact m3 q).elim
 have sg:=(k.tnr x t R.tx).2
 have fe:f e=0∨(f e=s.ar x∧s.cb x=e∧s.root x=x):=by
  by_cases h:f e=0
  ·exact .inl h
  ·right
   obtain⟨_,_,_,_,a5,a6,a7⟩:=Kx.sup e h
   have yin:s.root y∈C∨s.root y=wx:=by
    rcases R.hj with⟨j1,j2⟩ |⟨j1,j2⟩
    ·rw [j2]at a7;exact a7
    ·rw [j2]at a6;exact a6
   have ym:s.root y=wx:=yin.elim (fun q=>(Z2O R.pD).elim (fun z'=>(R.dis _ q z').elim) id) id
   obtain⟨z,hz,w',s1,s2,s3⟩:=Kx.stem e h (by
    rcases R.hj with⟨j1,j2⟩ |⟨j1,j2⟩
    ·rw [j2];exact .inr ym
    ·rw [j2];exact .inl ym)
   obtain⟨_,zz,_⟩:=m5 z hz
   rcases R.hj.end s2 with q |q
   ·subst q;exact⟨s3,s1,zz⟩
   ·rw [q]at zz hz
    rw [zz]at ym
    rw [ym]at hz
    exact absurd hz m3
 have ge:g e=0∨(g e=s.ar y∧s.cb y=e∧s.root y=y):=by
  by_cases h:g e=0
  ·exact .inl h
  ·right
   obtain⟨_,_,_,_,a5,a6,a7⟩:=Ky.sup e h
   have xin:s.root x∈D∨s.root x=wx:=by
    rcases R.hj with⟨j1,j2⟩ |⟨j1,j2⟩
    ·rw [j1]at a6;exact a6
    ·rw [j1]at a7;exact a7
   have xm:s.root x=wx:=xin.elim (fun q=>(Z2O R.pC).elim (fun z'=>(R.dis _ z' q).elim) id) id
   obtain⟨z,hz,w',s1,s2,s3⟩:=Ky.stem e h (by
    rcases R.hj with⟨j1,j2⟩ |⟨j1,j2⟩
    ·rw [j1];exact .inl xm
    ·rw [j1];exact .inr xm)
   obtain⟨_,zz,_⟩:=m6 z hz
   rcases R.hj.end s2 with q |q
   ·rw [q]at zz hz
    rw [zz]at xm
    rw [xm]at hz
    exact absurd hz m4
   ·subst q;exact⟨s3,s1,zz⟩
 have b0:=Z2T Kx.bnd Ky.bnd d1
 have one_nn:=fun i hi=>Z4r hG (e:=i) hi 1
 have two_nn:=fun i hi=>Z4r hG (e:=i) hi (-1)
 have bnd:G.Bnd fun i=>f i+g i+one e t i:=fun i hi=>by
  by_cases h:i=e
  ·subst h
   show f i+g i+one i t i≤_∧_≤f i+g i+one i t i
   unfold one
   rw [if_pos rfl]
   have a:=one_nn i hi
   have b:=two_nn i hi
   have hr:=R.hr
   have fin:∀ v:Int,(v=0∨(v=1∨v=-1)∧(v=t→2≤G.room t i))→v+t≤G.room 1 i∧-(G.room (-1) i)≤v+t:=fun v hv=>by
    rcases sg with rfl |rfl
    ·rcases hv with rfl |⟨rfl |rfl,h2⟩
     ·omega
     ·have:=h2 rfl;omega
     ·omega
    ·rcases hv with rfl |⟨rfl |rfl,h2⟩
     ·omega
     ·omega
     ·have:=h2 rfl;omega
   rcases fe with q1 |⟨q1,q2,q3⟩
   ·rcases ge with q4 |⟨q4,q5,q6⟩
    ·rw [q1,q4];exact fin 0 (.inl rfl)
    ·rw [q1,q4,Int.zero_add]
     exact fin _ (.inr ⟨(k.first y ry).2,hy q5 q6⟩)
   ·have q4:g i=0:=by
     rcases d1 i with q |q
     ·rw [q1]at q;have:=(k.first x rx).2;omega
     ·exact q
    rw [q1,q4,Int.add_zero]
    exact fin _ (.inr ⟨(k.first x rx).2,hx q2 q3⟩)
  ·show f i+g i+one e t i≤_∧_≤f i+g i+one e t i
   unfold one
   rw [if_neg h]
   have:=(show f i+g i≤G.room 1 i∧-(G.room (-1) i)≤f i+g i from b0 i hi)
   omega
 refine⟨fun i=>f i+g i+one e t i,bnd,fun i h=>?_,fun q=>?_⟩
 ·by_cases q2:i=e
  ·rw [q2]
   refine⟨R.he,R.hec,?_⟩
   have yy:s.root y∈C∨s.root y∈D∨s.root y=wx:=(Z2O R.pD).elim (fun z'=>.inr (.inl z')) fun z'=>.inr (.inr z')
   have xx:s.root x∈C∨s.root x∈D∨s.root x=wx:=(Z2O R.pC).elim (fun z'=>.inl z') fun z'=>.inr (.inr z')
   rcases R.hj with⟨j1,j2⟩ |⟨j1,j2⟩
   ·rw [j1,j2];exact⟨rx,ry,xx,yy⟩
   ·rw [j1,j2];exact⟨ry,rx,yy,xx⟩
  ·by_cases q3:f i=0
   ·have q4:g i≠0:=fun z'=>h (by show f i+g i+one e t i=0;rw [q3,z'];unfold one;rw [if_neg q2];rfl)
    obtain⟨a1,a2,a3,a4,_,a6,a7⟩:=Ky.sup i q4
    exact⟨a1,a2,a3,a4,.inr a6,.inr a7⟩
   ·obtain⟨a1,a2,a3,a4,_,a6,a7⟩:=Kx.sup i q3
    exact⟨a1,a2,a3,a4,a6.elim .inl fun z'=>.inr (.inr z'),a7.elim .inl fun z'=>.inr (.inr z')⟩
 ·rw [Z2Q,Z2Q,Kx.bdr,Ky.bdr,Z4u R.he R.hj,hr1,hr2,ewy]
  unfold dl
  split<;>split<;>split<;>omega
end
end MX
end
section
namespace MX
section
variable{G:Gr}{c:Nat}{T:Int}{s:S}
def S.start(G:Gr)(c:Nat)(T:Int):S where
 re:=fun x=>x=(G.bd c).a∨x=(G.bd c).b
 root:=fun x=>x
 rk:=fun x=>if x=(G.bd c).a then 0 else 1
 nx:=2
 cb:=fun _=>c
 cf:=fun _=>none
 ar:=fun _=>T
 tn:=fun x t=>(x=(G.bd c).a∨x=(G.bd c).b)∧t=-T
 dn:=fun _ _ _=>False
theorem start_ok(hG:G.Ok)(hc:c<G.m)(hT:T=1∨T=-1):(S.start G c T).Ok G c T where
 rn:=fun x h=>by
  rcases h with rfl |rfl
  ·exact hG.an c hc
  ·exact hG.bn c hc
 rkn:=fun x h=>by show(if x=_ then 0 else 1)<2;split<;>decide
 root:=fun x h=>⟨h,rfl,fun q=>absurd rfl q⟩
 first:=fun x h=>⟨⟨h,rfl⟩,hT⟩
 tnr:=fun x t h=>⟨h.1,by rw [h.2];rcases hT with rfl |rfl;exact .inr rfl;exact .inl rfl⟩
 cls:=fun x y t _ _ hn h _=>absurd h hn
 top:=fun x h _=>⟨rfl,h,rfl⟩
 tree:=fun x w h e=>by cases e
 upp:=fun x h q=>absurd rfl q
 ends:=⟨.inl rfl,.inr rfl,rfl,rfl⟩
 mu:=fun v t h=>by
  refine⟨fun _=>0,Z6v hG,fun e q=>absurd rfl q,fun w=>?_⟩
  rw [Z6y,h.2]
  show 0=-(dl v T w)-dl v (-T) w
  unfold dl
  split<;>omega
 d1:=fun _ _ _ h=>h.elim
 d2:=fun _ _ _ _ _ h=>h.elim
 d4:=fun _ _ _ _ _ h=>h.elim
def S.reach(s:S)(x y e:Nat)(t:Int):S where
 re:=fun z=>s.re z∨z=y
 root:=fun z=>if z=y then y else s.root z
 rk:=fun z=>if z=y then s.nx else s.rk z
 nx:=s.nx+1
 cb:=fun z=>if z=y then e else s.cb z
 cf:=fun z=>if z=y then some x else s.cf z
 ar:=fun z=>if z=y then t else s.ar z
 tn:=fun z u=>s.tn z u∨(z=y∧u=-t)
 dn:=fun z u f=>s.dn z u f∨(z=x∧u=t∧f=e)
theorem reach_ok(k:s.Ok G c T)(hG:G.Ok){x y e:Nat}{t:Int}(tx:s.tn x t)(he:e<G.m)(hec:e≠c)(hj:Jn (G.bd e) x y)(hr:0<G.room t e)(hy:¬ s.re y):(s.reach x y e t).Ok G c T:=by
 have rx:=(k.tnr x t tx).1
 have ht:=(k.tnr x t tx).2
 have ney:∀ {z},s.re z→z≠y:=fun h q=>hy (q ▸ h)
 have xy:x≠y:=ney rx
 have rt:∀ {z},s.re z→(s.reach x y e t).root z=s.root z:=fun h=>if_neg (ney h)
 have rk:∀ {z},s.re z→(s.reach x y e t).rk z=s.rk z:=fun h=>if_neg (ney h)
 have cb:∀ {z},s.re z→(s.reach x y e t).cb z=s.cb z:=fun h=>if_neg (ney h)
 have cf:∀ {z},s.re z→(s.reach x y e t).cf z=s.cf z:=fun h=>if_neg (ney h)
 have ar:∀ {z},s.re z→(s.reach x y e t).ar z=s.ar z:=fun h=>if_neg (ney h)
 have rty:(s.reach x y e t).root y=y:=if_pos rfl
 have cby:(s.reach x y e t).cb y=e:=if_pos rfl
 have cfy:(s.reach x y e t).cf y=some x:=if_pos rfl
 have ary:(s.reach x y e t).ar y=t:=if_pos rfl
 have rky:(s.reach x y e t).rk y=s.nx:=if_pos rfl
 have rooty:∀ {z},s.re z→s.root z≠y:=fun h=>ney (k.root _ h).1
 have yn:y<G.n:=by
  rcases hj with⟨_,q⟩ |⟨_,q⟩
  ·rw [←q];exact hG.bn e he
  ·rw [←q];exact hG.an e he
 refine⟨fun z h=>?_,fun z h=>?_,fun z h=>?_,fun z h=>?_,fun z u h=>?_,fun z w u h1 h2 hn h hu=>?_,fun z h hc=>?_,fun z w h hc=>?_,fun z h hn=>?_,?_,fun v u h=>?_,fun z u f h=>?_,fun z w u f hj2 h1 h2=>?_,fun z w u f hj2 h1 h2 h3 h4=>?_⟩
 ·rcases h with h |rfl
  ·exact k.rn z h
  ·exact yn
 ·rcases h with h |rfl
  ·rw [rk h];exact Z1p (k.rkn z h)
  ·rw [rky];exact Z1x _
 ·rcases h with h |rfl
  ·rw [rt h]
   obtain⟨a,b,d⟩:=k.root z h
   refine⟨.inl a,by rw [rt a];exact b,fun q=>?_⟩
   rw [rk a,rk h];exact d q
  ·rw [rty,rty];exact⟨.inr rfl,rfl,fun q=>absurd rfl q⟩
 ·rcases h with h |rfl
  ·rw [ar h];exact⟨.inl (k.first z h).1,(k.first z h).2⟩
  ·rw [ary];exact⟨.inr ⟨rfl,rfl⟩,ht⟩
 ·rcases h with h |⟨rfl,rfl⟩
  ·exact⟨.inl (k.tnr z u h).1,(k.tnr z u h).2⟩
  ·exact⟨.inr rfl,by omega⟩
 ·rcases h1 with h1 |rfl
  ·rcases h2 with h2 |rfl
   ·rw [rt h1,rt h2]at h
    exact .inl (k.cls z w u h1 h2 hn h hu)
   ·rw [rt h1,rty]at h;exact absurd h (rooty h1)
  ·rcases h2 with h2 |rfl
   ·rw [rt h2,rty]at h;exact absurd h.symm (rooty h2)
   ·exact absurd rfl hn
 ·rcases h with h |rfl
  ·rw [cf h]at hc
   rw [cb h,ar h]
   exact k.top z h hc
  ·rw [cfy]at hc;cases hc
 ·rcases h with h |rfl
  ·rw [cf h]at hc
   obtain⟨a1,a2,a3,a4,a5,a6,a7,a8⟩:=k.tree z w h hc
   rw [cb h,ar h,rk h,rk a1]
   exact⟨.inl a1,a2,a3,a4,a5,a6,.inl a7,.inl a8⟩
  ·rw [cfy]at hc
   cases hc
   rw [cby,ary,rky,rk rx]
   exact⟨.inl rx,k.rkn x rx,he,hec,hj.symm,hr,.inl tx,.inr ⟨rfl,rfl,rfl⟩⟩
 ·rcases h with h |rfl
  ·rw [rt h]at hn
   obtain⟨w,a,b⟩:=k.upp z h hn
   have rw':=(k.tree z w h a).1
   exact⟨w,by rw [cf h];exact a,by rw [rt rw',rt h];exact b⟩
  ·exact absurd rty hn
 ·obtain⟨a,b,d,f⟩:=k.ends
  exact⟨.inl a,.inl b,by rw [cf a];exact d,by rw [cf b];exact f⟩
 ·rcases h with h |⟨rfl,rfl⟩
  ·have rv:=(k.tnr v u h).1
   obtain⟨μ,M⟩:=k.mu v u h
   refine⟨μ,M.bnd,fun f q=>?_,fun w=>?_⟩
   ·obtain⟨a1,a2,a3,a4,a5,a6⟩:=M.sup f q
    exact⟨a1,a2,.inl a3,.inl a4,by rw [rt a3,rt rv];exact a5,by rw [rt a4,rt rv];exact a6⟩
   ·rw [M.bdr,rt rv,ar (k.root v rv).1]
  ·refine⟨fun _=>0,Z6v hG,fun f q=>absurd rfl q,fun w=>?_⟩
   rw [Z6y,rty,ary]
   unfold dl
   split<;>omega
 ·rcases h with h |⟨rfl,rfl,rfl⟩
  ·obtain⟨a1,a2,a3,a4,w,a5,a6⟩:=k.d1 z u f h
   exact⟨.inl a1,a2,a3,a4,w,a5,.inl a6⟩
  ·exact⟨.inl tx,he,hec,hr,y,hj,.inr rfl⟩
 ·
  have nodn:∀ {u f},¬ s.dn y u f:=fun h=>hy (k.tnr _ _ (k.d1 _ _ _ h).1).1
  rcases h1 with h1 |⟨rfl,rfl,rfl⟩
  ·have rz:=(k.tnr _ _ (k.d1 _ _ _ h1).1).1
   rcases h2 with h2 |⟨rfl,rfl,rfl⟩
   ·have rw':=(k.tnr _ _ (k.d1 _ _ _ h2).1).1
    rw [rt rz,rt rw',cb rz,cb rw',ar rz,ar rw']
    exact k.d2 z w u f hj2 h1 h2
   ·have:=Jn.eq hj2.symm hj (hG.ne f he)
    subst this
    exact absurd h1 nodn
  ·rcases h2 with h2 |⟨rfl,_,_⟩
   ·have:=Jn.eq hj2 hj (hG.ne f he)
    subst this
    exact absurd h2 nodn
   ·exact absurd rfl (Jn.ne hj2 (hG.ne f he))
 ·
  by_cases q:z=y
  ·subst q
   rw [cby]at h2
   rw [cfy]at h3
   rw [ary]at h4
   subst h2
   cases h3
   rcases h1 with h1 |⟨_,rfl,_⟩
   ·obtain⟨_,_,_,_,w',a5,a6⟩:=k.d1 _ _ _ h1
    have:=Jn.eq a5 hj (hG.ne e he)
    subst this
    exact absurd a6 hy
   ·rcases ht with rfl |rfl<;>omega
  ·have cbz:(s.reach x y e t).cb z=s.cb z:=if_neg q
   have cfz:(s.reach x y e t).cf z=s.cf z:=if_neg q
   have arz:(s.reach x y e t).ar z=s.ar z:=if_neg q
   have rtz:(s.reach x y e t).root z=s.root z:=if_neg q
   rw [cbz]at h2
   rw [cfz]at h3
   rw [arz]at h4
   rcases h1 with h1 |⟨rfl,rfl,rfl⟩
   ·have rw':=(k.tnr _ _ (k.d1 _ _ _ h1).1).1
    rw [rtz,rt rw']
    exact k.d4 z w u f hj2 h1 h2 h3 h4
   ·have:=Jn.eq hj2.symm hj (hG.ne f he)
    exact absurd this q
def S.mark(s:S)(x e:Nat)(t:Int):S:={ s with dn:=fun z u f=>s.dn z u f∨(z=x∧u=t∧f=e) }
theorem by_end(k:s.Ok G c T){z e x y:Nat}(hz:s.re z)(hb:s.cb z=e)(hec:e≠c)(hj:Jn (G.bd e) x y):(z=x∨z=y)∧∃ w,s.cf z=some w:=by
 cases q:s.cf z with
 |none=>exact absurd (hb.symm.trans (k.top z hz q).1) hec
 |some w =>
  have:=(k.tree z w hz q).2.2.2.2.1
  rw [hb]at this
  exact⟨hj.end this,w,rfl⟩
theorem mark_ok(k:s.Ok G c T)(hG:G.Ok){x y e:Nat}{t:Int}(tx:s.tn x t)(he:e<G.m)(hec:e≠c)(hj:Jn (G.bd e) x y)(hr:0<G.room t e)(hy:s.re y)
  (h:s.root x=s.root y∨(s.cb (s.root x)=e∧G.room t e=1)∨¬ s.tn y t):(s.mark x e t).Ok G c T:=by
 have rx:=(k.tnr x t tx).1
 have ht:=(k.tnr x t tx).2
 have used:s.cb (s.root x)=e→s.root x=s.root y∨(s.root x=x∧s.cb x=e∧s.cf x=some y):=fun hb=>by
  obtain⟨a,w,hw⟩:=by_end k (k.root x rx).1 hb hec hj
  rcases a with a |a
  ·rw [a]at hb hw
   have:=(k.tree x w rx hw).2.2.2.2.1
   rw [hb]at this
   have:=Jn.eq this hj (hG.ne e he)
   subst this
   exact .inr ⟨a,hb,hw⟩
  ·have:=(k.root x rx).2.1
   rw [a]at this
   exact .inl (by rw [a,this])
 have key2:s.dn y t e→s.root x=s.root y∨(G.room t e=1∧s.root x=x∧s.cb x=e∧s.ar x=t):=fun hd=>by
  rcases h with h |⟨h1,h2⟩ |h
  ·exact .inl h
  ·rcases used h1 with z |⟨z1,z2,z3⟩
   ·exact .inl z
   ·by_cases q:s.ar x=t
    ·exact .inr ⟨h2,z1,z2,q⟩
    ·have:s.ar x=-t:=by have:=(k.first x rx).2;omega
     exact .inl (k.d4 x y t e hj hd z2 z3 this)
  ·exact absurd (k.d1 _ _ _ hd).1 h
 refine⟨k.rn,k.rkn,k.root,k.first,k.tnr,k.cls,k.top,fun z w h hc=>?_,k.upp,k.ends,(fun v u h=>let ⟨μ,M⟩:=k.mu v u h;⟨μ,M.bnd,M.sup,M.bdr⟩),fun z u f h=>?_,fun z w u f hj2 h1 h2=>?_,fun z w u f hj2 h1 h2 h3 h4=>?_⟩
 ·obtain⟨a1,a2,a3,a4,a5,a6,a7,a8⟩:=k.tree z w h hc
  exact⟨a1,a2,a3,a4,a5,a6,a7,.inl a8⟩
 ·rcases h with h |⟨rfl,rfl,rfl⟩
  ·exact k.d1 z u f h
  ·exact⟨tx,he,hec,hr,y,hj,hy⟩
 ·rcases h1 with h1 |⟨rfl,rfl,rfl⟩
  ·rcases h2 with h2 |⟨rfl,rfl,rfl⟩
   ·exact k.d2 z w u f hj2 h1 h2
   ·have:=Jn.eq hj2.symm hj (hG.ne f he)
    subst this
    rcases key2 h1 with q |⟨q1,q2⟩
    ·exact .inl q.symm
    ·exact .inr ⟨q1,.inr q2⟩
  ·rcases h2 with h2 |⟨rfl,_,_⟩
   ·have:=Jn.eq hj2 hj (hG.ne f he)
    subst this
    rcases key2 h2 with q |⟨q1,q2⟩
    ·exact .inl q
    ·exact .inr ⟨q1,.inl q2⟩
   ·exact absurd rfl (Jn.ne hj2 (hG.ne f he))
 ·rcases h1 with h1 |⟨rfl,rfl,rfl⟩
  ·exact k.d4 z w u f hj2 h1 h2 h3 h4
  ·have:=Jn.eq hj2.symm hj (hG.ne f he)
   subst this
   show s.root z=s.root w
   rcases h with h |⟨h1,_⟩ |h
   ·exact h.symm
   ·rcases used h1 with q |⟨_,_,q⟩
    ·exact q.symm
    ·have a:=(k.tree w z rx q).2.1
     have b:=(k.tree z w hy h3).2.1
     omega
   ·have:=(k.first z hy).1
    have h4:s.ar z=-u:=h4
    rw [h4,Int.neg_neg]at this
    exact absurd this h
end
end MX
end
section
namespace MX
section
variable{G:Gr}{c:Nat}{T:Int}{s:S}
open Classical in
noncomputable def S.fold(s:S)(C D:List Nat)(m x e:Nat)(t:Int):S where
 re:=s.re
 root:=fun v=>if s.root v∈C∨s.root v∈D then m else s.root v
 rk:=s.rk
 nx:=s.nx
 cb:=s.cb
 cf:=s.cf
 ar:=s.ar
 tn:=fun z u=>s.tn z u∨((z∈C∨z∈D∨z=m)∧(u=1∨u=-1))
 dn:=fun z u f=>s.dn z u f∨(z=x∧u=t∧f=e)
theorem fold_ok(k:s.Ok G c T)(hG:G.Ok){x y e:Nat}{t:Int}{C D:List Nat}{m:Nat}(R:Ring s G c x y e t C D m)(hxy:s.root x≠s.root y)(hnu:¬ (s.cb (s.root x)=e∧G.room t e=1))(hnd:¬ s.dn x t e) :
  (s.fold C D m x e t).Ok G c T:=by
 obtain⟨m1,m2,m3,m4,m5,m6⟩:=Z6O k R
 have rx:=(k.tnr x t R.tx).1
 have ry:=(k.tnr y t R.ty).1
 have rin:∀ {v},(s.root v∈C∨s.root v∈D)→(s.fold C D m x e t).root v=m:=fun h=>if_pos h
 have rout:∀ {v},¬ (s.root v∈C∨s.root v∈D)→(s.fold C D m x e t).root v=s.root v:=fun h=>if_neg h
 have rm:∀ {v},s.root v=m→(s.fold C D m x e t).root v=m:=fun h=>by
  rw [rout (by rw [h];exact fun q=>q.elim m3 m4)];exact h
 have rCDm:∀ {v},(s.root v∈C∨s.root v∈D∨s.root v=m)→(s.fold C D m x e t).root v=m:=fun h=>by
  rcases h with h |h |h
  ·exact rin (.inl h)
  ·exact rin (.inr h)
  ·exact rm h
 have req:∀ {v w},s.root v=s.root w→(s.fold C D m x e t).root v=(s.fold C D m x e t).root w:=fun{v w} h=>by
  show(if _ then m else s.root v)=if _ then m else s.root w
  rw [h]
 have rootCD:∀ {z},(z∈C∨z∈D)→s.re z∧s.root z=z∧s.rk m<s.rk z:=fun h=>h.elim (m5 _) (m6 _)
 have tr:∀ {z u},s.tn z u→(s.fold C D m x e t).tn z u:=fun h=>.inl h
 have upC:∀ {L:List Nat}{z w:Nat},Path s.up z L (some m)→s.re z→s.root z=z→w∈L→∃ w',s.cf w=some w'∧(s.root w'∈L∨s.root w'=m):=fun{L z w} hp hr hz hw=>by
  obtain⟨C1,C2,e1,p1,p2,b1,b2⟩:=Z4p k hp hr hz hw
  cases p2 with
  |step _ z' _ _ hu _ hp2 =>
   unfold S.up at hu
   cases q:s.cf w with
   |none=>rw [q]at hu;cases hu
   |some w' =>
    rw [q]at hu
    have:s.root w'=z':=Option.some.inj hu
    refine⟨w',rfl,?_⟩
    rw [this]
    exact(Z2O hp2).imp_left (b2 _)
 have upCD:∀ {z},(z∈C∨z∈D)→∃ w,s.cf z=some w∧(s.root w∈C∨s.root w∈D∨s.root w=m):=fun h=>by
  rcases h with h |h
  ·obtain⟨w,a,b⟩:=upC R.pC (k.root x rx).1 (k.root x rx).2.1 h
   exact⟨w,a,b.imp_right .inr⟩
  ·obtain⟨w,a,b⟩:=upC R.pD (k.root y ry).1 (k.root y ry).2.1 h
   exact⟨w,a,.inr b⟩
 have hyy:s.cb y=e→s.root y=y→s.ar y=t→2≤G.room t e:=fun h1 h2 h3=>by
  obtain⟨_,w,hw⟩:=by_end k ry h1 R.hec R.hj
  obtain⟨_,_,_,_,a5,_,_,a8⟩:=k.tree y w ry hw
  rw [h1]at a5 a8
  have:=Jn.eq a5 R.hj.symm (hG.ne e R.he)
  subst this
  rw [h3]at a8
  exact absurd a8 hnd
 have hxx:s.cb x=e→s.root x=x→s.ar x=t→2≤G.room t e:=fun h1 h2 _=>by
  have:=R.hr
  by_cases q:G.room t e=1
  ·exact absurd ⟨by rw [h2];exact h1,q⟩ hnu
  ·omega
 have xin:s.root x∈C∨s.root x∈D∨s.root x=m:=(Z2O R.pC).elim .inl fun q=>.inr (.inr q)
 have yin:s.root y∈C∨s.root y∈D∨s.root y=m:=(Z2O R.pD).elim (fun q=>.inr (.inl q)) fun q=>.inr (.inr q)
 have mu1:∀ {v:Nat}{u:Int}{μ:Nat→Int},(s.root v∈C∨s.root v∈D∨s.root v=m)→RMu s G c C D m v u μ→∃ μ,(s.fold C D m x e t).Mu G c v u μ:=fun{v u μ} hv h=>by
  refine⟨μ,h.bnd,fun f q=>?_,fun w=>?_⟩
  ·obtain⟨a1,a2,a3,a4,a5,a6⟩:=h.sup f q
   exact⟨a1,a2,a3,a4,by rw [rCDm a5,rCDm hv],by rw [rCDm a6,rCDm hv]⟩
  ·rw [h.bdr,rCDm hv];rfl
 refine⟨k.rn,k.rkn,fun z h=>?_,fun z h=>⟨tr (k.first z h).1,(k.first z h).2⟩,fun z u h=>?_,fun z w u h1 h2 hn h hu=>?_,k.top,fun z w h hc=>?_,fun z h hn=>?_,k.ends,fun v u h=>?_,fun z u f h=>?_,fun z w u f hj2 h1 h2=>?_,fun z w u f hj2 h1 h2 h3 h4=>?_⟩
 ·obtain⟨a,b,d⟩:=k.root z h
  by_cases q:s.root z∈C∨s.root z∈D
  ·rw [rin q,rm m2]
   refine⟨m1,rfl,fun _=>?_⟩
   show s.rk m<s.rk z
   have:=(rootCD q).2.2
   by_cases q2:s.root z=z
   ·rw [q2]at this;exact this
   ·exact Z0O this (d q2)
  ·rw [rout q]
   refine⟨a,?_,d⟩
   rw [rout (by rw [b];exact q)];exact b
 ·rcases h with h |⟨h,hu⟩
  ·exact k.tnr z u h
  ·refine⟨?_,hu⟩
   rcases h with h |h |rfl
   ·exact(m5 z h).1
   ·exact(m6 z h).1
   ·exact m1
 ·
  by_cases q1:s.root z=s.root w
  ·exact tr (k.cls z w u h1 h2 hn q1 hu)
  ·have inn:s.root z∈C∨s.root z∈D∨s.root z=m:=by
    by_cases p1:s.root z∈C∨s.root z∈D
    ·exact p1.imp_right .inl
    ·right;right
     rw [rout p1]at h
     by_cases p2:s.root w∈C∨s.root w∈D
     ·rw [rin p2]at h;exact h
     ·rw [rout p2]at h;exact absurd h q1
   by_cases q2:s.root z=z
   ·rw [q2]at inn
    exact .inr ⟨inn,hu⟩
   ·exact tr (k.cls z (s.root z) u h1 (k.root z h1).1 (fun q=>q2 q.symm) (k.root z h1).2.1.symm hu)
 ·obtain⟨a1,a2,a3,a4,a5,a6,a7,a8⟩:=k.tree z w h hc
  exact⟨a1,a2,a3,a4,a5,a6,tr a7,.inl a8⟩
 ·
  by_cases q2:s.root z=z
  ·by_cases q:s.root z∈C∨s.root z∈D
   ·rw [q2]at q
    obtain⟨w,a,b⟩:=upCD q
    refine⟨w,a,?_⟩
    rw [rCDm b,rin (by rw [q2];exact q)]
   ·rw [rout q]at hn;exact absurd q2 hn
  ·obtain⟨w,a,b⟩:=k.upp z h q2
   exact⟨w,a,req b⟩
 ·
  have rv:s.re v:=by
   rcases h with h |⟨h |h |rfl,_⟩
   ·exact(k.tnr v u h).1
   ·exact(m5 v h).1
   ·exact(m6 v h).1
   ·exact m1
  by_cases hin:s.root v∈C∨s.root v∈D∨s.root v=m
  ·by_cases old:s.tn v u
   ·rcases hin with q |q |q
    ·obtain⟨μ,M⟩:=Z8A k hG R rv q old
     exact mu1 (.inl q) M
    ·obtain⟨μ,M⟩:=Z8A k hG R.symm rv q old
     exact mu1 (.inr (.inl q)) M.swap
    ·obtain⟨μ,M⟩:=k.mu v u old
     refine⟨μ,M.bnd,fun f p=>?_,fun w=>?_⟩
     ·obtain⟨a1,a2,a3,a4,a5,a6⟩:=M.sup f p
      exact⟨a1,a2,a3,a4,req a5,req a6⟩
     ·rw [M.bdr,rm q,q];rfl
   ·obtain⟨hv,hu⟩:(v∈C∨v∈D∨v=m)∧(u=1∨u=-1):=h.elim (fun z=>absurd z old) id
    have hf:=k.first v rv
    have eu:u=s.ar v:=by
     by_cases q:u=s.ar v
     ·exact q
     ·have:u=-(s.ar v):=by omega
      rw [this]at old
      exact absurd hf.1 old
    rw [eu]at old ⊢
    rcases hv with q |q |rfl
    ·obtain⟨μ,M⟩:=Z7X k hG R q old
     exact mu1 (.inl (by rw [(m5 v q).2.1];exact q)) M
    ·obtain⟨μ,M⟩:=Z7X k hG R.symm q old
     exact mu1 (.inr (.inl (by rw [(m6 v q).2.1];exact q))) M.swap
    ·obtain⟨μ,M⟩:=ring_top k hG R old hxy hxx hyy
     exact mu1 (.inr (.inr m2)) M
  ·
   have old:s.tn v u:=by
    rcases h with h |⟨h,_⟩
    ·exact h
    ·rcases h with h |h |rfl
     ·exact absurd (.inl (by rw [(m5 v h).2.1];exact h)) hin
     ·exact absurd (.inr (.inl (by rw [(m6 v h).2.1];exact h))) hin
     ·exact absurd (.inr (.inr m2)) hin
   have hnot:¬ (s.root v∈C∨s.root v∈D):=fun q=>hin (q.imp_right .inl)
   obtain⟨μ,M⟩:=k.mu v u old
   refine⟨μ,M.bnd,fun f p=>?_,fun w=>?_⟩
   ·obtain⟨a1,a2,a3,a4,a5,a6⟩:=M.sup f p
    exact⟨a1,a2,a3,a4,req a5,req a6⟩
   ·rw [M.bdr,rout hnot];rfl
 ·rcases h with h |⟨rfl,rfl,rfl⟩
  ·obtain⟨a1,a2⟩:=k.d1 z u f h
   exact⟨tr a1,a2⟩
  ·exact⟨tr R.tx,R.he,R.hec,R.hr,y,R.hj,ry⟩
 ·
  have exy:(s.fold C D m x e t).root x=(s.fold C D m x e t).root y:=by rw [rCDm xin,rCDm yin]
  have stay:∀ {p q:Nat},Jn (G.bd f) p q→s.dn p u f→s.root p=p∧s.cb p=f∧s.ar p=u→(s.fold C D m x e t).root p=(s.fold C D m x e t).root q∨((s.fold C D m x e t).root p=p∧s.cb p=f∧s.ar p=u):=fun{p q} hjp hd ⟨h1,h2,h3⟩=>by
   have rp:=(k.tnr _ _ (k.d1 _ _ _ hd).1).1
   by_cases z1:s.root p∈C∨s.root p∈D
   ·left
    rw [h1]at z1
    obtain⟨w',a,b⟩:=upCD z1
    have a5:=(k.tree p w' rp a).2.2.2.2.1
    rw [h2]at a5
    have:=Jn.eq a5 hjp (hG.ne f (k.d1 _ _ _ hd).2.1)
    subst this
    rw [rCDm b,rin (by rw [h1];exact z1)]
   ·right
    rw [rout z1]
    exact⟨h1,h2,h3⟩
  rcases h1 with h1 |⟨rfl,rfl,rfl⟩
  ·rcases h2 with h2 |⟨rfl,rfl,rfl⟩
   ·rcases k.d2 z w u f hj2 h1 h2 with q |⟨q1,q2 |q2⟩
    ·exact .inl (req q)
    ·rcases stay hj2 h1 q2 with q3 |q3
     ·exact .inl q3
     ·exact .inr ⟨q1,.inl q3⟩
    ·rcases stay hj2.symm h2 q2 with q3 |q3
     ·exact .inl q3.symm
     ·exact .inr ⟨q1,.inr q3⟩
   ·have:=Jn.eq hj2.symm R.hj (hG.ne f R.he)
    subst this
    exact .inl exy.symm
  ·rcases h2 with h2 |⟨rfl,_,_⟩
   ·have:=Jn.eq hj2 R.hj (hG.ne f R.he)
    subst this
    exact .inl exy
   ·exact absurd rfl (Jn.ne hj2 (hG.ne f R.he))
 ·rcases h1 with h1 |⟨rfl,rfl,rfl⟩
  ·exact req (k.d4 z w u f hj2 h1 h2 h3 h4)
  ·have:=Jn.eq hj2.symm R.hj (hG.ne f R.he)
   subst this
   rw [rCDm xin,rCDm yin]
open Classical in
theorem ended(k:s.Ok G c T)(hG:G.Ok)(hc:c<G.m)(hT:T=1∨T=-1)(all:∀ x y t e,s.tn x t→e<G.m→e≠c→Jn (G.bd e) x y→0<G.room t e→s.dn x t e){δ:Nat→Int}(hd:G.Chg δ):δ c≠T:=by
 let lab:Nat→Lab:=fun x=>if s.tn x 1 then(if s.tn x (-1)then .two (s.root x)else .one 1)else(if s.tn x (-1)then .one (-1)else .un)
 have l1:∀ {x t},lab x=.one t→(t=1∨t=-1)∧s.tn x t:=fun{x t} h=>by
  simp only [lab]at h
  split at h
  ·split at h
   ·cases h
   ·cases h;exact⟨.inl rfl,by assumption⟩
  ·split at h
   ·cases h;exact⟨.inr rfl,by assumption⟩
   ·cases h
 have l2:∀ {x r},lab x=.two r→s.tn x 1∧s.tn x (-1)∧r=s.root x:=fun{x r} h=>by
  simp only [lab]at h
  split at h
  ·split at h
   ·cases h;exact⟨by assumption,by assumption,rfl⟩
   ·cases h
  ·split at h<;>cases h
 have mk2:∀ {x},s.tn x 1→s.tn x (-1)→lab x=.two (s.root x):=fun h1 h2=>by simp only [lab];rw [if_pos h1,if_pos h2]
 have has:∀ {x t},(t=1∨t=-1)→(lab x).has t→s.tn x t:=fun{x t} ht h=>by
  cases hl:lab x with
  |un=>rw [hl]at h;exact h.elim
  |one u=>rw [hl]at h;have h:u=t:=h;subst h;exact(l1 hl).2
  |two r =>
   obtain⟨a,b,_⟩:=l2 hl
   rcases ht with rfl |rfl
   ·exact a
   ·exact b
 have hs:∀ {x t},s.tn x t→(lab x).has t:=fun{x t} h=>by
  have ht:=(k.tnr x t h).2
  cases hl:lab x with
  |un =>
   simp only [lab]at hl
   split at hl
   ·split at hl<;>cases hl
   ·rename_i a
    split at hl
    ·cases hl
    ·rename_i b
     rcases ht with rfl |rfl
     ·exact absurd h a
     ·exact absurd h b
  |one u =>
   show u=t
   obtain⟨a,b⟩:=l1 hl
   by_cases q:u=t
   ·exact q
   ·have:s.tn x 1∧s.tn x (-1):=by
     rcases a with rfl |rfl<;>rcases ht with rfl |rfl
     ·exact absurd rfl q
     ·exact⟨b,h⟩
     ·exact⟨h,b⟩
     ·exact absurd rfl q
    rw [mk2 this.1 this.2]at hl;cases hl
  |two r=>trivial
 have reun:∀ {x},s.re x→lab x≠.un:=fun{x} h q=>by
  have:=hs (k.first x h).1
  rw [q]at this
  exact this
 have both:∀ {x},s.tn x (s.ar x)→s.re x→s.tn x 1∧s.tn x (-1):=fun{x} h hr=>by
  obtain⟨a,b⟩:=k.first x hr
  rcases b with b |b<;>rw [b]at a h
  ·exact⟨h,a⟩
  ·exact⟨a,h⟩
 have cert:Cert G c T lab s.cb:=by
  refine⟨fun v t hv h=>(l1 h).1,fun v r hv h=>?_,fun e t he hec ht hr=>?_,fun e t he hec ht hr ha hb=>?_,fun r hr h=>?_,hc,?_,?_,hT⟩
  ·obtain⟨a,b,rfl⟩:=l2 h
   have rv:=(k.tnr v 1 a).1
   obtain⟨q1,q2,_⟩:=k.root v rv
   refine⟨k.rn _ q1,?_⟩
   by_cases q:s.root v=v
   ·rw [q];rw [q]at h;exact h
   ·have:=k.cls (s.root v) v
    rw [mk2 (this 1 q1 rv q q2 (.inl rfl)) (this (-1) q1 rv q q2 (.inr rfl)),q2]
  ·refine⟨fun h=>?_,fun h=>?_⟩
   ·obtain⟨_,_,_,_,y,q1,q2⟩:=k.d1 _ _ _ (all _ _ t e (has ht h) he hec (.inl ⟨rfl,rfl⟩) hr)
    have:=Jn.eq q1 (.inl ⟨rfl,rfl⟩) (hG.ne e he)
    subst this
    exact reun q2
   ·obtain⟨_,_,_,_,y,q1,q2⟩:=k.d1 _ _ _ (all _ _ t e (has ht h) he hec (.inr ⟨rfl,rfl⟩) hr)
    have:=Jn.eq q1 (.inr ⟨rfl,rfl⟩) (hG.ne e he)
    subst this
    exact reun q2
  ·have ta:=has ht ha
   have tb:=has ht hb
   have ra:=(k.tnr _ _ ta).1
   have rb:=(k.tnr _ _ tb).1
   have da:=all _ _ t e ta he hec (.inl ⟨rfl,rfl⟩) hr
   have db:=all _ _ t e tb he hec (.inr ⟨rfl,rfl⟩) hr
   have ne:=hG.ne e he
   rcases k.d2 _ _ t e (.inl ⟨rfl,rfl⟩) da db with q |⟨q1,⟨z1,z2,z3⟩ |⟨z1,z2,z3⟩⟩
   ·left
    refine⟨s.root (G.bd e).a,mk2 (k.cls _ _ 1 ra rb ne q (.inl rfl)) (k.cls _ _ (-1) ra rb ne q (.inr rfl)),?_⟩
    rw [q]
    exact mk2 (k.cls _ _ 1 rb ra ne.symm q.symm (.inl rfl)) (k.cls _ _ (-1) rb ra ne.symm q.symm (.inr rfl))
   ·right
    refine⟨q1,.inl ⟨?_,z2⟩⟩
    obtain⟨b1,b2⟩:=both (by rw [z3];exact ta) ra
    rw [mk2 b1 b2,z1]
   ·right
    refine⟨q1,.inr ⟨?_,z2⟩⟩
    obtain⟨b1,b2⟩:=both (by rw [z3];exact tb) rb
    rw [mk2 b1 b2,z1]
  ·obtain⟨a,b,e1⟩:=l2 h
   have rr:=(k.tnr _ _ a).1
   cases q:s.cf r with
   |none=>exact .inl (k.top r rr q).1
   |some w =>
    obtain⟨a1,a2,a3,a4,a5,a6,a7,a8⟩:=k.tree r w rr q
    refine .inr ⟨a3,a4,s.ar r,(k.first r rr).2,a6,?_⟩
    rcases a5 with⟨z1,z2⟩ |⟨z1,z2⟩
    ·exact .inl ⟨z1,by rw [z2];exact hs a7⟩
    ·exact .inr ⟨z1,by rw [z2];exact hs a7⟩
  ·obtain⟨ra,_,ca,_⟩:=k.ends
   obtain⟨t1,_,t3⟩:=k.top _ ra ca
   have f:=(k.first _ ra).1
   rw [t3]at f
   by_cases q:s.tn (G.bd c).a T
   ·obtain⟨b1,b2⟩:=both (by rw [t3];exact q) ra
    right
    rw [mk2 b1 b2,k.rootTop ra ca]
    exact⟨rfl,t1⟩
   ·left
    have:=hs f
    cases hl:lab (G.bd c).a with
    |un=>rw [hl]at this;exact this.elim
    |one u=>rw [hl]at this;have h:u=-T:=this;rw [h]
    |two r=>exact absurd (by rcases hT with rfl |rfl;exact(l2 hl).1;exact(l2 hl).2.1) q
  ·obtain⟨_,ra,_,ca⟩:=k.ends
   obtain⟨t1,_,t3⟩:=k.top _ ra ca
   have f:=(k.first _ ra).1
   rw [t3]at f
   by_cases q:s.tn (G.bd c).b T
   ·obtain⟨b1,b2⟩:=both (by rw [t3];exact q) ra
    right
    rw [mk2 b1 b2,k.rootTop ra ca]
    exact⟨rfl,t1⟩
   ·left
    have:=hs f
    cases hl:lab (G.bd c).b with
    |un=>rw [hl]at this;exact this.elim
    |one u=>rw [hl]at this;have h:u=-T:=this;rw [h]
    |two r=>exact absurd (by rcases hT with rfl |rfl;exact(l2 hl).1;exact(l2 hl).2.1) q
 exact Zav cert hG hd
end
end MX
end
section
namespace BK
open PySem PySem.Spec PyProof.Rows L2 EX RD
def top(i:Nat):Stmt:=PySem.Challenge.pw_wholeamounts_s11_want.main.body.getD i (.Pass ⟨0,0,0,0⟩)
abbrev Z2U:Stmt:=Z2u (top 1) 0
abbrev Z3r:Stmt:=top 7
abbrev Z5W:Stmt:=top 8
abbrev Z6C:Stmt:=top 9
abbrev Z7n:Stmt:=top 10
abbrev Z3L:Stmt:=top 11
abbrev Z3z:Stmt:=top 13
abbrev Z3s:Stmt:=top 15
abbrev Z4c:Stmt:=Z2u (top 26) 0
abbrev Z3d:Stmt:=Z2u (top 26) 1
abbrev Z3V:Stmt:=Z2u (top 26) 2
abbrev Z3F:Stmt:=Z2u (top 26) 3
abbrev Z3B:Stmt:=Z2u (top 26) 4
abbrev Z4W:Stmt:=Z2u (top 31) 0
abbrev Z3S:Stmt:=Z2u (top 32) 0
abbrev Z3O:Stmt:=Z2u (top 32) 1
abbrev Z3Q:Stmt:=Z2u (top 32) 2
abbrev Z3j:Stmt:=Z2u (top 32) 3
abbrev Z3v:Stmt:=Z2u (top 32) 4
abbrev Z3G:Stmt:=Z2u (top 32) 5
abbrev Z3u:Stmt:=Z2u (top 32) 6
abbrev Z3c:Stmt:=Z2u (top 32) 7
abbrev Z3i:Stmt:=Z2u (top 32) 8
abbrev Z3Z:Stmt:=Z2u (top 32) 9
abbrev Z3f:Stmt:=Z2u (top 32) 10
abbrev Z3N:Stmt:=top 33
abbrev Z3o:Stmt:=top 34
abbrev Z5Q:Stmt:=top 35
abbrev Z4E:Stmt:=Z2u (top 49) 0
abbrev Z4D:Stmt:=Z2u (top 50) 0
abbrev Z3C:Stmt:=Z2u (top 51) 0
abbrev Z3A:Stmt:=top 52
abbrev Z3k:Stmt:=top 53
abbrev Z4O:Stmt:=top 54
abbrev Z4H:Stmt:=top 55
abbrev Z2E:Stmt:=top 56
abbrev Z2Y:Stmt:=top 57
abbrev Z3H:Stmt:=top 58
abbrev Z3e:Stmt:=top 59
abbrev Z3D:Stmt:=top 60
abbrev Z3t:Stmt:=top 61
abbrev Z3E:Stmt:=Z2u (top 67) 0
abbrev Z2y:Stmt:=top 68
abbrev Z3U:Stmt:=top 69
abbrev Z3b:Stmt:=top 76
abbrev Z4L:Stmt:=top 77
abbrev Z5G:Stmt:=top 78
abbrev Z8Q:Stmt:=top 79
abbrev Z3J:Stmt:=top 80
structure TR(K:Z0a)(mg:Str→Option Value)(CF CR fF:Addr):Prop where
 xi:XInit K CF fF "rule" "place" "which" 0
 cl:Cls K CR
 nf:NoAttr K CR "form"
 np:NoAttr K CR "place"
 mgF:mg "Fault" = some (.ref CF)
 mgR:mg "Reader" = some (.ref CR)
 len:mg "len" = none
 rev:mg "reversed" = none
 c1:∃ u,mg "WRONG_MARK" = some u∧RelV (.int 1) u
 c2:∃ u,mg "OUT_OF_BOUNDS" = some u∧RelV (.int 2) u
 c5:∃ u,mg "ENDS_EARLY" = some u∧RelV (.int 5) u
 c7:∃ u,mg "LEFT_OVER" = some u∧RelV (.int 7) u
section
variable{P:Program}{w:World}{K:Z0a}{mg:Str→Option Value}{base:Heap}{CF CR fF:Addr}
def spRI(CR:Addr):Sp:=fun vs H Q _=>∃ (r dx a:Addr),vs=[.ref r,.ref a]∧H r=some (.ins CR dx [])∧∀ H':Hp,RdAt CR H' r a 0→Only r H H'→Q .non H'
theorem scRI:Z2e ["self","form"] ["self","form"] (Z2b Z4c):=⟨rfl,rfl,rfl,by decide +kernel,rfl,by decide +kernel,by decide +kernel⟩
theorem okRI{f:Addr}{fd:FuncData}(F:Fun K "__init__" "Reader.__init__" Z4c f fd)(T:TR K mg CF CR fF):FnOk P w K mg base CX0 1 f fd ["self","form"] (spRI CR):=by
 refine F.ok scRI (fun vs H Q E h=>?_) (fun cdv A outer s H vs Q E hr h=>?_)
 ·obtain⟨r,dx,a,rfl,_⟩:=h
  rfl
 ·obtain⟨r,dx,a,rfl,hp,k⟩:=h
  refine⟨_,Z1Y (Z2t (pv 0) (pv 1) rfl) (Z2c (Z2t (pv 0) Z2f rfl)),?_⟩
  refine⟨_,rfl,_,rfl,r,CR,dx,[],rfl,hp,T.cl,T.nf,(by show 0<1000;decide),?_⟩
  refine⟨_,rfl,r,CR,dx,_,rfl,Z1X,T.cl,T.np,(by show 1<1000;decide),?_⟩
  refine k _ ⟨dx,?_⟩ ?_
  ·rw [Z1X,rf_mk];rfl
  ·exact(Only.upd _).trans (Only.upd _)
def Z8e(K:Z0a)(CF CR:Addr):Sp:=fun vs H Q E=>∃ (r a m:Addr)(p:Nat)(bs ms:List Int),vs=[.ref r,.ref m]∧RdAt CR H r a p∧SqL K H a (bs.map V.int)∧SqT K H m (ms.map V.int)∧p≤bs.length ∧
 match markM bs p ms with
 |.ok q=>∀ H':Hp,RdAt CR H' r a q→Only r H H'→Q .non H'
 |.error e=>Flt CF E H r e.1 e.2
theorem scMark:Z2e ["self","mark","byte"] ["self","mark"] (Z2b Z3d):=⟨rfl,rfl,rfl,by decide +kernel,rfl,by decide +kernel,by decide +kernel⟩
theorem okMark{f:Addr}{fd:FuncData}(F:Fun K "expect_mark" "Reader.expect_mark" Z3d f fd)(T:TR K mg CF CR fF):FnOk P w K mg base (CXF P w) 2 f fd ["self","mark"] (Z8e K CF CR):=by
 refine okX F scMark (fun vs H Q E h=>?_) (fun cdv A outer s H vs Q E hr h=>?_)
 ·obtain⟨r,a,m,p,bs,ms,rfl,_⟩:=h
  rfl
 ·obtain⟨r,a,m,p,bs,ms,rfl,hR,hS,hM,hp,k⟩:=h
  have hdp:=(show A.depth+1+1<recursionLimit from by have:=hr.dp;simp only [Around.deeper]at this;omega)
  refine⟨_,Z2c (Z3l Z4N rfl (pi_tup (pv 1)) (Z2x (i:=2) scMark.nd rfl (Or.inl rfl))
   (Z1Y (ps_if (Z2p op_eq (Z2d (pv 0) rfl) (Z2M Z2v (by rfl) T.len PySem.boot_len (Z1V (Z2d (pv 0) rfl) Z2a)) (Z2n _))
     (Z2c (Z3m T.xi rfl rfl hdp rfl T.mgF Z2D (Z1V (pe_gc rfl T.c5) (Z1V (Z2d (pv 0) rfl) Z2a)))) Z2w)
   (Z1Y (ps_if (Z2p op_ne (pe_ix Z2Z (Z2d (pv 0) rfl) (Z2d (pv 0) rfl) (fun _ _=>rfl)) (pv 2) (Z2n _))
     (Z2c (Z3m T.xi rfl rfl hdp rfl T.mgF Z2D (Z1V (pe_gc rfl T.c1) (Z1V (Z2d (pv 0) rfl) Z2a)))) Z2w)
   (Z2c (Zac (pv 0) Z2f in_add))))),?_⟩
  have hx:∀ {i:Nat}{y:V},(ms.map V.int)[i]?=some y→∃ z,ms[i]?=some z∧y=V.int z:=fun{i y} hi=>by
   rw [Z0n]at hi
   cases e:ms[i]? with
   |none=>rw [e]at hi;cases hi
   |some z=>rw [e]at hi;exact⟨z,rfl,(Option.some.inj hi).symm⟩
  refine⟨_,rfl,m,rfl,⟨_,hM⟩,Z9e (K:=K) (a:=m) (xs:=ms.map V.int) (fun i σ H'=>∃ v:Option V,σ=[some (.ref r),some (.ref m),v]∧Only r H H'∧RdAt CR H' r a (p+i)∧p+i≤bs.length∧markM bs p ms=markM bs (p+i) (ms.drop i))
   ⟨none,rfl,Only.refl _ _,hR,hp,rfl⟩ (fun i σ H' _ ⟨_,_,o,_,_⟩=>let ⟨_,hr0⟩:=hR;o.sqT hr0 hM) ?_ ?_⟩
  ·rintro i y σ H' hi ⟨v,rfl,o,⟨dx,h1⟩,hle,hmk⟩
   obtain⟨z,hz,rfl⟩:=hx hi
   obtain⟨_,hr0⟩:=id hR
   have hS':=o.sq hr0 hS
   have hdr:ms.drop i=z::ms.drop (i+1):=by
    have hlt:=(Z0p.mp hz).1
    rw [Z1R hlt,(Z0p.mp hz).2]
   rw [hdr]at hmk
   refine⟨_,rfl,r,CR,dx,_,_,rfl,h1,T.cl,T.np,Z2L _ _,_,rfl,r,CR,dx,_,_,rfl,h1,T.cl,T.nf,Z4w _ _,a,_,rfl,.inl hS',rfl,_,rfl,ite2 (fun hc=>?_) (fun hc=>?_)⟩
   ·have hc1:p+i=bs.length:=by
     have:=of_decide_eq_true hc
     simp only [V.int.injEq,Z0c]at this
     omega
    rw [hmk]at k
    unfold markM at k
    rw [if_pos hc1]at k
    refine⟨_,rfl,r,CR,dx,_,_,rfl,h1,T.cl,T.np,Z2L _ _,_,_,_,.inr ⟨rfl,rfl⟩,fun dx' hn=>?_⟩
    exact k _ dx' (o.new hn) Z1X
   ·have hc1:p+i≠bs.length:=fun e=>hc (decide_eq_true (by simp only [Z0c];rw [e]))
    have hlt:p+i<bs.length:=by omega
    refine⟨_,rfl,r,CR,dx,_,_,rfl,h1,T.cl,T.nf,Z4w _ _,_,rfl,r,CR,dx,_,_,rfl,h1,T.cl,T.np,Z2L _ _,a,_,_,_,rfl,rfl,hS',Z3a (by rw [Z0n,Z0l hlt];rfl),_,rfl,rfl,_,rfl,ite2 (fun hc2=>?_) (fun hc2=>?_)⟩
    ·have hne:bs[p+i]?≠some z:=fun e=>by
      rw [Z0l hlt]at e
      rw [Option.some.inj e]at hc2
      simp at hc2
     rw [hmk]at k
     unfold markM at k
     rw [if_neg hc1,if_pos hne]at k
     refine⟨_,rfl,r,CR,dx,_,_,rfl,h1,T.cl,T.np,Z2L _ _,_,_,_,.inr ⟨rfl,rfl⟩,fun dx' hn=>?_⟩
     exact k _ dx' (o.new hn) Z1X
    ·have heq:bs[p+i]?=some z:=by
      rw [Z0l hlt]
      simp at hc2
      rw [hc2]
     refine⟨_,rfl,r,CR,dx,_,_,rfl,h1,T.cl,T.np,Z2L _ _,_,_,rfl,rfl,dx,_,h1,(by show 2<1000;decide),?_⟩
     refine⟨_,rfl,o.trans (Only.upd _),⟨dx,?_⟩,by omega,?_⟩
     ·rw [Z1X,rf_put];rfl
     ·rw [hmk]
      conv=>lhs;unfold markM
      rw [if_neg hc1,if_neg (by simpa using heq)]
      rfl
  ·rintro σ H' ⟨v,rfl,o,hR',hle,hmk⟩
   rw [Z0c]at hR' hmk hle
   rw [List.drop_length]at hmk
   rw [hmk]at k
   exact k H' hR' o
end
section
variable{P:Program}{w:World}{K:Z0a}{mg:Str→Option Value}{base:Heap}{CF CR fF:Addr}
def spNum(K:Z0a)(CF CR:Addr):Sp:=fun vs H Q E=>∃ (r a:Addr)(p size:Nat)(bs:List Int)(lo hi:Int),vs=[.ref r,.int size,.int lo,.int hi]∧RdAt CR H r a p∧SqL K H a (bs.map V.int)∧p≤bs.length∧(∀ x∈bs,0≤x∧x≤255) ∧
 match numM bs p size lo hi with
 |.ok v=>∀ H':Hp,RdAt CR H' r a (p+size)→Only r H H'→Q (.int v) H'
 |.error e=>Flt CF E H r e.1 e.2
def Z7W(K:Z0a)(CF CR:Addr):Sp:=fun vs H Q E=>∃ (r a:Addr)(p size:Nat)(bs:List Int),vs=[.ref r,.int size]∧RdAt CR H r a p∧SqL K H a (bs.map V.int)∧p≤bs.length ∧
 (p+size≤bs.length→∀ (H':Hp)(l:Addr),RdAt CR H' r a (p+size)→Only r H H'→H l=none→H' l=some (.lst (((bs.drop p).take size).map V.int))→Q (.ref l) H')∧(bs.length<p+size→Flt CF E H r 5 bs.length)
theorem scTake:Z2e ["self","size","end","taken"] ["self","size"] (Z2b Z3V):=⟨rfl,rfl,rfl,by decide +kernel,rfl,by decide +kernel,by decide +kernel⟩
theorem okTake{f:Addr}{fd:FuncData}(F:Fun K "take" "Reader.take" Z3V f fd)(T:TR K mg CF CR fF):FnOk P w K mg base (CXF P w) 2 f fd ["self","size"] (Z7W K CF CR):=by
 refine okX F scTake (fun vs H Q E h=>?_) (fun cdv A outer s H vs Q E hr h=>?_)
 ·obtain⟨r,a,p,size,bs,rfl,_⟩:=h
  rfl
 ·obtain⟨r,a,p,size,bs,rfl,hR,hS,hp,k1,k2⟩:=h
  have hdp:=(show A.depth+1+1<recursionLimit from by have:=hr.dp;simp only [Around.deeper]at this;omega)
  refine⟨_,Z1Y (Z2h (i:=2) scTake.nd rfl (Or.inl rfl) (pe_op Z2X (Z2d (pv 0) rfl) (pv 1)))
   (Z1Y (ps_if (Z2p op_gt (pv 2) (Z2M Z2v (by rfl) T.len PySem.boot_len (Z1V (Z2d (pv 0) rfl) Z2a)) (Z2n _))
     (Z2c (Z3m T.xi rfl rfl hdp rfl T.mgF Z2D (Z1V (pe_gc rfl T.c5) (Z1V (Z2M Z2v (by rfl) T.len PySem.boot_len (Z1V (Z2d (pv 0) rfl) Z2a)) Z2a)))) Z2w)
   (Z1Y (Z2h (i:=3) scTake.nd rfl (Or.inl rfl) (pe_slice sl_list (Z2d (pv 0) rfl) (Z9E (Z2d (pv 0) rfl)) (Z9E (pv 2))))
   (Z1Y (Z2t (pv 0) (pv 2) rfl)
   (Z2c (Z2k (pv 3)))))),?_⟩
  obtain⟨dx,h1⟩:=hR
  refine⟨_,rfl,r,CR,dx,_,_,rfl,h1,T.cl,T.np,Z2L _ _,_,rfl,_,_,rfl,rfl,?_⟩
  refine⟨_,rfl,_,rfl,r,CR,dx,_,_,rfl,h1,T.cl,T.nf,Z4w _ _,a,_,rfl,.inl hS,_,_,rfl,rfl,_,rfl,ite2 (fun hc=>?_) (fun hc=>?_)⟩
  ·have hc1:bs.length<p+size:=by
    have:=of_decide_eq_true hc
    simp only [Z0c]at this
    omega
   refine⟨_,rfl,r,CR,dx,_,_,rfl,h1,T.cl,T.nf,Z4w _ _,a,_,rfl,.inl hS,_,_,_,.inr ⟨rfl,rfl⟩,fun dx' hn=>?_⟩
   refine k2 hc1 _ dx' ((Only.refl _ _).new hn) ?_
   rw [Z1X,Z0c];rfl
  ·have hc1:¬ bs.length<p+size:=fun e=>hc (decide_eq_true (by simp only [Z0c];omega))
   have hle:p+size≤bs.length:=by omega
   refine⟨_,rfl,r,CR,dx,_,_,rfl,h1,T.cl,T.nf,Z4w _ _,_,rfl,r,CR,dx,_,_,rfl,h1,T.cl,T.np,Z2L _ _,_,rfl,_,rfl,_,rfl,a,_,rfl,hS,fun l hl=>?_⟩
   have hcut:cutV (bs.map V.int) (some (p:Int)) (some ((p:Int)+(size:Int)))=((bs.drop p).take size).map V.int:=by
    have e:=cut_nat (bs.map V.int) p (p+size) (by rw [Z0c];exact hle) (Nat.le_add_right _ _)
    rw [Nat.add_sub_cancel_left,←List.map_drop,←List.map_take]at e
    exact e
   rw [hcut]
   have h2:upd H l (.lst (((bs.drop p).take size).map V.int)) r=some (.ins CR dx (rf a p)):=by rw [Z1W (Z1Z h1 hl)];exact h1
   refine⟨_,rfl,_,rfl,r,CR,dx,_,rfl,h2,T.cl,T.np,(by show 2<1000;decide),_,rfl,?_⟩
   refine k1 hle _ l ⟨dx,?_⟩ (((Only.refl _ _).new hl).trans (Only.upd _)) hl ?_
   ·rw [Z1X,rf_put];rfl
   ·rw [Z1W (Z1Z h1 hl).symm,Z1X]
theorem scNum:Z2e ["self","size","least","most","start","value","byte"] ["self","size","least","most"] (Z2b Z3F):=⟨rfl,rfl,rfl,by decide +kernel,rfl,by decide +kernel,by decide +kernel⟩
theorem okNum{f fT:Addr}{fd fdT:FuncData}(F:Fun K "number" "Reader.number" Z3F f fd)(T:TR K mg CF CR fF)(GT:FnOk P w K mg base (CXF P w) 2 fT fdT ["self","size"] (Z7W K CF CR))(mT:Meth K CR "take" fT)(bT:Binds K fdT ["self","size"] []) :
  FnOk P w K mg base (CXF P w) 3 f fd ["self","size","least","most"] (spNum K CF CR):=by
 refine okX F scNum (fun vs H Q E h=>?_) (fun cdv A outer s H vs Q E hr h=>?_)
 ·obtain⟨r,a,p,size,bs,lo,hi,rfl,_⟩:=h
  rfl
 ·obtain⟨r,a,p,size,bs,lo,hi,rfl,hR,hS,hp,hb,k⟩:=h
  have hdp:=(show A.depth+1+1<recursionLimit from by have:=hr.dp;simp only [Around.deeper]at this;omega)
  refine⟨_,Z1Y (Z2h (i:=4) scNum.nd rfl (Or.inl rfl) (Z2d (pv 0) rfl))
   (Z1Y (Z2h (i:=5) scNum.nd rfl (Or.inl rfl) Z2f)
   (Z1Y (Z3l Z4N rfl (Z8X rfl T.rev (Z1V (Z2j (pv 0) T.cl mT GT hr bT .nil Z2i (Z1V (pv 1) Z2a)) Z2a)) (Z2x (i:=6) scNum.nd rfl (Or.inl rfl))
     (Z2c (Z2h (i:=5) scNum.nd rfl (Or.inl rfl) (pe_op Z2X (pe_op Z4G (pv 5) Z2f) (pv 6)))))
   (Z1Y (ps_if (PW.pt (pw_or (Z2p op_lt (pv 5) (pv 2) (Z2n _)) (Z7c (Z2p op_gt (pv 5) (pv 3) (Z2n _)))))
     (Z2c (Z3m T.xi rfl rfl hdp rfl T.mgF Z2D (Z1V (pe_gc rfl T.c2) (Z1V (pv 4) Z2a)))) Z2w)
   (Z2c (Z2k (pv 5)))))),?_⟩
  obtain⟨dx,h1⟩:=id hR
  refine⟨_,rfl,r,CR,dx,_,_,rfl,h1,T.cl,T.np,Z2L _ _,?_⟩
  refine⟨_,rfl,r,dx,_,rfl,h1,rf_no _ _ (by decide) (by decide),_,rfl,r,a,p,size,bs,rfl,hR,hS,hp,fun hle H1 l hR1 o1 nl hl=>?_,fun hlt=>?_⟩
  ·unfold numM at k
   rw [if_neg (by omega)]at k
   have hlen:((bs.drop p).take size).length=size:=by rw [Z1c,Z1o];omega
   generalize hbl:(bs.drop p).take size=bl at *
   refine⟨l,bl.map V.int,rfl,SqL.of hl,for_rev (K:=K) (a:=l) (xs:=bl.map V.int)
    (fun i σ H'=>∃ v:Option V,σ=[some (.ref r),some (.int size),some (.int lo),some (.int hi),some (.int p),some (.int (numL (bl.drop (bl.length-i)))),v]∧H'=H1)
    ⟨none,?_,rfl⟩ (fun i σ H' _ ⟨_,_,e⟩=>by rw [e];exact SqL.of hl) ?_ ?_⟩
   ·rw [Z1f,List.drop_length];rfl
   ·rintro i x σ H' hi hx ⟨v,rfl,rfl⟩
    rw [Z0c]at hi hx
    obtain⟨z,hz,rfl⟩:∃ z,bl[bl.length-1-i]?=some z∧x=V.int z:=by
     rw [Z0n]at hx
     cases e:bl[bl.length-1-i]? with
     |none=>rw [e]at hx;cases hx
     |some z=>rw [e]at hx;exact⟨z,rfl,(Option.some.inj hx).symm⟩
    refine⟨_,rfl,_,_,rfl,rfl,.inr ⟨by decide,by decide⟩,_,rfl,_,_,rfl,rfl,?_⟩
    refine⟨some (.int z),?_,rfl⟩
    rw [Zan hi hz];rfl
   ·rintro σ H' ⟨v,rfl,rfl⟩
    rw [Z0c,Z0T,List.drop_zero]
    refine⟨_,rfl,_,rfl,_,_,rfl,rfl,_,rfl,?_⟩
    refine ite2 (fun hc2=>?_) (fun hc2=>?_)
    ·rw [if_pos (.inl (of_decide_eq_true hc2))]at k
     refine⟨_,rfl,_,_,_,.inr ⟨rfl,rfl⟩,fun dx' hn=>?_⟩
     exact k _ dx' (o1.new hn) Z1X
    ·refine⟨_,rfl,_,rfl,_,_,rfl,rfl,_,rfl,ite2 (fun hc3=>?_) (fun hc3=>?_)⟩
     ·rw [if_pos (.inr (of_decide_eq_true hc3))]at k
      refine⟨_,rfl,_,_,_,.inr ⟨rfl,rfl⟩,fun dx' hn=>?_⟩
      exact k _ dx' (o1.new hn) Z1X
     ·rw [if_neg (by rintro(z |z);exact hc2 (decide_eq_true z);exact hc3 (decide_eq_true z))]at k
      exact⟨_,rfl,k H' hR1 o1⟩
  ·unfold numM at k
   rw [if_pos hlt]at k
   exact k
def spFin(K:Z0a)(CF CR:Addr):Sp:=fun vs H Q E=>∃ (r a:Addr)(p:Nat)(bs:List Int),vs=[.ref r]∧RdAt CR H r a p∧SqL K H a (bs.map V.int)∧p≤bs.length ∧
 (p=bs.length→∀ H':Hp,Same H H'→Q .non H')∧(p<bs.length→Flt CF E H r 7 p)
theorem scFin:Z2e ["self"] ["self"] (Z2b Z3B):=⟨rfl,rfl,rfl,by decide +kernel,rfl,by decide +kernel,by decide +kernel⟩
theorem okFin{f:Addr}{fd:FuncData}(F:Fun K "finish" "Reader.finish" Z3B f fd)(T:TR K mg CF CR fF):FnOk P w K mg base (CXF P w) 2 f fd ["self"] (spFin K CF CR):=by
 refine okX F scFin (fun vs H Q E h=>?_) (fun cdv A outer s H vs Q E hr h=>?_)
 ·obtain⟨r,a,p,bs,rfl,_⟩:=h
  rfl
 ·obtain⟨r,a,p,bs,rfl,hR,hS,hp,k1,k2⟩:=h
  have hdp:=(show A.depth+1+1<recursionLimit from by have:=hr.dp;simp only [Around.deeper]at this;omega)
  refine⟨_,Z2c (ps_if (Z2p op_lt (Z2d (pv 0) rfl) (Z2M Z2v (by rfl) T.len PySem.boot_len (Z1V (Z2d (pv 0) rfl) Z2a)) (Z2n _))
    (Z2c (Z3m T.xi rfl rfl hdp rfl T.mgF Z2D (Z1V (pe_gc rfl T.c7) (Z1V (Z2d (pv 0) rfl) Z2a)))) Z2w),?_⟩
  obtain⟨dx,h1⟩:=hR
  refine⟨_,rfl,r,CR,dx,_,_,rfl,h1,T.cl,T.np,Z2L _ _,_,rfl,r,CR,dx,_,_,rfl,h1,T.cl,T.nf,Z4w _ _,a,_,rfl,.inl hS,_,_,rfl,rfl,_,rfl,ite2 (fun hc=>?_) (fun hc=>?_)⟩
  ·have hc1:=of_decide_eq_true hc
   simp only [Z0c]at hc1
   refine⟨_,rfl,r,CR,dx,_,_,rfl,h1,T.cl,T.np,Z2L _ _,_,_,_,.inr ⟨rfl,rfl⟩,fun dx' hn=>?_⟩
   exact k2 (by omega) _ dx' ((Only.refl _ _).new hn) Z1X
  ·refine k1 ?_ H (Same.refl H)
   have:¬ (p:Int)<(bs.length:Int):=fun e=>hc (decide_eq_true (by simp only [Z0c];exact e))
   omega
end
end BK
end
section
namespace BK
open PySem PySem.Spec PyProof.Rows L2 EX RD LM
structure TA4(K:Z0a)(mg:Str→Option Value)(CF CW CN CT fF:Addr):Prop where
 xc:XC K CF fF ["rule","place","which"]
 xw:XP K CW
 xn:XP K CN
 xt:XP K CT
 mF:mg "Fault" = some (.ref CF)
 mW:mg "WrongNumbers" = some (.ref CW)
 mN:mg "NotThere" = some (.ref CN)
 mT:mg "TooGreat" = some (.ref CT)
 fw:CW≠CF
 fn:CN≠CF
 ft:CT≠CF
 wn:CN≠CW
 wt:CT≠CW
 nt:CT≠CN
 xg:XG K CF
 nr:NoAttr K CF "rule"
 np:NoAttr K CF "place"
 nw:NoAttr K CF "which"
 c0:∃ u,mg "ANSWERED" = some u∧RelV (.int 0) u
 c1:∃ u,mg "WRONG_NUMBERS" = some u∧RelV (.int (-1)) u
 c2:∃ u,mg "NOT_THERE" = some u∧RelV (.int (-2)) u
 c5:∃ u,mg "FAULTY_FORM" = some u∧RelV (.int (-5)) u
 c6:∃ u,mg "TOO_GREAT" = some u∧RelV (.int (-6)) u
def Z8r(CF CW CN CT:Addr)(ans:List Int):XK:=fun cls d H =>
 (cls=.ref CF∧∃ dx r p w,d=some dx∧H dx=some (.xd (xf r p w))∧ans=[-5,w,r,p])∨(cls=.ref CW∧ans=[-1])∨(cls=.ref CN∧ans=[-2])∨(cls=.ref CT∧ans=[-6])
theorem Z5Y{X:Cx}{f:Str}{e:Expr}{pos:Pos}{ta:TE}(K:Z0a)(hK:X.K=K)(he:PE X e ta)(hb:attributeBase e f X.env (eval e X.env)=eval e X.env):PE X (.Attribute e f pos) (tXf K ta f):=by
 subst hK
 exact pe_xf he hb
section
variable{P:Program}{w:World}{K:Z0a}{mg:Str→Option Value}{base:Heap}{CF CW CN CT fF:Addr}{ι:Type}{pre:ι→List V→Hp→Prop}{ans:ι→List Int}{z:Bool}
def spL(CF CW CN CT:Addr)(pre:ι→List V→Hp→Prop)(ans:ι→List Int)(vs:List V):Sp:=fun us H Q E=>us=[]∧∃ x,pre x vs H ∧
 (∀ H' t xs,L2.Same H H'→H t=none→H' t=some (.lst (xs.map V.int))→ans x=0::xs→Q (.ref t) H')∧∀ cls d H',Z8r CF CW CN CT (ans x) cls d H'→E cls d H'
def spA(pre:ι→List V→Hp→Prop)(ans:ι→List Int)(f:Addr)(vs:List V):Sp:=fun us H Q _=>us=[.ref f]∧∃ x,pre x vs H∧(ans x).length≤sizeLine∧∀ H' u,H' u=some (.lst ((ans x).map V.int))→Q (.ref u) H'
theorem scAns:Z2e ["tell","fault"] ["tell"] (Z2b Z5G):=⟨rfl,rfl,rfl,by decide +kernel,rfl,by decide +kernel,by decide +kernel⟩
theorem okAns{fA f:Addr}{fdA fd:FuncData}{k:Nat}{vs:List V}(F:Fun K "answer" "answer" Z5G fA fdA)(T:TA4 K mg CF CW CN CT fF)(GL:FnOk P w K mg base (CXQ z P w) k f fd [] (spL CF CW CN CT pre ans vs))(hf:PySem.W.FnAt f base)
  (bL:Binds K fd [] [])(hpre:∀ x H H',L2.Same H H'→pre x vs H→pre x vs H'):FnOk P w K mg base CX0 (k+1) fA fdA ["tell"] (spA pre ans f vs):=by
 refine F.ok scAns (fun vs H Q E h=>?_) (fun cdv A outer s H vs' Q E hr h=>?_)
 ·rw [h.1];rfl
 ·obtain⟨rfl,x,hp,hln,h⟩:=h
  refine⟨_,Z2c (ps_try (W:=fun D cls d H'=>Z8r CF CW CN CT (ans x) cls d H'∧∀ H2 u,H2 u=some (.lst ((ans x).map V.int))→D.rt (.ref u) H2) rfl rfl rfl
   (fun pins E1 Ew hp=>Z2c (Z2k (pe_op op_cat (Z3n (Z1V (pe_gc rfl T.c0) Z2a)) (pe_tell (i:=0) GL hr hf bL hp))))
   (fun pins D H s ea T1 C d a hW=>?_)),?_⟩
  ·obtain⟨hW,hQ⟩:=hW
   rcases hW with⟨e,dx,r,p,w,rfl,hd,hq⟩ |⟨e,hq⟩ |⟨e,hq⟩ |⟨e,hq⟩
   ·cases e
    rw [hq]at hQ
    refine' hb_as (i:=1) a T.xc.k1 rfl rfl rfl rfl T.mF scAns.nd rfl rfl ?hs0 ?hE0
    case hs0=>exact fun ea=>Z2c (Z2k (Z3n (Z1V (pe_gc rfl T.c5) (Z1V (Z5Y K rfl (pv 1) rfl) (Z1V (Z5Y K rfl (pv 1) rfl) (Z1V (Z5Y K rfl (pv 1) rfl) Z2a))))))
    intro ea nea ned
    have h1:upd H ea (XE z ea CF dx) dx=some (.xd (xf r p w)):=by rw [Z1W ned.symm];exact hd
    exact⟨_,rfl,z,ea,CF,dx,_,_,rfl,Z1X,h1,T.xg,T.nw,xf_which _ _ _,_,rfl,z,ea,CF,dx,_,_,rfl,Z1X,h1,T.xg,T.nr,Z9g _ _ _,_,rfl,z,ea,CF,dx,_,_,rfl,Z1X,h1,T.xg,T.np,Z8f _ _ _,
     (by show 4≤sizeLine;decide),fun u hu=>hQ _ u Z1X⟩
   ·cases e
    rw [hq]at hQ
    refine Z4t a rfl T.mF T.xw.k1 T.xc.k1 T.fw ?_
    refine' Z8g a T.xw.k1 rfl rfl rfl rfl T.mW ?hs1 ?hE1
    case hs1=>exact fun ea=>Z2c (Z2k (Z3n (Z1V (pe_gc rfl T.c1) Z2a)))
    exact⟨(by show 1≤sizeLine;decide),fun u hu=>hQ _ u Z1X⟩
   ·cases e
    rw [hq]at hQ
    refine Z4t a rfl T.mF T.xn.k1 T.xc.k1 T.fn (Z4t a rfl T.mW T.xn.k1 T.xw.k1 T.wn ?_)
    refine' Z8g a T.xn.k1 rfl rfl rfl rfl T.mN ?hs2 ?hE2
    case hs2=>exact fun ea=>Z2c (Z2k (Z3n (Z1V (pe_gc rfl T.c2) Z2a)))
    exact⟨(by show 1≤sizeLine;decide),fun u hu=>hQ _ u Z1X⟩
   ·cases e
    rw [hq]at hQ
    refine Z4t a rfl T.mF T.xt.k1 T.xc.k1 T.ft (Z4t a rfl T.mW T.xt.k1 T.xw.k1 T.wt (Z4t a rfl T.mN T.xt.k1 T.xn.k1 T.nt ?_))
    refine' Z8g a T.xt.k1 rfl rfl rfl rfl T.mT ?hs3 ?hE3
    case hs3=>exact fun ea=>Z2c (Z2k (Z3n (Z1V (pe_gc rfl T.c6) Z2a)))
    exact⟨(by show 1≤sizeLine;decide),fun u hu=>hQ _ u Z1X⟩
  ·refine⟨(by show 1≤sizeLine;decide),fun l hl=>⟨rfl,rfl,x,hpre x _ _ (RD.Same.new hl) hp,fun H' t xs s1 nt ht e=>?_,fun cls d H' r=>⟨r,h⟩⟩⟩
   rw [e]at h hln
   refine⟨l,t,_,_,rfl,rfl,s1 _ _ Z1X,ht,?_,fun p hp=>h _ p Z1X⟩
   rw [Z0s]at hln
   simp only [Z0s,Z0Q,Z0c]
   omega
end
def spD{ι:Type}(PT:Addr)(ix:List Nat)(pre:ι→List V→Hp→Prop)(ans:ι→List Int):Sp:=fun us H Q _=>us.length=ix.length∧H PT=some (.tbl #[])∧∃ x vs,vs.length=ix.length∧(∀ (j i:Nat)(v:V),ix[j]?=some i→vs[j]?=some v→us[i]?=some v) ∧
 (∀ more,pre x vs (upd H PT (.tbl more)))∧(ans x).length≤sizeLine∧∀ H' p,H' p=some (.lst ((ans x).map V.int))→Q (.ref p) H'
theorem code_tab{K:Z0a}{x:Str}{c PT f:Addr}{oc:Value}{od:Option Addr}{fd:FuncData}{osl:Array (Option Value)}(h:PySem.W.tabIn K x=some (c,PT))(hn:PySem.W.nsIn K mainGlobals x=some (some (.ref f)))
  (lk:K.lookup f=some ⟨oc,od,.func fd,osl⟩):fd.code=.ref c:=by
 unfold PySem.W.tabIn at h
 rw [hn]at h
 dsimp only at h
 rw [lk]at h
 dsimp only at h
 split at h
 ·rename_i c2 hc
  split at h
  ·split at h
   ·cases h;exact hc
   ·cases h
  ·cases h
 ·cases h
def lamOf(st:Stmt):Arguments×Expr×Scope×Pos:=match Z2o st with
 |[.Return (some (.Call _ [.Lambda a b s p] _ _)) _]=>(a,b,s,p)
 |_=>(Z2P st,.Name "" ⟨0,0,0,0⟩,Z2b st,⟨0,0,0,0⟩)
abbrev Z4s(st:Stmt):Arguments:=(lamOf st).1
abbrev Z5c(st:Stmt):Expr:=(lamOf st).2.1
abbrev Z3g(st:Stmt):Scope:=(lamOf st).2.2.1
abbrev lamPos(st:Stmt):Pos:=(lamOf st).2.2.2
structure Z8P(st:Stmt)(ps M:List Str)(ix:List Nat):Prop where
 fs:Z2e ps ps (Z2b st)
 ls:Z6G M (Z3g st)
 body:∃ p1 p2 p3,Z2o st=[.Return (some (.Call (.Name "answer" p1) [.Lambda (Z4s st) (Z5c st) (Z3g st) (lamPos st)] [] p2)) p3]
 dft:∀ env,defaultsOf (Z4s st) env=([],[])
 cel:∀ y∈(Z3g st).names,y.2=.free→(Z2b st).names.lookup y.1=some .cell
 at_:∀ (j:Nat)(y:Str),M[j]?=some y→∃ i,ix[j]?=some i∧ps[i]?=some y
 len:ix.length=M.length
 uq:∀ y∈(Z3g st).names,(Z3g st).names.lookup y.1=some y.2
 gl:(Z2b st).names.lookup ("answer" : Str)=some .globalImplicit
 cb:∀ (qual:Str)(cl:List (Str×Addr))(pm cd ctv:Value),bindArgs (PySem.W.kla_fn "<lambda>" qual (Z4s st) (Z5c st) (Z3g st) cl pm cd ctv) ⟨[],[]⟩=pure []
section
variable{P:Program}{w:World}{K:Z0a}{mg:Str→Option Value}{base:Heap}{CF CW CN CT fF:Addr}{ι:Type}{pre:ι→List V→Hp→Prop}{ans:ι→List Int}{k:Nat}{nm:Str}{st:Stmt}{f fA c PT:Addr}{fd fdA:FuncData}{ps M:List Str}{ix:List Nat}
theorem okD(F:Fun K nm nm st f fd)(hcd:fd.code=.ref c)(S:Z8P st ps M ix)(hC:PySem.W.CodeHd base c PT)(hB:base.BuiltinsAt mg PT)
  (hm:mg "answer" = some (.ref fA))(hk:PySem.W.keepIn K (.ref fA)=true)(hb:Binds K fdA ["tell"] [])
  (GA:∀ (base:Heap)(f:Addr)(fd:FuncData)(cl:List (Str×Addr))(cd:Value)(vs:List V),K.In base→base.Ns mainGlobals mg→Lam base f fd (nm++".<locals>."++"<lambda>") (Z4s st) (Z5c st) (Z3g st) cl cd M vs →
    FnOk P w K mg base CX0 k fA fdA ["tell"] (spA pre ans f vs))(hix:ix.length=ps.length) :
  FnOk P w K mg base CX0 (k+1) f fd ps (spD PT ix pre ans):=by
 obtain⟨oc,od,kV,doc,pm,an,cdv,ct,osl,rfl,lk,hc⟩:=F.ex
 obtain rfl:cdv=.ref c:=hcd
 refine fn_of lk hc S.fs (fun vs H Q E h=>by rw [h.1,hix]) fun A outer s H us Q E hr h=>?_
 obtain⟨hl,hT,x,vs,hvl,hvs,hp,hln,hq⟩:=h
 obtain⟨p1,p2,p3,hbd⟩:=S.body
 rw [hbd]
 refine⟨_,Z2c (Z2k (pe_ans (ix:=ix) (spA:=spA pre ans) (CX:=CX0) (E:=E0) hC hB rfl rfl rfl rfl (fun _=>rfl) (S.dft _) S.ls S.cel S.at_ S.len S.uq S.gl hm hk hb hr (fun _ _ _ _ _ _ _ z=>z.elim) GA (by decide) rfl)),?_⟩
 refine⟨#[],vs,hT,rfl,by first |trivial |exact .nil |simp [TriplesOk] |decide,hvl,fun j i v e1 e2=>?_,fun f' more hf'=>⟨rfl,x,hp _,hln,hq⟩⟩
 have z:=hvs j i v e1 e2
 have hi:i<us.length:=(Z0p.mp z).1
 unfold L2.start
 rw [Z0W (by simpa using hi),Z0n,z]
 rfl
theorem bind_lam{qual:Str}{cl:List (Str×Addr)}{cd:Value}{vs:List V}(S:Z8P st ps M ix)(L:Lam base f fd qual (Z4s st) (Z5c st) (Z3g st) cl cd M vs):Binds K fd [] []:=by
 obtain⟨oc,od,sl,pm,ctv,rfl,_⟩:=L.ex
 exact .all fun us hl=>by
  obtain rfl:us=[]:=Z1E hl
  exact S.cb ..
theorem fnAt_lam{qual:Str}{cl:List (Str×Addr)}{cd:Value}{vs:List V}{a:Arguments}{b:Expr}{sc:Scope}(L:Lam base f fd qual a b sc cl cd M vs):PySem.W.FnAt f base:=by
 obtain⟨oc,od,sl,pm,ctv,_,e⟩:=L.ex
 exact⟨oc,od,_,sl,e⟩
end
end BK
end
section
namespace MX
open Classical in
noncomputable def cnt:Nat→(Nat→Prop)→Nat
 |0,_=>0
 |n+1,p=>cnt n p+if p n then 1 else 0
theorem Z4f{n:Nat}{p q:Nat→Prop}(h:∀ x,x<n→(p x↔q x)):cnt n p=cnt n q:=by
 induction n with
 |zero=>rfl
 |succ n ih =>
  unfold cnt
  rw [ih fun x hx=>h x (by omega)]
  have:=h n (by omega)
  by_cases q1:p n
  ·rw [if_pos q1,if_pos (this.mp q1)]
  ·rw [if_neg q1,if_neg fun z=>q1 (this.mpr z)]
open Classical in
theorem Z8t{n a:Nat}{p q:Nat→Prop}(ha:a<n)(hp:p a)(h:∀ x,q x↔p x∧x≠a):cnt n p=cnt n q+1:=by
 induction n with
 |zero=>omega
 |succ n ih =>
  unfold cnt
  by_cases e:n=a
  ·subst e
   rw [if_pos hp,if_neg (fun z=>((h n).mp z).2 rfl),Z4f (p:=p) (q:=q) fun x hx=>⟨fun z=>(h x).mpr ⟨z,by omega⟩,fun z=>((h x).mp z).1⟩]
  ·rw [ih (by omega)]
   have:(if p n then 1 else 0)=(if q n then 1 else 0):=by
    by_cases q1:p n
    ·rw [if_pos q1,if_pos ((h n).mpr ⟨q1,e⟩)]
    ·rw [if_neg q1,if_neg fun z=>q1 ((h n).mp z).1]
   rw [this]
   omega
theorem cnt_le(n:Nat)(p:Nat→Prop):cnt n p≤n:=by
 induction n with
 |zero=>exact Z0e _
 |succ n ih=>unfold cnt;split<;>omega
noncomputable def miss(s:S)(n:Nat):Nat:=cnt n (fun x=>¬ s.tn x 1)+cnt n (fun x=>¬ s.tn x (-1))
def S.allow(s:S)(x:Nat)(t:Int):S:={ s with tn:=fun z u=>s.tn z u∨(z=x∧u=t) }
theorem Z9T{s:S}{n x:Nat}{t:Int}(hx:x<n)(ht:t=1∨t=-1)(h:¬ s.tn x t):miss s n=miss (s.allow x t) n+1:=by
 unfold miss
 rcases ht with rfl |rfl
 ·rw [Z8t (p:=fun x=>¬ s.tn x 1) (q:=fun z=>¬ (s.allow x 1).tn z 1) hx h fun z=>?_,Z4f (p:=fun x=>¬ s.tn x (-1)) (q:=fun z=>¬ (s.allow x 1).tn z (-1)) fun z _=>?_]
  ·omega
  ·refine⟨fun a b=>?_,fun a b=>a (.inl b)⟩
   rcases b with b |⟨_,b⟩
   ·exact a b
   ·omega
  ·refine⟨fun a=>⟨fun b=>a (.inl b),fun b=>a (.inr ⟨b,rfl⟩)⟩,fun a b=>?_⟩
   rcases b with b |⟨b,_⟩
   ·exact a.1 b
   ·exact a.2 b
 ·rw [Z8t (p:=fun x=>¬ s.tn x (-1)) (q:=fun z=>¬ (s.allow x (-1)).tn z (-1)) hx h fun z=>?_,Z4f (p:=fun x=>¬ s.tn x 1) (q:=fun z=>¬ (s.allow x (-1)).tn z 1) fun z _=>?_]
  ·omega
  ·refine⟨fun a b=>?_,fun a b=>a (.inl b)⟩
   rcases b with b |⟨_,b⟩
   ·exact a b
   ·omega
  ·refine⟨fun a=>⟨fun b=>a (.inl b),fun b=>a (.inr ⟨b,rfl⟩)⟩,fun a b=>?_⟩
   rcases b with b |⟨b,_⟩
   ·exact a.1 b
   ·exact a.2 b
def cfI(s:S)(x:Nat):Int:=match s.cf x with
 |none=>-1
 |some w=>w
end MX
namespace BK
open PySem PySem.Spec PyProof.Rows L2 EX RD LM
structure SA where
 sr:Addr
 dx:Addr
 wl:Addr
 db:Addr
 cb:Addr
 cf:Addr
 tn:Addr
 wq:Addr
abbrev SA.mut(A:SA):List Addr:=[A.db,A.cb,A.cf,A.tn,A.wq]
def SA.flds(A:SA)(c:Nat):List (Str×V):=[("ways",.ref A.wl),("cut",.int (c:Int)),("bases",.ref A.db),("came_by",.ref A.cb),("came_from",.ref A.cf),("turns",.ref A.tn),("waiting",.ref A.wq)]
theorem sf_ways(A:SA)(c:Nat):(SA.flds A c).lookup ("ways" : Str)=some (.ref A.wl):=by
 unfold SA.flds;rw [Z0b,show(("ways" : Str)=="ways")=true by decide]
theorem sf_cut(A:SA)(c:Nat):(SA.flds A c).lookup ("cut" : Str)=some (.int (c:Int)):=by
 unfold SA.flds;rw [Z0b,show(("cut" : Str)=="ways")=false by decide,Z0b,show(("cut" : Str)=="cut")=true by decide]
theorem Z3h(A:SA)(c:Nat):(SA.flds A c).lookup ("bases" : Str)=some (.ref A.db):=by
 unfold SA.flds;rw [Z0b,show(("bases" : Str)=="ways")=false by decide,Z0b,show(("bases" : Str)=="cut")=false by decide,Z0b,show(("bases" : Str)=="bases")=true by decide]
theorem Z6V(A:SA)(c:Nat):(SA.flds A c).lookup ("came_by" : Str)=some (.ref A.cb):=by
 unfold SA.flds;rw [Z0b,show(("came_by" : Str)=="ways")=false by decide,Z0b,show(("came_by" : Str)=="cut")=false by decide,Z0b,show(("came_by" : Str)=="bases")=false by decide,Z0b,show(("came_by" : Str)=="came_by")=true by decide]
theorem Z5E(A:SA)(c:Nat):(SA.flds A c).lookup ("came_from" : Str)=some (.ref A.cf):=by
 unfold SA.flds;rw [Z0b,show(("came_from" : Str)=="ways")=false by decide,Z0b,show(("came_from" : Str)=="cut")=false by decide,Z0b,show(("came_from" : Str)=="bases")=false by decide,Z0b,show(("came_from" : Str)=="came_by")=false by decide,Z0b,show(("came_from" : Str)=="came_from")=true by decide]
theorem Z6s(A:SA)(c:Nat):(SA.flds A c).lookup ("turns" : Str)=some (.ref A.tn):=by
 unfold SA.flds;rw [Z0b,show(("turns" : Str)=="ways")=false by decide,Z0b,show(("turns" : Str)=="cut")=false by decide,Z0b,show(("turns" : Str)=="bases")=false by decide,Z0b,show(("turns" : Str)=="came_by")=false by decide,Z0b,show(("turns" : Str)=="came_from")=false by decide,Z0b,show(("turns" : Str)=="turns")=true by decide]
theorem Z5q(A:SA)(c:Nat):(SA.flds A c).lookup ("waiting" : Str)=some (.ref A.wq):=by
 unfold SA.flds;rw [Z0b,show(("waiting" : Str)=="ways")=false by decide,Z0b,show(("waiting" : Str)=="cut")=false by decide,Z0b,show(("waiting" : Str)=="bases")=false by decide,Z0b,show(("waiting" : Str)=="came_by")=false by decide,Z0b,show(("waiting" : Str)=="came_from")=false by decide,Z0b,show(("waiting" : Str)=="turns")=false by decide,Z0b,show(("waiting" : Str)=="waiting")=true by decide]
theorem sf_no(A:SA)(c:Nat){m:Str}(h0:(m=="ways")=false)(h1:(m=="cut")=false)(h2:(m=="bases")=false)(h3:(m=="came_by")=false)(h4:(m=="came_from")=false)(h5:(m=="turns")=false)(h6:(m=="waiting")=false):(SA.flds A c).lookup m=none:=by
 unfold SA.flds;rw [Z0b,h0,Z0b,h1,Z0b,h2,Z0b,h3,Z0b,h4,Z0b,h5,Z0b,h6];rfl
def Frm(A:SA)(H H':Hp):Prop:=∀ b o,H b=some o→b∉A.mut→H' b=some o
theorem Frm.refl(A:SA)(H:Hp):Frm A H H:=fun _ _ h _=>h
theorem Frm.trans{A:SA}{H H1 H2:Hp}(a:Frm A H H1)(b:Frm A H1 H2):Frm A H H2:=fun c o h n=>b c o (a c o h n) n
theorem Frm.new{A:SA}{H H1:Hp}{b:Addr}{o:HO}(h:Frm A H H1)(n:H1 b=none):Frm A H (upd H1 b o):=fun c o' e hc=>by
 have e1:=h c o' e hc
 rw [Z1W (Z1Z e1 n)];exact e1
theorem Frm.upd{A:SA}{H H1:Hp}{b:Addr}{o:HO}(h:Frm A H H1)(hb:b∈A.mut):Frm A H (L2.upd H1 b o):=fun c o' e hc=>by
 rw [Z1W (fun z=>hc (by rw [z];exact hb))];exact h c o' e hc
structure Bas(s:MX.S)(kvs:List (Key×V)):Prop where
 mid:valV kvs (.inl (-1))=some (.int (-1))
 at_:∀ x:Nat,s.re x→∃ y:Nat,valV kvs (.inl (x:Int))=some (.int (y:Int))∧s.re y∧s.root y=s.root x∧(y=x↔s.root x=x)∧(y≠x→s.rk y<s.rk x)
 no:∀ x:Nat,¬ s.re x→valV kvs (.inl (x:Int))=none
structure Rep(CS:Addr)(n:Nat)(H:Hp)(A:SA)(c:Nat)(s:MX.S)(q:List (Nat×Int))(N M:Nat):Prop where
 obj:H A.sr=some (.ins CS A.dx (A.flds c))
 bas:∃ kvs,H A.db=some (.dK kvs)∧Bas s kvs∧kvs.length≤M
 cby:∃ kvs:List (Key×V),H A.cb=some (.dK kvs)∧(∀ x,s.re x→valV kvs (.inl (x:Int))=some (.int (s.cb x:Int)))∧kvs.length≤M
 cfr:∃ kvs:List (Key×V),H A.cf=some (.dK kvs)∧(∀ x,s.re x→valV kvs (.inl (x:Int))=some (.int (MX.cfI s x)))∧kvs.length≤M
 trn:∃ kvs:List (List Key×V),H A.tn=some (.dT kvs)∧(∀ (x:Nat)(t:Int),(valV kvs [.inl (x:Int),.inl t]).isSome=true↔s.tn x t)∧kvs.length≤N
 wat:∃ ts,H A.wq=some (.lst (ts.map V.ref))∧Tups H ts (q.map fun p=>[(p.1:Int),p.2])
 qle:q.length≤N
 bud:N+MX.miss s n≤2*n+3
 mle:M≤400
 nn:n≤128
 nd:A.mut.Nodup
theorem Rep.small{CS n:Nat}{H:Hp}{A:SA}{c:Nat}{s:MX.S}{q:List (Nat×Int)}{N M:Nat}(r:Rep CS n H A c s q N M):N<300:=by
 have:=r.bud
 have:=r.nn
 omega
section
variable{CS n:Nat}{H H':Hp}{A:SA}{c:Nat}{s s':MX.S}{q:List (Nat×Int)}{N M:Nat}
theorem Rep.sr_mut(r:Rep CS n H A c s q N M):A.sr∉A.mut:=fun h=>by
 have ho:=r.obj
 obtain⟨_,a1,_⟩:=r.bas
 obtain⟨_,a2,_⟩:=r.cby
 obtain⟨_,a3,_⟩:=r.cfr
 obtain⟨_,a4,_⟩:=r.trn
 obtain⟨_,a5,_⟩:=r.wat
 simp only [Z0d,Z0w,or_false]at h
 rcases h with h |h |h |h |h<;>rw [h]at ho
 ·rw [a1]at ho;cases ho
 ·rw [a2]at ho;cases ho
 ·rw [a3]at ho;cases ho
 ·rw [a4]at ho;cases ho
 ·rw [a5]at ho;cases ho
theorem Rep.new(r:Rep CS n H A c s q N M){b:Addr}{o:HO}(hb:H b=none):Rep CS n (upd H b o) A c s q N M:=by
 have k:∀ {a:Addr}{u:HO},H a=some u→upd H b o a=some u:=fun e=>by rw [Z1W (Z1Z e hb)];exact e
 obtain⟨_,a1,b1⟩:=r.bas
 obtain⟨_,a2,b2⟩:=r.cby
 obtain⟨_,a3,b3⟩:=r.cfr
 obtain⟨_,a4,b4⟩:=r.trn
 obtain⟨_,a5,b5⟩:=r.wat
 exact⟨k r.obj,⟨_,k a1,b1⟩,⟨_,k a2,b2⟩,⟨_,k a3,b3⟩,⟨_,k a4,b4⟩,⟨_,k a5,b5.same fun c xs e=>k e⟩,r.qle,r.bud,r.mle,r.nn,r.nd⟩
theorem Rep.setBas(r:Rep CS n H A c s q N M){kvs:List (Key×V)}(h:Bas s' kvs)(hl:kvs.length≤M)(e1:s'.re=s.re)(e2:s'.cb=s.cb)(e3:s'.cf=s.cf)(e4:s'.tn=s.tn):Rep CS n (upd H A.db (.dK kvs)) A c s' q N M:=by
 have nd:=r.nd
 simp only [Z0L,Z0d,Z0w,or_false,not_or]at nd
 obtain⟨⟨n1,n2,n3,n4⟩,_⟩:=nd
 obtain⟨_,a1,b1⟩:=r.bas
 obtain⟨_,a2,b2,l2⟩:=r.cby
 obtain⟨_,a3,b3,l3⟩:=r.cfr
 obtain⟨_,a4,b4,l4⟩:=r.trn
 obtain⟨_,a5,b5⟩:=r.wat
 refine⟨by rw [Z1W (ne_of r.obj a1 (by intro z;cases z))];exact r.obj,⟨_,Z1X,h,hl⟩,⟨_,by rw [Z1W (Ne.symm n1)];exact a2,by rw [e1,e2];exact b2,l2⟩,⟨_,by rw [Z1W (Ne.symm n2)];exact a3,?_,l3⟩,⟨_,by rw [Z1W (Ne.symm n3)];exact a4,by rw [e4];exact b4,l4⟩,
  ⟨_,by rw [Z1W (Ne.symm n4)];exact a5,b5.same fun c xs e=>by rw [Z1W (ne_of e a1 (by intro z;cases z))];exact e⟩,r.qle,?_,r.mle,r.nn,r.nd⟩
 ·intro x hx
  rw [e1]at hx
  have:=b3 x hx
  unfold MX.cfI at this ⊢
  rw [e3];exact this
 ·have:=r.bud
  unfold MX.miss at this ⊢
  rw [e4];exact this
end
structure TS7(K:Z0a)(mg:Str→Option Value)(CS:Addr):Prop where
 cl:Cls K CS
 nw:NoAttr K CS "ways"
 nc:NoAttr K CS "cut"
 nb:NoAttr K CS "bases"
 ny:NoAttr K CS "came_by"
 nf:NoAttr K CS "came_from"
 nt:NoAttr K CS "turns"
 nq:NoAttr K CS "waiting"
 up:∃ u,mg "UP" = some u∧RelV (.int 1) u
 dn:∃ u,mg "DOWN" = some u∧RelV (.int (-1)) u
 md:∃ u,mg "MIDDLE" = some u∧RelV (.int (-1)) u
theorem Z7V{κ:Type}[DecidableEq κ]{kvs:List (κ×V)}{k:κ}{v:V}(h:(valV kvs k).isSome=true):(putK kvs k v).length=kvs.length:=by
 unfold putK
 rw [Z4A,if_pos h,Z0c]
theorem Z2N{a b:Int}:((Sum.inl a:Key)=Sum.inl b)↔a=b:=⟨fun h=>Sum.inl.inj h,fun h=>by rw [h]⟩
theorem Bas.put{s:MX.S}{kvs:List (Key×V)}(h:Bas s kvs){x y:Nat}(hy:s.re y)(hr:s.root y=s.root x)(h1:y=x↔s.root x=x)(h2:y≠x→s.rk y<s.rk x)(hx:s.re x):Bas s (putK kvs (.inl (x:Int)) (.int (y:Int))):=by
 refine⟨?_,fun z hz=>?_,fun z hz=>?_⟩
 ·rw [Z2s,if_neg (by rw [Z2N];omega)];exact h.mid
 ·rw [Z2s]
  by_cases q:z=x
  ·subst q
   rw [if_pos rfl]
   exact⟨y,rfl,hy,hr,h1,h2⟩
  ·rw [if_neg (by rw [Z2N];omega)]
   exact h.at_ z hz
 ·rw [Z2s,if_neg (by rw [Z2N];intro q;apply hz;have:z=x:=(by omega);rw [this];exact hx)]
  exact h.no z hz
section
variable{P:Program}{w:World}{K:Z0a}{mg:Str→Option Value}{base:Heap}{CS:Addr}
def BaseIs(s:MX.S)(x r:Int):Prop:=(x=-1∧r=-1)∨∃ a:Nat,x=a∧s.re a∧r=s.root a
def Z8D(CS:Addr):Sp:=fun vs H Q _=>∃ (A:SA)(n c N M:Nat)(s:MX.S)(q:List (Nat×Int))(x r:Int),vs=[.ref A.sr,.int x]∧Rep CS n H A c s q N M∧BaseIs s x r∧∀ H',Frm A H H'→Rep CS n H' A c s q N M→Q (.int r) H'
theorem scBase:Z2e ["self","atom"] ["self","atom"] (Z2b Z3u):=⟨rfl,rfl,rfl,by decide +kernel,rfl,by decide +kernel,by decide +kernel⟩
theorem okBase{f:Addr}{fd:FuncData}(F:Fun K "base_of" "Search.base_of" Z3u f fd)(T:TS7 K mg CS):FnOk P w K mg base CX0 1 f fd ["self","atom"] (Z8D CS):=by
 refine F.ok scBase (fun vs H Q E h=>?_) (fun cdv A' outer s' H vs Q E hr h=>?_)
 ·obtain⟨A,n,c,N,M,s,q,x,r,rfl,_⟩:=h
  rfl
 ·obtain⟨A,n,c,N,M,s,q,x,r,rfl,R,hx,k⟩:=h
  have hu:=hu_of hr
  refine⟨_,Z1Y (Z4y PassesOwn.never (Z2p op_ne (Z3I hu (Z2d (pv 0) rfl) (pv 1) (fun _ _=>rfl)) (pv 1) (Z2n _))
    (Z1Y (Z3T hu (Z2d (pv 0) rfl) (pv 1) (Z3I hu (Z2d (pv 0) rfl) (Z3I hu (Z2d (pv 0) rfl) (pv 1) (fun _ _=>rfl)) (fun _ _=>rfl)) rfl)
    (Z2c (Z2h (i:=1) scBase.nd rfl (Or.inl rfl) (Z3I hu (Z2d (pv 0) rfl) (pv 1) (fun _ _=>rfl))))))
   (Z2c (Z2k (pv 1))),?_⟩
  refine Z5u (fun σ H'=>∃ y:Int,σ=[some (.ref A.sr),some (.int y)]∧Frm A H H'∧Rep CS n H' A c s q N M∧BaseIs s y r) (fun σ _=>match σ with |[_,some (.int y)]=>s.rk y.toNat |_=>0) ⟨x,rfl,Frm.refl _ _,R,hx⟩ ?_ ?_
  ·rintro σ H1 ⟨y,rfl,fr,R1,hy⟩
   obtain⟨kvs,hb,B,hl⟩:=R1.bas
   have g:∀ z:Int,DGet H1 A.db (.int z) (valV kvs (.inl z)):=fun z=>DGet.k (k:=.inl z) hb
   rcases hy with⟨rfl,rfl⟩ |⟨a,rfl,ra,rfl⟩
   ·refine⟨_,rfl,A.sr,CS,A.dx,_,_,rfl,R1.obj,T.cl,T.nb,Z3h _ _,_,rfl,A.db,.int (-1),rfl,by rw [←B.mid];exact g _,_,rfl,rfl,_,rfl,ite2 (fun hc=>?_) (fun hc=>?_)⟩
    ·simp at hc
    ·exact⟨_,rfl,k H1 fr R1⟩
   ·obtain⟨y1,v1,r1,e1,i1,l1⟩:=B.at_ a ra
    refine⟨_,rfl,A.sr,CS,A.dx,_,_,rfl,R1.obj,T.cl,T.nb,Z3h _ _,_,rfl,A.db,.int y1,rfl,by rw [←v1];exact g _,_,rfl,rfl,_,rfl,ite2 (fun hc=>?_) (fun hc=>?_)⟩
    ·have hne:y1≠a:=fun z=>by simp [z]at hc
     obtain⟨y2,v2,r2,e2,i2,l2⟩:=B.at_ y1 r1
     have rk2:s.rk y2<s.rk a:=by
      by_cases z:y2=y1
      ·rw [z];exact l1 hne
      ·exact Z0O (l2 z) (l1 hne)
     have n2:y2≠a:=fun z=>by rw [z]at rk2;exact Z0u _ rk2
     have ra1:s.root a≠a:=fun z=>hne (i1.mpr z)
     have B2:Bas s (putK kvs (.inl (a:Int)) (.int (y2:Int))):=B.put r2 (e2.trans e1) ⟨fun z=>absurd z n2,fun z=>absurd z ra1⟩ (fun _=>rk2) ra
     have l2':(putK kvs (.inl (a:Int)) (.int (y2:Int))).length≤M:=by rw [Z7V (by rw [v1];rfl)];exact hl
     have R2:=R1.setBas (s':=s) B2 l2' rfl rfl rfl rfl
     refine⟨_,rfl,A.sr,CS,A.dx,_,_,rfl,R1.obj,T.cl,T.nb,Z3h _ _,_,rfl,A.sr,CS,A.dx,_,_,rfl,R1.obj,T.cl,T.nb,Z3h _ _,_,rfl,A.db,.int y1,rfl,by rw [←v1];exact g _,A.db,.int y2,rfl,by rw [←v2];exact g _,
      _,rfl,A.sr,CS,A.dx,_,_,rfl,R1.obj,T.cl,T.nb,Z3h _ _,_,rfl,A.db,_,rfl,DPut.k (k:=.inl (a:Int)) hb (by rw [sizeLine_eq];have:=R1.mle;omega),?_⟩
     have g2:DGet (upd H1 A.db (.dK (putK kvs (.inl (a:Int)) (.int (y2:Int))))) A.db (.int (a:Int)) (some (.int (y2:Int))):=by
      have:=DGet.k (k:=.inl (a:Int)) (Z1X (H:=H1) (a:=A.db) (o:=.dK (putK kvs (.inl (a:Int)) (.int (y2:Int)))))
      rw [Z2s,if_pos rfl]at this
      exact this
     refine⟨_,rfl,A.sr,CS,A.dx,_,_,rfl,R2.obj,T.cl,T.nb,Z3h _ _,_,rfl,A.db,.int y2,rfl,g2,?_⟩
     refine⟨⟨y2,rfl,fr.upd (by simp),R2,.inr ⟨y2,rfl,r2,by rw [e2.trans e1]⟩⟩,?_⟩
     show s.rk ((y2:Int)).toNat<s.rk ((a:Int)).toNat
     simpa using rk2
    ·have he:y1=a:=by
      by_cases z:y1=a
      ·exact z
      ·exact absurd (show _=true by simp;omega) hc
     refine⟨_,rfl,?_⟩
     rw [i1.mp he]at k
     exact k H1 fr R1
  ·rintro σ H1 Q1 Q2 hq ⟨v,e,a,C,dx,fs,v',h1,h2,h3,h4,h5,v2,h6,d,v3,h7,h8,v4,h9,h10,b',h11,q'⟩
   exact⟨v,e,a,C,dx,fs,v',h1,h2,h3,h4,h5,v2,h6,d,v3,h7,h8,v4,h9,h10,b',h11,hq _ _ q'⟩
end
section
variable{P:Program}{w:World}{K:Z0a}{mg:Str→Option Value}{base:Heap}{CS:Addr}
def BefIs(s:MX.S)(z r:Int):Prop:=(z=-1∧r=-1)∨∃ a:Nat,z=a∧s.re a∧(∀ w,s.cf a=some w→s.re w)∧r=(match s.up a with |none=>(-1:Int) |some y=>(y:Int))
def spBef(CS:Addr):Sp:=fun vs H Q _=>∃ (A:SA)(n c N M:Nat)(s:MX.S)(q:List (Nat×Int))(x r:Int),vs=[.ref A.sr,.int x]∧Rep CS n H A c s q N M∧BefIs s x r∧∀ H',Frm A H H'→Rep CS n H' A c s q N M→Q (.int r) H'
theorem scBef:Z2e ["self","base"] ["self","base"] (Z2b Z3c):=⟨rfl,rfl,rfl,by decide +kernel,rfl,by decide +kernel,by decide +kernel⟩
theorem okBef{f fB:Addr}{fd fdB:FuncData}(F:Fun K "base_before" "Search.base_before" Z3c f fd)(T:TS7 K mg CS)(GB:FnOk P w K mg base CX0 1 fB fdB ["self","atom"] (Z8D CS))(mB:Meth K CS "base_of" fB)(bB:Binds K fdB ["self","atom"] []) :
  FnOk P w K mg base CX0 2 f fd ["self","base"] (spBef CS):=by
 refine F.ok scBef (fun vs H Q E h=>?_) (fun cdv A' outer s' H vs Q E hr h=>?_)
 ·obtain⟨A,n,c,N,M,s,q,x,r,rfl,_⟩:=h
  rfl
 ·obtain⟨A,n,c,N,M,s,q,x,r,rfl,R,hx,k⟩:=h
  have hu:=hu_of hr
  refine⟨_,Z2c (Z2k (pe_ifExp (Z2p op_eq (pv 1) (pe_gc rfl T.md) (Z2n _)) (pe_gc rfl T.md) (Z2j (pv 0) T.cl mB GB hr bB .nil pass0 (Z1V (Z3I hu (Z2d (pv 0) rfl) (pv 1) (fun _ _=>rfl)) Z2a)))),?_⟩
  refine⟨_,rfl,rfl,_,rfl,ite2 (fun hc=>?_) (fun hc=>?_)⟩
  ·have e:x=-1:=by simpa using hc
   have er:r=-1:=by
    rcases hx with⟨_,z⟩ |⟨a,z,_⟩
    ·exact z
    ·omega
   rw [er]at k
   exact k H (Frm.refl _ _) R
  ·have e:x≠-1:=fun z=>hc (by simp [z])
   rcases hx with⟨z,_⟩ |⟨a,rfl,ra,hw,er⟩
   ·exact absurd z e
   ·obtain⟨kvs,hb,hv,hl⟩:=R.cfr
    have g:DGet H A.cf (.int (a:Int)) (some (.int (MX.cfI s a))):=by rw [←hv a ra];exact DGet.k (k:=.inl (a:Int)) hb
    refine⟨_,rfl,A.sr,A.dx,_,rfl,R.obj,sf_no _ _ (by decide) (by decide) (by decide) (by decide) (by decide) (by decide) (by decide),_,rfl,A.sr,CS,A.dx,_,_,rfl,R.obj,T.cl,T.nf,Z5E _ _,_,rfl,A.cf,_,rfl,g,A,n,c,N,M,s,q,MX.cfI s a,r,rfl,R,?_,k⟩
    unfold MX.cfI
    unfold MX.S.up at er
    cases ec:s.cf a with
    |none=>rw [ec]at er;exact .inl ⟨rfl,er⟩
    |some w=>rw [ec]at er;exact .inr ⟨w,rfl,hw w ec,er⟩
def Z7k(CS:Addr):Sp:=fun vs H Q _=>∃ (A:SA)(n c N M:Nat)(s:MX.S)(q:List (Nat×Int))(x:Nat)(t:Int),vs=[.ref A.sr,.int (x:Int),.int t]∧Rep CS n H A c s q N M∧x<n∧(t=1∨t=-1) ∧
 ∀ H' q' N',Frm A H H'→Rep CS n H' A c (s.allow x t) q' N' M→(s.tn x t→q'=q)→(¬ s.tn x t→q'=q++[(x,t)]∧N'=N+1)→N≤N'→Q .non H'
theorem scAllow:Z2e ["self","atom","turn"] ["self","atom","turn"] (Z2b Z3Q):=⟨rfl,rfl,rfl,by decide +kernel,rfl,by decide +kernel,by decide +kernel⟩
theorem Z7y{s:MX.S}{x:Nat}{t:Int}(h:s.tn x t):s.allow x t=s:=by
 unfold MX.S.allow
 have:(fun z u=>s.tn z u∨(z=x∧u=t))=s.tn:=by
  funext z u
  exact propext ⟨fun q=>q.elim id fun⟨a,b⟩=>by rw [a,b];exact h,.inl⟩
 rw [this]
theorem okAllow{f:Addr}{fd:FuncData}(F:Fun K "allow" "Search.allow" Z3Q f fd)(T:TS7 K mg CS):FnOk P w K mg base CX0 1 f fd ["self","atom","turn"] (Z7k CS):=by
 refine F.ok scAllow (fun vs H Q E h=>?_) (fun cdv A' outer s' H vs Q E hr h=>?_)
 ·obtain⟨A,n,c,N,M,s,q,x,t,rfl,_⟩:=h
  rfl
 ·obtain⟨A,n,c,N,M,s,q,x,t,rfl,R,hx,ht,k⟩:=h
  have hu:=hu_of hr
  refine⟨_,Z2c (ps_if (Z6I (Z5I hu (Z4i (Z1V (pv 1) (Z1V (pv 2) Z2a))) (Z2d (pv 0) rfl)))
    (Z1Y (Z3T hu (Z2d (pv 0) rfl) (Z4i (Z1V (pv 1) (Z1V (pv 2) Z2a))) pe_bl rfl)
    (Z2c (Z2r (pe_bm Z1g Z1F Z1G Z4R (Z2d (pv 0) rfl) (Z1V (Z4i (Z1V (pv 1) (Z1V (pv 2) Z2a))) Z2a))))) Z2w),?_⟩
  obtain⟨kvs,hb,hv,hl⟩:=R.trn
  refine⟨_,rfl,_,rfl,(by show 2≤sizeLine;decide),fun u1 hu1=>?_⟩
  have R1:=R.new (o:=.tup [.int (x:Int),.int t]) hu1
  have f1:Frm A H (upd H u1 (.tup [.int (x:Int),.int t])):=(Frm.refl _ _).new hu1
  have hb1:upd H u1 (.tup [.int (x:Int),.int t]) A.tn=some (.dT kvs):=by rw [Z1W (Z1Z hb hu1)];exact hb
  refine⟨_,rfl,A.sr,CS,A.dx,_,_,rfl,R1.obj,T.cl,T.nt,Z6s _ _,A.tn,_,rfl,DGet.t (k:=[.inl (x:Int),.inl t]) hb1 Z1X,_,rfl,ite2 (fun hc=>?_) (fun hc=>?_)⟩
  ·have hs:(valV kvs [.inl (x:Int),.inl t])=none:=by
    cases z:valV kvs [.inl (x:Int),.inl t]with
    |none=>rfl
    |some v=>rw [z]at hc;cases hc
   have hold:¬ s.tn x t:=fun z=>by have:=(hv x t).mpr z;rw [hs]at this;cases this
   refine⟨_,rfl,A.sr,CS,A.dx,_,_,rfl,R1.obj,T.cl,T.nt,Z6s _ _,_,rfl,_,rfl,(by show 2≤sizeLine;decide),fun u2 hu2=>?_⟩
   have R2:=R1.new (o:=.tup [.int (x:Int),.int t]) hu2
   have f2:=f1.new (o:=.tup [.int (x:Int),.int t]) hu2
   have hb2:upd (upd H u1 (.tup [.int (x:Int),.int t])) u2 (.tup [.int (x:Int),.int t]) A.tn=some (.dT kvs):=by rw [Z1W (Z1Z hb1 hu2)];exact hb1
   have sm:=R.small
   refine⟨A.tn,_,rfl,DPut.t (k:=[.inl (x:Int),.inl t]) hb2 Z1X (by rw [sizeLine_eq];omega),?_⟩
   generalize hH2:upd (upd H u1 (.tup [.int (x:Int),.int t])) u2 (.tup [.int (x:Int),.int t])=H2 at *
   obtain⟨ts,hq,hT⟩:=R2.wat
   have nd:=R.nd
   have nqt:A.wq≠A.tn:=fun z=>by rw [z,hb2]at hq;cases hq
   have nst:A.sr≠A.tn:=ne_of R2.obj hb2 (by intro z;cases z)
   have ho3:upd H2 A.tn (.dT (putK kvs [.inl (x:Int),.inl t] (.bl true))) A.sr=some (.ins CS A.dx (A.flds c)):=by rw [Z1W nst];exact R2.obj
   have hq3:upd H2 A.tn (.dT (putK kvs [.inl (x:Int),.inl t] (.bl true))) A.wq=some (.lst (ts.map V.ref)):=by rw [Z1W nqt];exact hq
   refine⟨_,rfl,A.sr,CS,A.dx,_,_,rfl,ho3,T.cl,T.nq,Z5q _ _,.inl ⟨rfl,_,SqL.of hq3⟩,_,rfl,_,rfl,(by show 2≤sizeLine;decide),fun u3 hu3=>?_⟩
   have hq4:upd (upd H2 A.tn (.dT (putK kvs [.inl (x:Int),.inl t] (.bl true)))) u3 (.tup [.int (x:Int),.int t]) A.wq=some (.lst (ts.map V.ref)):=by rw [Z1W (Z1Z hq3 hu3)];exact hq3
   have hql:=R.qle
   have htl:ts.length=q.length:=by have:=hT.1;rw [Z0c]at this;exact this
   refine⟨A.wq,_,_,rfl,rfl,hq4,(by rw [Z0c,sizeLine_eq];omega),?_⟩
   have nu:∀ {b:Addr}{o:HO},upd H2 A.tn (.dT (putK kvs [.inl (x:Int),.inl t] (.bl true))) b=some o→b≠u3:=fun e=>Z1Z e hu3
   have keep:∀ {b:Addr}{o:HO},H2 b=some o→b≠A.tn→b≠A.wq→upd (upd (upd H2 A.tn (.dT (putK kvs [.inl (x:Int),.inl t] (.bl true)))) u3 (.tup [.int (x:Int),.int t])) A.wq (.lst (ts.map V.ref++[.ref u3])) b=some o:=fun{b o} e n1 n2=>by
    have e1:upd H2 A.tn (.dT (putK kvs [.inl (x:Int),.inl t] (.bl true))) b=some o:=by rw [Z1W n1];exact e
    rw [Z1W n2,Z1W (nu e1)];exact e1
   have keepT:∀ b xs,H2 b=some (.tup xs)→upd (upd (upd H2 A.tn (.dT (putK kvs [.inl (x:Int),.inl t] (.bl true)))) u3 (.tup [.int (x:Int),.int t])) A.wq (.lst (ts.map V.ref++[.ref u3])) b=some (.tup xs):=fun b xs e =>
    keep e (ne_of e hb2 (by intro z;cases z)) (ne_of e hq (by intro z;cases z))
   have tnu3:A.tn≠u3:=nu Z1X
   refine k _ (q++[(x,t)]) (N+1) ?_ ?_ (fun z=>absurd z hold) (fun _=>⟨rfl,rfl⟩) (Nat.le_succ _)
   ·exact((f2.upd (by simp)).new hu3).upd (by simp)
   ·obtain⟨k1,a1,b1,l1⟩:=R2.bas
    obtain⟨k2,a2,b2,l2⟩:=R2.cby
    obtain⟨k3,a3,b3,l3⟩:=R2.cfr
    simp only [Z0L,Z0d,Z0w,or_false,not_or]at nd
    obtain⟨⟨n1,n2,n3,n4⟩,⟨n5,n6,n7⟩,⟨n8,n9⟩,_⟩:=nd
    refine⟨keep R2.obj nst (ne_of R2.obj hq (by intro z;cases z)),⟨k1,keep a1 n3 n4,⟨b1.mid,b1.at_,b1.no⟩,l1⟩,⟨k2,keep a2 n6 n7,b2,l2⟩,⟨k3,keep a3 n8 n9,b3,l3⟩,⟨putK kvs [.inl (x:Int),.inl t] (.bl true),?_,fun z u=>?_,?_⟩,⟨ts++[u3],?_,?_⟩,?_,?_,R.mle,R.nn,R.nd⟩
    ·rw [Z1W (Ne.symm nqt),Z1W tnu3,Z1X]
    ·rw [Z2s]
     by_cases e:(([.inl (z:Int),.inl u]:List Key)=[.inl (x:Int),.inl t])
     ·rw [if_pos e]
      injection e with e1 e2
      injection e2 with e2 _
      have e1:=Sum.inl.inj e1
      have e2:=Sum.inl.inj e2
      refine⟨fun _=>.inr ⟨by omega,e2⟩,fun _=>rfl⟩
     ·rw [if_neg e,hv z u]
      refine⟨.inl,fun h=>h.elim id fun⟨h1,h2⟩=>absurd (by rw [h1,h2]) e⟩
    ·have:=Z2z kvs [.inl (x:Int),.inl t] (.bl true)
     omega
    ·rw [Z1X,Z0D];rfl
    ·rw [Z0D]
     refine Tups.snoc (hT.same keepT) ?_
     rw [Z1W (fun z=>by rw [z]at hu3;rw [hu3]at hq3;cases hq3),Z1X]
     rfl
    ·rw [Z0A];show q.length+1≤N+1;omega
    ·have:=R.bud
     have:=MX.Z9T hx ht hold
     omega
  ·have hold:s.tn x t:=by
    refine(hv x t).mp ?_
    cases z:valV kvs [.inl (x:Int),.inl t]with
    |none=>rw [z]at hc;exact absurd rfl hc
    |some v=>rfl
   refine k _ q N f1 ?_ (fun _=>rfl) (fun z=>absurd hold z) (Z0e _)
   rw [Z7y hold]
   exact R1
end
def Ext(s:MX.S)(q:List (Nat×Int))(s':MX.S)(q':List (Nat×Int)):Prop:=∃ r,q'=q++r∧(∀ x t,s'.tn x t↔s.tn x t∨(x,t)∈r)∧(∀ p∈r,¬ s.tn p.1 p.2)∧r.Nodup
theorem Ext.refl(s:MX.S)(q:List (Nat×Int)):Ext s q s q:=⟨[],by simp,fun x t=>by simp,fun p hp=>by simp at hp,Z1B⟩
theorem Ext.trans{s s1 s2:MX.S}{q q1 q2:List (Nat×Int)}(a:Ext s q s1 q1)(b:Ext s1 q1 s2 q2):Ext s q s2 q2:=by
 obtain⟨r,rfl,h,n1,d1⟩:=a
 obtain⟨r',rfl,h',n2,d2⟩:=b
 refine⟨r++r',by simp,fun x t=>?_,fun p hp=>?_,?_⟩
 ·rw [h',h,Z0k,or_assoc]
 ·rcases Z0k.mp hp with hp |hp
  ·exact n1 p hp
  ·exact fun z=>n2 p hp ((h p.1 p.2).mpr (.inl z))
 ·exact Z1h.mpr ⟨d1,d2,fun a ha b hb z=>n2 b hb ((h b.1 b.2).mpr (.inr (by rw [←z];exact ha)))⟩
theorem Ext.tn{s s1 s2:MX.S}{q q1:List (Nat×Int)}(a:Ext s q s1 q1)(h:s2.tn=s1.tn):Ext s q s2 q1:=by
 obtain⟨r,e,k,n,d⟩:=a
 exact⟨r,e,fun x t=>by rw [h];exact k x t,n,d⟩
theorem Ext.allow{s:MX.S}{q q':List (Nat×Int)}{x N N':Nat}{t:Int}(h1:s.tn x t→q'=q)(h2:¬ s.tn x t→q'=q++[(x,t)]∧N'=N+1):Ext s q (s.allow x t) q':=by
 by_cases h:s.tn x t
 ·rw [h1 h,Z7y h];exact Ext.refl _ _
 ·refine⟨[(x,t)],(h2 h).1,fun z u=>?_,fun p hp=>by rw [Z0i.mp hp];exact h,by simp⟩
  show s.tn z u∨(z=x∧u=t)↔_
  simp
theorem Rep.congr{CS n:Nat}{H:Hp}{A:SA}{c:Nat}{s s':MX.S}{q:List (Nat×Int)}{N M:Nat}(r:Rep CS n H A c s q N M)(e1:s'.re=s.re)(e2:s'.root=s.root)(e3:s'.rk=s.rk)(e4:s'.cb=s.cb)(e5:s'.cf=s.cf)(e6:s'.tn=s.tn) :
  Rep CS n H A c s' q N M:=by
 obtain⟨k1,a1,b1,l1⟩:=r.bas
 obtain⟨k2,a2,b2,l2⟩:=r.cby
 obtain⟨k3,a3,b3,l3⟩:=r.cfr
 obtain⟨k4,a4,b4,l4⟩:=r.trn
 refine⟨r.obj,⟨k1,a1,⟨b1.mid,fun x hx=>?_,fun x hx=>?_⟩,l1⟩,⟨k2,a2,fun x hx=>?_,l2⟩,⟨k3,a3,fun x hx=>?_,l3⟩,⟨k4,a4,fun x t=>?_,l4⟩,r.wat,r.qle,?_,r.mle,r.nn,r.nd⟩
 ·rw [e1]at hx ⊢;rw [e2,e3];exact b1.at_ x hx
 ·rw [e1]at hx;exact b1.no x hx
 ·rw [e1]at hx;rw [e4];exact b2 x hx
 ·rw [e1]at hx;unfold MX.cfI;rw [e5];exact b3 x hx
 ·rw [e6];exact b4 x t
 ·have:=r.bud;unfold MX.miss at this ⊢;rw [e6];exact this
section
variable{P:Program}{w:World}{K:Z0a}{mg:Str→Option Value}{base:Heap}{CS:Addr}
theorem sno{A:SA}{c:Nat}{m:Str}(h0:(m=="ways")=false:=by decide)(h1:(m=="cut")=false:=by decide)(h2:(m=="bases")=false:=by decide)(h3:(m=="came_by")=false:=by decide)(h4:(m=="came_from")=false:=by decide)
  (h5:(m=="turns")=false:=by decide)(h6:(m=="waiting")=false:=by decide):(A.flds c).lookup m=none:=sf_no A c h0 h1 h2 h3 h4 h5 h6
def Z8j(CS:Addr):Sp:=fun vs H Q _=>∃ (A:SA)(n c N M:Nat)(s:MX.S)(q:List (Nat×Int))(x:Nat),vs=[.ref A.sr,.int (x:Int)]∧Rep CS n H A c s q N M∧x<n ∧
 ∀ H' q' N',Frm A H H'→Rep CS n H' A c ((s.allow x 1).allow x (-1)) q' N' M→Ext s q ((s.allow x 1).allow x (-1)) q'→N≤N'→Q .non H'
theorem scBoth:Z2e ["self","atom"] ["self","atom"] (Z2b Z3f):=⟨rfl,rfl,rfl,by decide +kernel,rfl,by decide +kernel,by decide +kernel⟩
theorem okBoth{f fA:Addr}{fd fdA:FuncData}(F:Fun K "allow_both" "Search.allow_both" Z3f f fd)(T:TS7 K mg CS)(GA:FnOk P w K mg base CX0 1 fA fdA ["self","atom","turn"] (Z7k CS))(mA:Meth K CS "allow" fA)(bA:Binds K fdA ["self","atom","turn"] []) :
  FnOk P w K mg base CX0 2 f fd ["self","atom"] (Z8j CS):=by
 refine F.ok scBoth (fun vs H Q E h=>?_) (fun cdv A' outer s' H vs Q E hr h=>?_)
 ·obtain⟨A,n,c,N,M,s,q,x,rfl,_⟩:=h
  rfl
 ·obtain⟨A,n,c,N,M,s,q,x,rfl,R,hx,k⟩:=h
  refine⟨_,Z1Y (Z2r (Z2j (pv 0) T.cl mA GA hr bA .nil pass0 (Z1V (pv 1) (Z1V (pe_gc rfl T.up) Z2a)))) (Z2c (Z2r (Z2j (pv 0) T.cl mA GA hr bA .nil pass0 (Z1V (pv 1) (Z1V (pe_gc rfl T.dn) Z2a))))),?_⟩
  refine⟨_,rfl,A.sr,A.dx,_,rfl,R.obj,sno,_,rfl,A,n,c,N,M,s,q,x,1,rfl,R,hx,.inl rfl,fun H1 q1 N1 f1 R1 a1 b1 c1=>?_⟩
  refine⟨_,rfl,A.sr,A.dx,_,rfl,R1.obj,sno,_,rfl,A,n,c,N1,M,_,q1,x,-1,rfl,R1,hx,.inr rfl,fun H2 q2 N2 f2 R2 a2 b2 c2=>?_⟩
  exact k H2 q2 N2 (f1.trans f2) R2 ((Ext.allow a1 b1).trans (Ext.allow a2 b2)) (Z0x c1 c2)
def put(s:MX.S)(y e:Nat)(cfo:Option Nat)(u:Int):MX.S where
 re:=fun z=>s.re z∨z=y
 root:=fun z=>if z=y then y else s.root z
 rk:=fun z=>if z=y then s.nx else s.rk z
 nx:=s.nx+1
 cb:=fun z=>if z=y then e else s.cb z
 cf:=fun z=>if z=y then cfo else s.cf z
 ar:=fun z=>if z=y then -u else s.ar z
 tn:=fun z v=>s.tn z v∨(z=y∧v=u)
 dn:=s.dn
def Z7o(CS:Addr):Sp:=fun vs H Q _=>∃ (A:SA)(n c N M:Nat)(s:MX.S)(q:List (Nat×Int))(y e:Nat)(b u:Int)(cfo:Option Nat),vs=[.ref A.sr,.int (y:Int),.int b,.int (e:Int),.int u]∧Rep CS n H A c s q N M∧M≤390∧y<n∧¬ s.re y ∧
 (∀ x v,s.tn x v→s.re x)∧(∀ x,s.re x→s.re (s.root x))∧(u=1∨u=-1)∧b=(match cfo with |none=>(-1:Int) |some x=>(x:Int)) ∧
 ∀ H' q' N',Frm A H H'→Rep CS n H' A c (put s y e cfo u) q' N' (M+1)→N'=N+1→Ext s q (put s y e cfo u) q'→Q .non H'
theorem scReach:Z2e ["self","atom","before","bond","turn"] ["self","atom","before","bond","turn"] (Z2b Z3O):=⟨rfl,rfl,rfl,by decide +kernel,rfl,by decide +kernel,by decide +kernel⟩
theorem okReach{f fA:Addr}{fd fdA:FuncData}(F:Fun K "reach" "Search.reach" Z3O f fd)(T:TS7 K mg CS)(GA:FnOk P w K mg base CX0 1 fA fdA ["self","atom","turn"] (Z7k CS))(mA:Meth K CS "allow" fA)(bA:Binds K fdA ["self","atom","turn"] []) :
  FnOk P w K mg base CX0 2 f fd ["self","atom","before","bond","turn"] (Z7o CS):=by
 refine F.ok scReach (fun vs H Q E h=>?_) (fun cdv A' outer s' H vs Q E hr h=>?_)
 ·obtain⟨A,n,c,N,M,s,q,y,e,b,u,cfo,rfl,_⟩:=h
  rfl
 ·obtain⟨A,n,c,N,M,s,q,y,e,b,u,cfo,rfl,R,hM,hy,hre,htn,hroot,hu1,hb,k⟩:=h
  have hu:=hu_of hr
  refine⟨_,Z1Y (Z3T hu (Z2d (pv 0) rfl) (pv 1) (pv 1) rfl)
   (Z1Y (Z3T hu (Z2d (pv 0) rfl) (pv 1) (pv 3) rfl)
   (Z1Y (Z3T hu (Z2d (pv 0) rfl) (pv 1) (pv 2) rfl)
   (Z2c (Z2r (Z2j (pv 0) T.cl mA GA hr bA .nil pass0 (Z1V (pv 1) (Z1V (pv 4) Z2a))))))),?_⟩
  obtain⟨k1,a1,b1,l1⟩:=R.bas
  obtain⟨k2,a2,b2,l2⟩:=R.cby
  obtain⟨k3,a3,b3,l3⟩:=R.cfr
  obtain⟨k4,a4,b4,l4⟩:=R.trn
  obtain⟨ts,a5,b5⟩:=R.wat
  have nd:=R.nd
  simp only [Z0L,Z0d,Z0w,or_false,not_or]at nd
  obtain⟨⟨n1,n2,n3,n4⟩,⟨n5,n6,n7⟩,⟨n8,n9⟩,n10,_⟩:=nd
  have o1:=ne_of R.obj a1 (by intro z;cases z)
  have o2:=ne_of R.obj a2 (by intro z;cases z)
  have o3:=ne_of R.obj a3 (by intro z;cases z)
  have ney:∀ {z},s.re z→z≠y:=fun h q=>hre (q ▸ h)
  refine⟨_,rfl,_,rfl,A.sr,CS,A.dx,_,_,rfl,R.obj,T.cl,T.nb,Z3h _ _,_,rfl,A.db,_,rfl,DPut.k (k:=.inl (y:Int)) a1 (by rw [sizeLine_eq];omega),?_⟩
  have h1o:upd H A.db (.dK (putK k1 (.inl (y:Int)) (.int (y:Int)))) A.sr=some (.ins CS A.dx (A.flds c)):=by rw [Z1W o1];exact R.obj
  have h1c:upd H A.db (.dK (putK k1 (.inl (y:Int)) (.int (y:Int)))) A.cb=some (.dK k2):=by rw [Z1W (Ne.symm n1)];exact a2
  refine⟨_,rfl,_,rfl,A.sr,CS,A.dx,_,_,rfl,h1o,T.cl,T.ny,Z6V _ _,_,rfl,A.cb,_,rfl,DPut.k (k:=.inl (y:Int)) h1c (by rw [sizeLine_eq];omega),?_⟩
  have h2o:upd (upd H A.db (.dK (putK k1 (.inl (y:Int)) (.int (y:Int))))) A.cb (.dK (putK k2 (.inl (y:Int)) (.int (e:Int)))) A.sr=some (.ins CS A.dx (A.flds c)):=by rw [Z1W o2];exact h1o
  have h2c:upd (upd H A.db (.dK (putK k1 (.inl (y:Int)) (.int (y:Int))))) A.cb (.dK (putK k2 (.inl (y:Int)) (.int (e:Int)))) A.cf=some (.dK k3):=by rw [Z1W (Ne.symm n5),Z1W (Ne.symm n2)];exact a3
  refine⟨_,rfl,_,rfl,A.sr,CS,A.dx,_,_,rfl,h2o,T.cl,T.nf,Z5E _ _,_,rfl,A.cf,_,rfl,DPut.k (k:=.inl (y:Int)) h2c (by rw [sizeLine_eq];omega),?_⟩
  generalize hH3:upd (upd (upd H A.db (.dK (putK k1 (.inl (y:Int)) (.int (y:Int))))) A.cb (.dK (putK k2 (.inl (y:Int)) (.int (e:Int))))) A.cf (.dK (putK k3 (.inl (y:Int)) (.int b)))=H3
  have keep:∀ {a:Addr}{o:HO},H a=some o→a≠A.db→a≠A.cb→a≠A.cf→H3 a=some o:=fun{a o} e' m1 m2 m3=>by rw [←hH3,Z1W m3,Z1W m2,Z1W m1];exact e'
  have fr:Frm A H H3:=by rw [←hH3];exact(((Frm.refl A H).upd (by simp)).upd (by simp)).upd (by simp)
  have R3:Rep CS n H3 A c { put s y e cfo u with tn:=s.tn } q N (M+1):=by
   refine⟨keep R.obj o1 o2 o3,⟨putK k1 (.inl (y:Int)) (.int (y:Int)),?_,⟨?_,fun x hx=>?_,fun x hx=>?_⟩,?_⟩,⟨putK k2 (.inl (y:Int)) (.int (e:Int)),?_,fun x hx=>?_,?_⟩,⟨putK k3 (.inl (y:Int)) (.int b),?_,fun x hx=>?_,?_⟩,⟨k4,keep a4 (Ne.symm n3) (Ne.symm n6) (Ne.symm n8),b4,l4⟩,
    ⟨ts,keep a5 (Ne.symm n4) (Ne.symm n7) (Ne.symm n9),b5.same fun d xs z=>keep z (ne_of z a1 (by intro z;cases z)) (ne_of z a2 (by intro z;cases z)) (ne_of z a3 (by intro z;cases z))⟩,R.qle,R.bud,by omega,R.nn,R.nd⟩
   ·rw [←hH3,Z1W n2,Z1W n1,Z1X]
   ·rw [Z2s,if_neg (by rw [Z2N];omega)];exact b1.mid
   ·by_cases z:x=y
    ·subst z
     refine⟨x,by rw [Z2s,if_pos rfl],.inr rfl,rfl,⟨fun _=>if_pos rfl,fun _=>rfl⟩,fun z=>absurd rfl z⟩
    ·have rx:s.re x:=hx.elim id fun z'=>absurd z' z
     obtain⟨y1,v1,r1,e1,i1,lt1⟩:=b1.at_ x rx
     refine⟨y1,by rw [Z2s,if_neg (by rw [Z2N];omega)];exact v1,.inl r1,?_,?_,?_⟩
     ·show(if y1=y then y else s.root y1)=if x=y then y else s.root x
      rw [if_neg (ney r1),if_neg z];exact e1
     ·show y1=x↔(if x=y then y else s.root x)=x
      rw [if_neg z];exact i1
     ·intro h'
      show(if y1=y then s.nx else s.rk y1)<if x=y then s.nx else s.rk x
      rw [if_neg (ney r1),if_neg z];exact lt1 h'
   ·have nx:x≠y:=fun z=>hx (.inr z)
    rw [Z2s,if_neg (by rw [Z2N];omega)]
    exact b1.no x fun z=>hx (.inl z)
   ·have:=Z2z k1 (.inl (y:Int)) (.int (y:Int));omega
   ·rw [←hH3,Z1W n5,Z1X]
   ·show _=some (V.int ((if x=y then e else s.cb x:Nat):Int))
    by_cases z:x=y
    ·rw [if_pos z,z,Z2s,if_pos rfl]
    ·rw [if_neg z,Z2s,if_neg (by rw [Z2N];omega)]
     exact b2 x (hx.elim id fun z'=>absurd z' z)
   ·have:=Z2z k2 (.inl (y:Int)) (.int (e:Int));omega
   ·rw [←hH3,Z1X]
   ·by_cases z:x=y
    ·rw [z,Z2s,if_pos rfl]
     unfold MX.cfI
     show _=some (V.int (match (if y=y then cfo else s.cf y)with |none=>-1 |some w=>(w:Int)))
     rw [if_pos rfl,hb]
    ·rw [Z2s,if_neg (by rw [Z2N];omega)]
     have:=b3 x (hx.elim id fun z'=>absurd z' z)
     unfold MX.cfI at this ⊢
     show _=some (V.int (match (if x=y then cfo else s.cf x)with |none=>-1 |some w=>(w:Int)))
     rw [if_neg z];exact this
   ·have:=Z2z k3 (.inl (y:Int)) (.int b);omega
  have hn:¬ s.tn y u:=fun z=>hre (htn y u z)
  refine⟨_,rfl,A.sr,A.dx,_,rfl,R3.obj,sno,_,rfl,_,rfl,A,n,c,N,M+1,_,q,y,u,rfl,R3,hy,hu1,fun H4 q4 N4 f4 R4 _ hq4 _=>?_⟩
  obtain⟨hq5,hN4⟩:=hq4 hn
  refine k H4 q4 N4 (fr.trans f4) (R4.congr rfl rfl rfl rfl rfl rfl) hN4 ⟨[(y,u)],hq5,fun z v=>?_,fun p hp=>by rw [Z0i.mp hp];exact hn,by simp⟩
  show s.tn z v∨(z=y∧v=u)↔_
  simp
end
end BK
end
section
namespace MX
theorem Zah{up:Nat→Option Nat}:∀ {C:List Nat}{b z z':Nat},Path up b C (some z)→up z=some z'→(∀ w∈C++[z],w≠z')→Path up b (C++[z]) (some z')
 |[],b,z,z',h,hu,hn=>by
  have e:b=z:=by cases h with |nil=>rfl
  subst e
  exact .step b z' [] _ hu (fun q=>hn b (by simp) (Option.some.inj q)) (.nil _)
 |y::C,b,z,z',h,hu,hn=>by
  cases h with
  |step _ x _ _ hx hne hp=>exact .step _ x _ _ hx (fun q=>hn _ (by simp) (Option.some.inj q)) (Zah hp hu fun w hw=>hn w (by rw [List.cons_append];exact Z0f _ hw))
theorem Zao{up:Nat→Option Nat}:∀ {C:List Nat}{b z:Nat},Path up b C (some z)→up z=none→Path up b (C++[z]) none
 |[],b,z,h,hu=>by
  have e:b=z:=by cases h with |nil=>rfl
  subst e
  exact .top b hu
 |y::C,b,z,h,hu=>by
  cases h with
  |step _ x _ _ hx hne hp=>exact .step _ x _ _ hx (fun q=>by cases q) (Zao hp hu)
end MX
namespace BK
open PySem PySem.Spec PyProof.Rows L2 EX RD LM
def pI:Option Nat→Int
 |none=>-1
 |some z=>z
theorem ZaK{p:Option Nat}:pI p=-1↔p=none:=by
 cases p with
 |none=>exact⟨fun _=>rfl,fun _=>rfl⟩
 |some z=>refine⟨fun h=>?_,fun h=>by cases h⟩;have h:(z:Int)=-1:=h;omega
def vis(C:List Nat)(p:Option Nat):List Nat:=C++p.toList
def Meet(s:MX.S)(b o:Nat)(r:Int)(C D:List Nat):Prop:=(∀ z,z∈C→z∉D)∧((r=-1∧MX.Path s.up b C none∧MX.Path s.up o D none)∨∃ m:Nat,r=m∧MX.Path s.up b C (some m)∧MX.Path s.up o D (some m))
theorem Meet.symm{s:MX.S}{b o:Nat}{r:Int}{C D:List Nat}(h:Meet s b o r C D):Meet s o b r D C :=
 ⟨fun z a b=>h.1 z b a,h.2.elim (fun⟨a,b,c⟩=>.inl ⟨a,c,b⟩) fun⟨m,a,b,c⟩=>.inr ⟨m,a,c,b⟩⟩
section
variable{P:Program}{w:World}{K:Z0a}{mg:Str→Option Value}{base:Heap}{CS:Addr}
def spMeet(CS:Addr):Sp:=fun vs H Q _=>∃ (A:SA)(n c N M:Nat)(s:MX.S)(q:List (Nat×Int))(G:MX.Gr)(T:Int)(b o:Nat),vs=[.ref A.sr,.int (b:Int),.int (o:Int)]∧Rep CS n H A c s q N M∧s.Ok G c T∧s.nx≤400 ∧
 s.re b∧s.root b=b∧s.re o∧s.root o=o∧b≠o∧∀ H' r C D,Frm A H H'→Rep CS n H' A c s q N M→Meet s b o r C D→Q (.int r) H'
theorem scMeet:Z2e ["self","base","other","passed","before"] ["self","base","other"] (Z2b Z3i):=⟨rfl,rfl,rfl,by decide +kernel,rfl,by decide +kernel,by decide +kernel⟩
def phi(s:MX.S)(x:Int):Nat:=if x=-1 then 0 else s.rk x.toNat+1
theorem Z5C(s:MX.S)(z:Nat):phi s (pI (some z))=s.rk z+1:=by
 unfold phi
 rw [if_neg (fun h=>by have:=ZaK.mp h;cases this)]
 rfl
theorem phi_none(s:MX.S):phi s (pI none)=0:=rfl
theorem Z8v{p:Option Nat}(h:(!decide (V.int (pI p)=V.int (-1)))=true):p≠none:=fun z=>by rw [z]at h;simp [pI]at h
def mea(s:MX.S)(x y:Int):Nat:=2*(phi s x+phi s y)+if x=-1 then 1 else 0
theorem okMeet{f fB:Addr}{fd fdB:FuncData}(F:Fun K "meeting_of" "Search.meeting_of" Z3i f fd)(T:TS7 K mg CS)(GB:FnOk P w K mg base CX0 2 fB fdB ["self","base"] (spBef CS))(mB:Meth K CS "base_before" fB)(bB:Binds K fdB ["self","base"] []) :
  FnOk P w K mg base CX0 3 f fd ["self","base","other"] (spMeet CS):=by
 refine F.ok scMeet (fun vs H Q E h=>?_) (fun cdv A' outer s' H vs Q E hr h=>?_)
 ·obtain⟨A,n,c,N,M,s,q,G,T',b,o,rfl,_⟩:=h
  rfl
 ·obtain⟨A,n,c,N,M,s,q,G,T',b,o,rfl,R,ok,hnx,rb,bb,ro,oo,hbo,k⟩:=h
  have hu:=hu_of hr
  refine⟨_,Z1Y (Z2h (i:=3) scMeet.nd rfl (Or.inl rfl) (Z7u (Z4z (pv 1) pe_bl (Z4z (pv 2) pe_bl Z7q)) rfl rfl (by decide) (by decide)))
   (Z1Y (Z4y PassesOwn.never (PW.pt (pw_or (Z2p op_ne (pv 1) (pe_gc rfl T.md) (Z2n _)) (Z7c (Z2p op_ne (pv 2) (pe_gc rfl T.md) (Z2n _)))))
     (Z1Y (Z2h (i:=4) scMeet.nd rfl (Or.inl rfl) (Z2j (pv 0) T.cl mB GB hr bB .nil pass0 (Z1V (pv 1) Z2a)))
     (Z1Y (ps_if (PW.pt (Z5L (Z2p op_ne (pv 4) (pe_gc rfl T.md) (Z2n _)) (Z6h (Z6I (pc_din hu (pv 4) (pv 3)))))) (Z2c (Z2k (pv 4))) Z2w)
     (Z1Y (Z3T hu (pv 3) (pv 4) pe_bl rfl)
     (Z1Y (Z2h (i:=1) scMeet.nd rfl (Or.inl rfl) (pv 2))
     (Z2c (Z2h (i:=2) scMeet.nd rfl (Or.inl rfl) (pv 4))))))))
   (Z2c (Z2k (pe_gc rfl T.md)))),?_⟩
  intro pd hpd
  refine⟨_,rfl,_,rfl,Z1X,[(.inl (b:Int),.bl true),(.inl (o:Int),.bl true)],rfl,(by show 2≤15;decide),?_⟩
  rw [Z2F]
  have hmk:Z5l [] [((.inl (b:Int):Key),V.bl true),(.inl (o:Int),.bl true)]=putK (putK [] (Sum.inl (b:Int):Key) (.bl true)) (Sum.inl (o:Int):Key) (.bl true):=rfl
  rw [hmk]
  generalize hk0:putK (putK [] (Sum.inl (b:Int):Key) (V.bl true)) (Sum.inl (o:Int):Key) (V.bl true)=kv0
  have key0:∀ z:Nat,(valV kv0 (.inl (z:Int))).isSome=true↔z∈vis [] (some b)∨z∈vis [] (some o):=fun z=>by
   rw [←hk0,Z2s,Z2s,valV_nil]
   simp only [vis,Option.toList,Z1D,Z0i,Z2N]
   by_cases z1:(z:Int)=(o:Int)
   ·rw [if_pos z1];exact⟨fun _=>.inr (by omega),fun _=>rfl⟩
   ·rw [if_neg z1]
    by_cases z2:(z:Int)=(b:Int)
    ·rw [if_pos z2];exact⟨fun _=>.inl (by omega),fun _=>rfl⟩
    ·rw [if_neg z2];exact⟨fun h=>absurd h (by simp),fun h=>by omega⟩
  have len0:kv0.length≤2:=by
   have a:=Z2z (putK ([]:List (Key×V)) (.inl (b:Int)) (.bl true)) (.inl (o:Int)) (.bl true)
   have b':=Z2z ([]:List (Key×V)) (.inl (b:Int)) (.bl true)
   simp only [Z0Q]at b'
   rw [←hk0];omega
  have pdm:∀ {H':Hp}{kv:List (Key×V)},H' pd=some (.dK kv)→pd∉A.mut:=fun{H' kv} _ hm=>by
   simp only [Z0d,Z0w,or_false]at hm
   obtain⟨_,a1,_⟩:=R.bas
   obtain⟨_,a2,_⟩:=R.cby
   obtain⟨_,a3,_⟩:=R.cfr
   obtain⟨_,a4,_⟩:=R.trn
   obtain⟨_,a5,_⟩:=R.wat
   rcases hm with h |h |h |h |h<;>rw [h]at hpd
   ·rw [a1]at hpd;cases hpd
   ·rw [a2]at hpd;cases hpd
   ·rw [a3]at hpd;cases hpd
   ·rw [a4]at hpd;cases hpd
   ·rw [a5]at hpd;cases hpd
  have rkb:∀ {x:Nat},s.re x→s.rk x<400:=fun h=>Z0v (ok.rkn _ h) hnx
  refine Z5u (fun σ H'=>∃ (b0 o0:Nat)(C D:List Nat)(p p':Option Nat)(kv:List (Key×V))(v:Option V),σ=[some (.ref A.sr),some (.int (pI p)),some (.int (pI p')),some (.ref pd),v]∧((b0=b∧o0=o)∨(b0=o∧o0=b)) ∧
    Frm A H H'∧Rep CS n H' A c s q N M∧H' pd=some (.dK kv)∧(∀ z:Nat,(valV kv (.inl (z:Int))).isSome=true↔z∈vis C p∨z∈vis D p')∧MX.Path s.up b0 C p∧MX.Path s.up o0 D p'∧(∀ z,z∈vis C p→z∉vis D p') ∧
    kv.length+mea s (pI p) (pI p')≤2000)
   (fun σ _=>match σ with |[_,some (.int x),some (.int y),_,_]=>mea s x y |_=>0)
   ⟨b,o,[],[],some b,some o,kv0,none,rfl,.inl ⟨rfl,rfl⟩,(Frm.refl _ _).new hpd,R.new hpd,Z1X,key0,.nil _,.nil _,fun z h1 h2=>?_,?_⟩ ?_ ?_
  ·simp only [vis,Option.toList,Z1D,Z0i]at h1 h2
   omega
  ·have a:=rkb rb
   have b':=rkb ro
   unfold mea
   rw [Z5C,Z5C,if_neg (fun z=>by have:=ZaK.mp z;cases this)]
   omega
  ·rintro σ H1 ⟨b0,o0,C,D,p,p',kv,v,rfl,hsw,fr,R1,hk,key,pC,pD,dis,hlen⟩
   have base0:s.re b0∧s.root b0=b0∧s.re o0∧s.root o0=o0:=by
    rcases hsw with⟨rfl,rfl⟩ |⟨rfl,rfl⟩
    ·exact⟨rb,bb,ro,oo⟩
    ·exact⟨ro,oo,rb,bb⟩
   refine⟨_,rfl,rfl,_,rfl,ite2 (fun hc=>?_) (fun hc=>⟨_,rfl,rfl,_,rfl,ite2 (fun hc2=>?_) (fun hc2=>?_)⟩)⟩
   rotate_left 2
   ·
    have e1:p=none:=ZaK.mp (by simpa using hc)
    have e2:p'=none:=ZaK.mp (by simpa using hc2)
    subst e1 e2
    have hm:Meet s b0 o0 (-1) C D:=⟨fun z h1 h2=>dis z (by simpa [vis]using h1) (by simpa [vis]using h2),.inl ⟨rfl,pC,pD⟩⟩
    rcases hsw with⟨rfl,rfl⟩ |⟨rfl,rfl⟩
    ·exact k H1 (-1) C D fr R1 hm
    ·exact k H1 (-1) D C fr R1 hm.symm
   all_goals
    have hne:p≠none∨p'≠none:=by
     first
     |exact .inl (Z8v hc)
     |exact .inr (Z8v hc2)
    have hb:∃ p2:Option Nat,BefIs s (pI p) (pI p2)∧(p=none→p2=none)∧∀ z,p=some z→s.up z=p2∧s.re z∧s.root z=z:=by
     cases hp:p with
     |none=>exact⟨none,.inl ⟨rfl,rfl⟩,fun _=>rfl,fun z h=>by cases h⟩
     |some z =>
      rw [hp]at pC
      obtain⟨_,a2⟩:=MX.Z6b ok pC base0.1 base0.2.1
      obtain⟨c1,c2,_⟩:=a2 z rfl
      refine⟨s.up z,.inr ⟨z,rfl,c1,fun w hw=>(ok.tree z w c1 hw).1,?_⟩,fun h=>(by cases h),fun z' h=>by cases h;exact⟨rfl,c1,c2⟩⟩
      cases s.up z<;>rfl
    obtain⟨p2,hbef,hp2n,hp2s⟩:=hb
    refine⟨_,rfl,A.sr,A.dx,_,rfl,R1.obj,sno,_,rfl,A,n,c,N,M,s,q,pI p,pI p2,rfl,R1,hbef,fun H2 f2 R2=>?_⟩
    have hk2:H2 pd=some (.dK kv):=f2 _ _ hk (pdm hk)
    have dvis:∀ z∈vis C p,z∉vis D p':=dis
    have stepC:∀ z2,p2=some z2→z2∉vis C p∧MX.Path s.up b0 (vis C p) (some z2):=fun z2 e=>by
     cases hp:p with
     |none=>rw [hp2n hp]at e;cases e
     |some z =>
      obtain⟨e1,r1,r2⟩:=hp2s z hp
      rw [e]at e1
      obtain⟨a1,a2,a3⟩:=MX.up_lt ok r1 e1
      rw [hp]at pC
      obtain⟨q1,q2⟩:=MX.Z6b ok pC base0.1 base0.2.1
      obtain⟨_,_,_,q3⟩:=q2 z rfl
      have lt:∀ w∈C++[z],s.rk z2<s.rk w:=fun w hw=>by
       rcases Z0k.mp hw with h |h
       ·exact Z0O a3 (q3 w h)
       ·rw [Z0i.mp h];exact a3
      exact⟨fun h=>Z0u _ (lt z2 h),MX.Zah pC e1 fun w hw z'=>by have:=lt w hw;rw [z']at this;exact Z0u _ this⟩
    have stepN:p2=none→MX.Path s.up b0 (vis C p) none:=fun e=>by
     cases hp:p with
     |none=>rw [hp]at pC;simpa [vis]using pC
     |some z =>
      obtain⟨e1,_,_⟩:=hp2s z hp
      rw [hp]at pC
      exact MX.Zao pC (e1.trans e)
    have goon:(∀ z2,p2=some z2→z2∉vis D p')→(∃ (b1 o1:Nat)(C1 D1:List Nat)(p1 p1':Option Nat)(kv1:List (Key×V))(v1:Option V),[some (V.ref A.sr),some (.int (pI p')),some (.int (pI p2)),some (.ref pd),some (.int (pI p2))]=[some (V.ref A.sr),some (.int (pI p1)),some (.int (pI p1')),some (.ref pd),v1]∧((b1=b∧o1=o)∨(b1=o∧o1=b)) ∧
      Frm A H (upd H2 pd (.dK (putK kv (.inl (pI p2)) (.bl true))))∧Rep CS n (upd H2 pd (.dK (putK kv (.inl (pI p2)) (.bl true)))) A c s q N M∧upd H2 pd (.dK (putK kv (.inl (pI p2)) (.bl true))) pd=some (.dK kv1)∧(∀ z:Nat,(valV kv1 (.inl (z:Int))).isSome=true↔z∈vis C1 p1∨z∈vis D1 p1')∧MX.Path s.up b1 C1 p1∧MX.Path s.up o1 D1 p1'∧(∀ z,z∈vis C1 p1→z∉vis D1 p1') ∧
      kv1.length+mea s (pI p1) (pI p1')≤2000)∧mea s (pI p') (pI p2)<mea s (pI p) (pI p'):=fun hno=>by
     have ms:mea s (pI p') (pI p2)<mea s (pI p) (pI p'):=by
      unfold mea
      have h1:phi s (pI p2)≤phi s (pI p)∧(p≠none→phi s (pI p2)<phi s (pI p)):=by
       cases hp:p with
       |none=>rw [hp2n hp];exact⟨Z0e _,fun h=>absurd rfl h⟩
       |some z =>
        obtain⟨e1,r1,_⟩:=hp2s z hp
        have hz:=Z5C s z
        have:phi s (pI p2)<phi s (pI (some z)):=by
         rw [hz]
         cases e2:p2 with
         |none=>rw [phi_none];omega
         |some z2 =>
          rw [e2]at e1
          have:=(MX.up_lt ok r1 e1).2.2
          rw [Z5C];omega
        exact⟨Z1k this,fun _=>this⟩
      by_cases hp:p=none
      ·have hp':p'≠none:=hne.elim (fun z=>absurd hp z) id
       rw [if_neg (fun z=>hp' (ZaK.mp z)),if_pos (ZaK.mpr hp)]
       omega
      ·have:=h1.2 hp
       rw [if_neg (fun z=>hp (ZaK.mp z))]
       split<;>omega
     refine⟨⟨o0,b0,D,vis C p,p',p2,putK kv (.inl (pI p2)) (.bl true),_,rfl,hsw.elim (fun⟨a,b⟩=>.inr ⟨b,a⟩) fun⟨a,b⟩=>.inl ⟨b,a⟩,fun x ob e hx=>?_,?_,Z1X,fun z=>?_,pD,?_,fun z h1 h2=>?_,?_⟩,ms⟩
     ·rw [Z1W (Z1Z e hpd)];exact(fr.trans f2) x ob e hx
     ·
      obtain⟨k1,a1,b1,l1⟩:=R2.bas
      obtain⟨k2,a2,b2,l2⟩:=R2.cby
      obtain⟨k3,a3,b3,l3⟩:=R2.cfr
      obtain⟨k4,a4,b4,l4⟩:=R2.trn
      obtain⟨ts,a5,b5⟩:=R2.wat
      have np:=pdm hk
      simp only [Z0d,Z0w,or_false,not_or]at np
      obtain⟨m1,m2,m3,m4,m5⟩:=np
      have keep:∀ {a:Addr}{ob:HO},H2 a=some ob→a≠pd→upd H2 pd (.dK (putK kv (.inl (pI p2)) (.bl true))) a=some ob:=fun e h=>by rw [Z1W h];exact e
      exact⟨keep R2.obj (ne_of R2.obj hk2 (by intro z;cases z)),⟨k1,keep a1 (Ne.symm m1),b1,l1⟩,⟨k2,keep a2 (Ne.symm m2),b2,l2⟩,⟨k3,keep a3 (Ne.symm m3),b3,l3⟩,⟨k4,keep a4 (Ne.symm m4),b4,l4⟩,⟨ts,keep a5 (Ne.symm m5),b5.same fun d xs e=>keep e (ne_of e hk2 (by intro z;cases z))⟩,R2.qle,R2.bud,R2.mle,R2.nn,R2.nd⟩
     ·rw [Z2s]
      cases e2:p2 with
      |none =>
       rw [if_neg (by rw [Z2N];show ¬ (z:Int)=-1;omega),key z]
       simp only [vis,Option.toList,Z0G]
       exact or_comm
      |some z2 =>
       have em:z∈vis (vis C p) (some z2)↔z∈vis C p∨z=z2:=by
        show z∈vis C p++[z2]↔_
        rw [Z0k,Z0i]
       rw [em]
       by_cases q1:z=z2
       ·rw [if_pos (by rw [Z2N,q1];rfl)]
        exact⟨fun _=>.inr (.inr q1),fun _=>rfl⟩
       ·rw [if_neg (by rw [Z2N];show ¬ (z:Int)=(z2:Int);omega),key z]
        constructor
        ·rintro(h |h)
         ·exact .inr (.inl h)
         ·exact .inl h
        ·rintro(h |h |h)
         ·exact .inr h
         ·exact .inl h
         ·exact absurd h q1
     ·cases e2:p2 with
      |none=>exact stepN e2
      |some z2=>exact(stepC z2 e2).2
     ·cases e2:p2 with
      |none =>
       rw [e2]at h2
       have h2:z∈vis C p:=by simpa [vis]using h2
       exact dvis z h2 h1
      |some z2 =>
       rw [e2]at h2
       rcases Z0k.mp (show z∈vis C p++[z2]from h2)with h |h
       ·exact dvis z h h1
       ·rw [Z0i.mp h]at h1;exact hno z2 e2 h1
     ·have:=Z2z kv (.inl (pI p2)) (.bl true)
      omega
    have lenk:kv.length<sizeLine:=by rw [sizeLine_eq];omega
    refine⟨_,rfl,rfl,_,rfl,ite2 (fun hc3=>?_) (fun hc3=>?_)⟩
    ·
     obtain⟨z2,e2⟩:∃ z2,p2=some z2:=by
      cases e2:p2 with
      |none=>rw [e2]at hc3;simp [pI]at hc3
      |some z2=>exact⟨z2,rfl⟩
     refine⟨_,rfl,_,rfl,pd,_,rfl,DGet.k (k:=.inl (pI p2)) hk2,_,rfl,ite2 (fun hc4=>?_) (fun hc4=>?_)⟩
     ·
      rw [e2]at hc4
      have hin:=(key z2).mp hc4
      obtain⟨n1,pth⟩:=stepC z2 e2
      have hD:z2∈vis D p':=hin.elim (fun h=>absurd h n1) id
      have pother:∃ D1,MX.Path s.up o0 D1 (some z2)∧∀ x∈D1,x∈vis D p':=by
       cases hp':p' with
       |none =>
        rw [hp']at hD pD
        have hD:z2∈D:=by simpa [vis]using hD
        have sp:∀ {L:List Nat}{x:Nat},MX.Path s.up x L none→s.re x→s.root x=x→z2∈L→∃ D1,MX.Path s.up x D1 (some z2)∧∀ y∈D1,y∈L:=fun{L}=>by
         induction L with
         |nil=>intro x h _ _ hz;simp at hz
         |cons y L ih =>
          intro x h hr hx hz
          by_cases exz:x=z2
          ·subst exz;exact⟨[],.nil _,fun y hy=>by simp at hy⟩
          ·have hyx:x=y:=by cases h<;>rfl
           subst hyx
           rcases(show(L=[])∨∃ x',s.up x=some x'∧MX.Path s.up x' L none by
            cases h with
            |top _ hu=>exact .inl rfl
            |step _ x' _ _ hu _ hp=>exact .inr ⟨x',hu,hp⟩)with hL |⟨x',hu,hp⟩
           ·rw [hL]at hz;simp at hz;exact absurd hz.symm exz
           ·
            obtain⟨a1,a2,a3⟩:=MX.up_lt ok hr hu
            have hz':z2∈L:=(Z0d.mp hz).elim (fun h=>absurd h.symm exz) id
            obtain⟨D1,d1,d2⟩:=ih hp a1 a2 hz'
            exact⟨x::D1,.step _ x' _ _ hu (fun q=>exz (Option.some.inj q)) d1,fun y hy=>(Z0d.mp hy).elim (fun h=>by rw [h];exact Z0g ..) fun h=>Z0f _ (d2 y h)⟩
        obtain⟨D1,d1,d2⟩:=sp pD base0.2.2.1 base0.2.2.2 hD
        exact⟨D1,d1,fun x hx=>by simpa [vis]using d2 x hx⟩
       |some y =>
        rw [hp']at hD pD
        by_cases q1:z2=y
        ·subst q1;exact⟨D,pD,fun x hx=>Z0K _ hx⟩
        ·have hD2:z2∈D:=by
          rcases Z0k.mp (show z2∈D++[y]from hD)with h |h
          ·exact h
          ·exact absurd (Z0i.mp h) q1
         obtain⟨D1,D2,_,d1,_,d2,_⟩:=MX.Z4p ok pD base0.2.2.1 base0.2.2.2 hD2
         exact⟨D1,d1,fun x hx=>Z0K _ (d2 x hx)⟩
      obtain⟨D1,d1,d2⟩:=pother
      have hm:Meet s b0 o0 (z2:Int) (vis C p) D1:=⟨fun z h1 h2=>dvis z h1 (d2 z h2),.inr ⟨z2,rfl,pth,d1⟩⟩
      have e3:pI p2=(z2:Int):=by rw [e2];rfl
      refine⟨_,rfl,?_⟩
      rw [e3]
      rcases hsw with⟨rfl,rfl⟩ |⟨rfl,rfl⟩
      ·exact k H2 _ _ _ (fr.trans f2) R2 hm
      ·exact k H2 _ _ _ (fr.trans f2) R2 hm.symm
     ·have hno:∀ z,p2=some z→z∉vis D p':=fun z e h=>hc4 (by rw [e];exact(key z).mpr (.inr h))
      exact⟨_,rfl,_,rfl,pd,_,rfl,DPut.k (k:=.inl (pI p2)) hk2 lenk,_,rfl,_,rfl,goon hno⟩
    ·have hno:∀ z,p2=some z→z∉vis D p':=fun z e h=>hc3 (by rw [e];simp [pI])
     exact⟨_,rfl,_,rfl,pd,_,rfl,DPut.k (k:=.inl (pI p2)) hk2 lenk,_,rfl,_,rfl,goon hno⟩
  ·rintro σ H1 Q1 Q2 hq ⟨v,e,h1,b',e2,q'⟩
   refine⟨v,e,h1,b',e2,?_⟩
   cases b' with
   |true=>exact hq _ _ q'
   |false =>
    obtain⟨v,e,h1,b',e2,q'⟩:=q'
    exact⟨v,e,h1,b',e2,hq _ _ q'⟩
end
end BK
end
section
namespace BK
open PySem PySem.Spec PyProof.Rows L2 EX RD LM
open Classical in
noncomputable def part(s:MX.S)(Z:List Nat)(m:Nat):MX.S:={ s with root:=fun v=>if s.root v∈Z then m else s.root v,tn:=fun z u=>s.tn z u∨(z∈Z∧(u=1∨u=-1)) }
theorem Z7S(s:MX.S)(m:Nat):(part s [] m).root=s.root:=by
 funext v
 unfold part
 dsimp only
 rw [if_neg Z0w]
theorem Z6m(s:MX.S)(m:Nat):(part s [] m).tn=s.tn:=by
 funext z u
 refine propext ⟨fun h=>h.elim id fun h=>by simp at h,.inl⟩
section
variable{P:Program}{w:World}{K:Z0a}{mg:Str→Option Value}{base:Heap}{CS:Addr}
def spFold(CS:Addr):Sp:=fun vs H Q _=>∃ (A:SA)(n c N M:Nat)(s:MX.S)(q:List (Nat×Int))(G:MX.Gr)(T:Int)(Z L:List Nat)(z m:Nat),vs=[.ref A.sr,.int (z:Int),.int (m:Int)]∧Rep CS n H A c (part s Z m) q N M∧s.Ok G c T∧G.n=n ∧
 MX.Path s.up z L (some m)∧s.re z∧s.root z=z∧(∀ x∈L,x∉Z)∧m∉Z∧∀ H' q' N',Frm A H H'→Rep CS n H' A c (part s (Z++L) m) q' N' M→Ext (part s Z m) q (part s (Z++L) m) q'→N≤N'→Q .non H'
theorem scFold:Z2e ["self","base","meeting","before"] ["self","base","meeting"] (Z2b Z3Z):=⟨rfl,rfl,rfl,by decide +kernel,rfl,by decide +kernel,by decide +kernel⟩
theorem okFold{f fB fA:Addr}{fd fdB fdA:FuncData}(F:Fun K "fold" "Search.fold" Z3Z f fd)(T:TS7 K mg CS)(GB:FnOk P w K mg base CX0 2 fB fdB ["self","base"] (spBef CS))(mB:Meth K CS "base_before" fB)(bB:Binds K fdB ["self","base"] [])
  (GA:FnOk P w K mg base CX0 2 fA fdA ["self","atom"] (Z8j CS))(mA:Meth K CS "allow_both" fA)(bA:Binds K fdA ["self","atom"] []):FnOk P w K mg base CX0 3 f fd ["self","base","meeting"] (spFold CS):=by
 refine F.ok scFold (fun vs H Q E h=>?_) (fun cdv A' outer s' H vs Q E hr h=>?_)
 ·obtain⟨A,n,c,N,M,s,q,G,T',Z,L,z,m,rfl,_⟩:=h
  rfl
 ·obtain⟨A,n,c,N,M,s,q,G,T',Z,L,z,m,rfl,R,ok,hn,pth,rz,zz,dis,mZ,k⟩:=h
  have hu:=hu_of hr
  refine⟨_,Z2c (Z4y PassesOwn.never (Z2p op_ne (pv 1) (pv 2) (Z2n _))
    (Z1Y (Z2h (i:=3) scFold.nd rfl (Or.inl rfl) (Z2j (pv 0) T.cl mB GB hr bB .nil pass0 (Z1V (pv 1) Z2a)))
    (Z1Y (Z3T hu (Z2d (pv 0) rfl) (pv 1) (pv 2) rfl)
    (Z1Y (Z2r (Z2j (pv 0) T.cl mA GA hr bA .nil pass0 (Z1V (pv 1) Z2a)))
    (Z2c (Z2h (i:=1) scFold.nd rfl (Or.inl rfl) (pv 3))))))),?_⟩
  obtain⟨pr1,pr2⟩:=MX.Z6b ok pth rz zz
  obtain⟨rm,mm,_,mlt⟩:=pr2 m rfl
  refine Z5u (fun σ H'=>∃ (x:Nat)(L1 L2:List Nat)(q':List (Nat×Int))(N':Nat)(v:Option V),σ=[some (.ref A.sr),some (.int (x:Int)),some (.int (m:Int)),v]∧L=L1++L2∧MX.Path s.up x L2 (some m)∧s.re x∧s.root x=x∧(∀ y∈L1,y∉L2) ∧
    Frm A H H'∧Rep CS n H' A c (part s (Z++L1) m) q' N' M∧Ext (part s Z m) q (part s (Z++L1) m) q'∧N≤N')
   (fun σ _=>match σ with |[_,some (.int x),_,_]=>s.rk x.toNat |_=>0)
   ⟨z,[],L,q,N,none,rfl,rfl,pth,rz,zz,fun y hy=>by simp at hy,Frm.refl _ _,by rw [Z0G];exact R,by rw [Z0G];exact Ext.refl _ _,Z0e _⟩ ?_ ?_
  ·rintro σ H1 ⟨x,L1,L2,q1,N1,v,rfl,hL,px,rx,xx,d12,fr,R1,ex,hN⟩
   refine⟨_,rfl,_,rfl,rfl,_,rfl,ite2 (fun hc=>?_) (fun hc=>?_)⟩
   ·have hxm:x≠m:=fun e=>by simp [e]at hc
    obtain⟨x',L3,hu1,hp3,hL2⟩:∃ x' L3,s.up x=some x'∧MX.Path s.up x' L3 (some m)∧L2=x::L3:=by
     cases px with
     |nil=>exact absurd rfl hxm
     |step _ x' L3 _ hu1 _ hp=>exact⟨x',L3,hu1,hp,rfl⟩
    subst hL2
    obtain⟨rx',xx',lt'⟩:=MX.up_lt ok rx hu1
    obtain⟨nL3,_⟩:=MX.Z7d ok rx xx hu1 hp3
    have xL:x∈L:=by rw [hL];simp
    have xZ:x∉Z++L1:=fun h=>by
     rcases Z0k.mp h with h |h
     ·exact dis x xL h
     ·exact d12 x h (Z0g ..)
    have x'Z:x'∉Z++L1:=fun h=>by
     have hx':x'∈L3∨x'=m:=MX.Z2O hp3
     rcases hx' with h3 |h3
     ·rcases Z0k.mp h with h |h
      ·exact dis x' (by rw [hL];simp [h3]) h
      ·exact d12 x' h (Z0f _ h3)
     ·subst h3
      rcases Z0k.mp h with h |h
      ·exact mZ h
      ·exact Z0u _ (mlt x' (by rw [hL];exact Z0K _ h))
    have mZ1:m∉Z++L1:=fun h=>by
     rcases Z0k.mp h with h |h
     ·exact mZ h
     ·exact Z0u _ (mlt m (by rw [hL];exact Z0K _ h))
    have hup:(part s (Z++L1) m).up x=some x':=by
     unfold MX.S.up at hu1 ⊢
     cases e:s.cf x with
     |none=>rw [e]at hu1;cases hu1
     |some w' =>
      rw [e]at hu1
      have e2:s.root w'=x':=Option.some.inj hu1
      show Option.map (part s (Z++L1) m).root (s.cf x)=some x'
      rw [e]
      show some (if s.root w'∈Z++L1 then m else s.root w')=some x'
      rw [if_neg (by rw [e2];exact x'Z),e2]
    refine⟨_,rfl,A.sr,A.dx,_,rfl,R1.obj,sno,_,rfl,A,n,c,N1,M,_,q1,(x:Int),(x':Int),rfl,R1,.inr ⟨x,rfl,rx,fun w' hw=>(ok.tree x w' rx hw).1,by rw [hup]⟩,fun H2 f2 R2=>?_⟩
    obtain⟨kvs,hb,B,hl⟩:=R2.bas
    refine⟨_,rfl,_,rfl,A.sr,CS,A.dx,_,_,rfl,R2.obj,T.cl,T.nb,Z3h _ _,_,rfl,A.db,_,rfl,DPut.k (k:=.inl (x:Int)) hb (by rw [sizeLine_eq];have:=R2.mle;omega),?_⟩
    have rt1:∀ v,(part s (Z++L1++[x]) m).root v=if (part s (Z++L1) m).root v=x then m else(part s (Z++L1) m).root v:=fun v=>by
     show(if s.root v∈Z++L1++[x]then m else s.root v)=if (if s.root v∈Z++L1 then m else s.root v)=x then m else(if s.root v∈Z++L1 then m else s.root v)
     by_cases h1:s.root v∈Z++L1
     ·rw [if_pos (Z0K _ h1),if_pos h1,if_neg (fun e=>hxm e.symm)]
     ·rw [if_neg h1]
      by_cases h2:s.root v=x
      ·rw [if_pos (by rw [h2];simp),if_pos h2]
      ·rw [if_neg (fun h=>(Z0k.mp h).elim h1 fun h=>h2 (Z0i.mp h)),if_neg h2]
    have rx1:(part s (Z++L1) m).root x=x:=by
     show(if s.root x∈Z++L1 then m else s.root x)=x
     rw [xx,if_neg xZ]
    have rm1:(part s (Z++L1) m).root m=m:=by
     show(if s.root m∈Z++L1 then m else s.root m)=m
     rw [mm,if_neg mZ1]
    have lmx:s.rk m<s.rk x:=mlt x xL
    obtain⟨yx,vx,_⟩:=B.at_ x rx
    have B2:Bas { part s (Z++L1) m with root:=(part s (Z++L1++[x]) m).root } (putK kvs (.inl (x:Int)) (.int (m:Int))):=by
     refine⟨?_,fun y hy=>?_,fun y hy=>?_⟩
     ·rw [Z2s,if_neg (by rw [Z2N];omega)];exact B.mid
     ·by_cases e:y=x
      ·subst e
       refine⟨m,by rw [Z2s,if_pos rfl],rm,?_,?_,fun _=>lmx⟩
       ·show(part s (Z++L1++[y]) m).root m=(part s (Z++L1++[y]) m).root y
        rw [rt1,rt1,rm1,rx1,if_neg (fun e=>hxm e.symm),if_pos rfl]
       ·show m=y↔(part s (Z++L1++[y]) m).root y=y
        rw [rt1,rx1,if_pos rfl]
      ·obtain⟨y1,v1,r1,e1,i1,l1⟩:=B.at_ y hy
       refine⟨y1,by rw [Z2s,if_neg (by rw [Z2N];omega)];exact v1,r1,?_,?_,l1⟩
       ·show(part s (Z++L1++[x]) m).root y1=(part s (Z++L1++[x]) m).root y
        rw [rt1,rt1,e1]
       ·show y1=y↔(part s (Z++L1++[x]) m).root y=y
        rw [rt1]
        by_cases e2:(part s (Z++L1) m).root y=x
        ·rw [if_pos e2]
         refine⟨fun h=>?_,fun h=>?_⟩
         ·have:=i1.mp h
          rw [e2]at this
          exact absurd this.symm e
         ·rw [←h,rm1]at e2
          exact absurd e2.symm hxm
        ·rw [if_neg e2];exact i1
     ·rw [Z2s,if_neg (by rw [Z2N];intro h;apply hy;have:y=x:=(by omega);rw [this];exact rx)]
      exact B.no y hy
    have R3:=R2.setBas B2 (by rw [Z7V (by rw [vx];rfl)];exact hl) rfl rfl rfl rfl
    refine⟨_,rfl,A.sr,A.dx,_,rfl,R3.obj,sno,_,rfl,A,n,c,N1,M,_,q1,x,rfl,R3,by rw [←hn];exact ok.rn x rx,fun H4 q4 N4 f4 R4 e4 hN4=>?_⟩
    have etn:(part s (Z++L1++[x]) m).tn=(({ part s (Z++L1) m with root:=(part s (Z++L1++[x]) m).root }:MX.S).allow x 1 |>.allow x (-1)).tn:=by
     funext y u
     refine propext ⟨fun h=>?_,fun h=>?_⟩
     ·rcases h with h |⟨h,hu'⟩
      ·exact .inl (.inl (.inl h))
      ·rcases Z0k.mp h with h |h
       ·exact .inl (.inl (.inr ⟨h,hu'⟩))
       ·have h:=Z0i.mp h
        rcases hu' with hu' |hu'
        ·exact .inl (.inr ⟨h,hu'⟩)
        ·exact .inr ⟨h,hu'⟩
     ·rcases h with((h |⟨h,hu'⟩) |⟨h,hu'⟩) |⟨h,hu'⟩
      ·exact .inl h
      ·exact .inr ⟨Z0K _ h,hu'⟩
      ·exact .inr ⟨by rw [h];simp,.inl hu'⟩
      ·exact .inr ⟨by rw [h];simp,.inr hu'⟩
    have R5:Rep CS n H4 A c (part s (Z++L1++[x]) m) q4 N4 M:=R4.congr rfl rfl rfl rfl rfl etn
    refine⟨_,rfl,⟨x',L1++[x],L3,q4,N4,_,rfl,by rw [hL];simp,hp3,rx',xx',fun y hy h3=>?_,((fr.trans f2).upd (by simp)).trans f4,by rw [←List.append_assoc];exact R5,?_,Z0x hN hN4⟩,?_⟩
    ·rcases Z0k.mp hy with h |h
     ·exact d12 y h (Z0f _ h3)
     ·rw [Z0i.mp h]at h3;exact nL3 h3
    ·rw [←List.append_assoc]
     refine ex.trans (Ext.tn ?_ etn)
     obtain⟨r,a1,a2,a3⟩:=e4
     exact⟨r,a1,a2,a3⟩
    ·show s.rk ((x':Int)).toNat<s.rk ((x:Int)).toNat
     simpa using lt'
   ·have hxm:x=m:=by
     have:(x:Int)=(m:Int):=by simpa using hc
     omega
    subst hxm
    have hL2:L2=[]:=by
     cases px with
     |nil=>rfl
     |step _ _ _ _ _ hne _=>exact absurd rfl hne
    subst hL2
    rw [Z0G]at hL
    subst hL
    exact k H1 q1 N1 fr R1 ex hN
  ·rintro σ H1 Q1 Q2 hq ⟨v,e,v2,e2,h1,b',e3,q'⟩
   exact⟨v,e,v2,e2,h1,b',e3,hq _ _ q'⟩
end
end BK
end
section
namespace BK
open PySem PySem.Spec PyProof.Rows L2 EX RD LM
def wf(e y:Int)(d:Addr):List (Str×V):=[("bond",.int e),("other",.int y),("rooms",.ref d)]
theorem Z7r(e y:Int)(d:Addr):(wf e y d).lookup ("bond" : Str)=some (.int e):=by
 unfold wf;rw [Z0b,show(("bond" : Str)=="bond")=true by decide]
theorem Z5n(e y:Int)(d:Addr):(wf e y d).lookup ("other" : Str)=some (.int y):=by
 unfold wf;rw [Z0b,show(("other" : Str)=="bond")=false by decide,Z0b,show(("other" : Str)=="other")=true by decide]
theorem Z5v(e y:Int)(d:Addr):(wf e y d).lookup ("rooms" : Str)=some (.ref d):=by
 unfold wf;rw [Z0b,show(("rooms" : Str)=="bond")=false by decide,Z0b,show(("rooms" : Str)=="other")=false by decide,Z0b,show(("rooms" : Str)=="rooms")=true by decide]
def WayAt(CW:Addr)(H:Hp)(r:Addr)(e y:Nat)(o:Int):Prop:=∃ dx d kvs,H r=some (.ins CW dx (wf e y d))∧H d=some (.dK kvs)∧valV kvs (.inl 1)=some (.int (3-o))∧valV kvs (.inl (-1))=some (.int (o-1))
def WayOff(CW:Addr)(A:SA)(H:Hp)(r:Addr):Prop:=r∉A.mut∧∀ dx fs d,H r=some (.ins CW dx fs)→fs.lookup ("rooms" : Str)=some (.ref d)→d∉A.mut
theorem WayAt.frm{CW:Addr}{A:SA}{H H':Hp}{r:Addr}{e y:Nat}{o:Int}(h:WayAt CW H r e y o)(f:Frm A H H')(w:WayOff CW A H r):WayAt CW H' r e y o:=by
 obtain⟨dx,d,kvs,a,b,c1,c2⟩:=h
 exact⟨dx,d,kvs,f _ _ a w.1,f _ _ b (w.2 dx _ d a (Z5v _ _ _)),c1,c2⟩
theorem WayAt.room{G:MX.Gr}{kvs:List (Key×V)}{e:Nat}{t:Int}(h1:valV kvs (.inl 1)=some (.int (3-(G.bd e).o)))(h2:valV kvs (.inl (-1))=some (.int ((G.bd e).o-1)))(ht:t=1∨t=-1):valV kvs (.inl t)=some (.int (G.room t e)):=by
 unfold MX.Gr.room
 rcases ht with rfl |rfl
 ·rw [if_pos rfl];exact h1
 ·rw [if_neg (by decide)];exact h2
structure TW(K:Z0a)(CW:Addr):Prop where
 cl:Cls K CW
 nb:NoAttr K CW "bond"
 no:NoAttr K CW "other"
 nr:NoAttr K CW "rooms"
structure Stb(G:MX.Gr)(n c:Nat)(T:Int)(s:MX.S)(N M:Nat):Prop where
 ok:s.Ok G c T
 gok:G.Ok
 gn:G.n=n
 cm:c<G.m
 co:(G.bd c).o=2
 hT:T=1∨T=-1
 mn:M≤N+2
 nx:s.nx≤N
section
variable{P:Program}{w:World}{K:Z0a}{mg:Str→Option Value}{base:Heap}{CS CW:Addr}
def Z9h(CS CW:Addr):Sp:=fun vs H Q _=>∃ (A:SA)(n c N M:Nat)(s:MX.S)(q:List (Nat×Int))(G:MX.Gr)(T:Int)(x y e:Nat)(t:Int)(wr:Addr),vs=[.ref A.sr,.int (x:Int),.int t,.ref wr]∧Rep CS n H A c s q N M∧Stb G n c T s N M ∧
 WayAt CW H wr e y (G.bd e).o∧WayOff CW A H wr∧s.tn x t∧e<G.m∧e≠c∧MX.Jn (G.bd e) x y∧0<G.room t e∧¬ s.dn x t e ∧
 (∀ H',Frm A H H'→(∃ δ,G.Chg δ∧δ c=T)→Q (.bl true) H') ∧
 ∀ H' s' q' N' M',Frm A H H'→Rep CS n H' A c s' q' N' M'→Stb G n c T s' N' M'→Ext s q s' q'→(∀ z u f,s'.dn z u f↔s.dn z u f∨(z=x∧u=t∧f=e))→Q (.bl false) H'
theorem scClose:Z2e ["self","atom","turn","way","base","other_base","used_up","meeting"] ["self","atom","turn","way"] (Z2b Z3G):=⟨rfl,rfl,rfl,by decide +kernel,rfl,by decide +kernel,by decide +kernel⟩
theorem okClose{f fR fB fM fF fA:Addr}{fd fdR fdB fdM fdF fdA:FuncData}(F:Fun K "closes" "Search.closes" Z3G f fd)(T:TS7 K mg CS)(W:TW K CW)
  (GR:FnOk P w K mg base CX0 2 fR fdR ["self","atom","before","bond","turn"] (Z7o CS))(mR:Meth K CS "reach" fR)(bR:Binds K fdR ["self","atom","before","bond","turn"] [])
  (GB:FnOk P w K mg base CX0 1 fB fdB ["self","atom"] (Z8D CS))(mB:Meth K CS "base_of" fB)(bB:Binds K fdB ["self","atom"] [])
  (GM:FnOk P w K mg base CX0 3 fM fdM ["self","base","other"] (spMeet CS))(mM:Meth K CS "meeting_of" fM)(bM:Binds K fdM ["self","base","other"] [])
  (GF:FnOk P w K mg base CX0 3 fF fdF ["self","base","meeting"] (spFold CS))(mF:Meth K CS "fold" fF)(bF:Binds K fdF ["self","base","meeting"] [])
  (GA:FnOk P w K mg base CX0 2 fA fdA ["self","atom"] (Z8j CS))(mA:Meth K CS "allow_both" fA)(bA:Binds K fdA ["self","atom"] []) :
  FnOk P w K mg base CX0 4 f fd ["self","atom","turn","way"] (Z9h CS CW):=by
 refine F.ok scClose (fun vs H Q E h=>?_) (fun cdv A' outer s' H vs Q E hr h=>?_)
 ·obtain⟨A,n,c,N,M,s,q,G,T',x,y,e,t,wr,rfl,_⟩:=h
  rfl
 ·obtain⟨A,n,c,N,M,s,q,G,T',x,y,e,t,wr,rfl,R,S,hW,hO,tx,he,hec,hj,hro,hnd,k1,k2⟩:=h
  have hu:=hu_of hr
  have hr2:Room 2 _:=hr.mono (by decide)
  have hr1:Room 1 _:=hr.mono (by decide)
  refine⟨_,Z1Y (ps_if (Z6I (Z5I hu (Z2d (pv 3) rfl) (Z2d (pv 0) rfl)))
    (Z1Y (Z2r (Z2j (pv 0) T.cl mR GR hr2 bR .nil pass0 (Z1V (Z2d (pv 3) rfl) (Z1V (pv 1) (Z1V (Z2d (pv 3) rfl) (Z1V (pe_un Z8U (pv 2)) Z2a)))))) (Z2c (Z2k pe_bl))) Z2w)
   (Z1Y (Z2h (i:=4) scClose.nd rfl (Or.inl rfl) (Z2j (pv 0) T.cl mB GB hr1 bB .nil pass0 (Z1V (pv 1) Z2a)))
   (Z1Y (Z2h (i:=5) scClose.nd rfl (Or.inl rfl) (Z2j (pv 0) T.cl mB GB hr1 bB .nil pass0 (Z1V (Z2d (pv 3) rfl) Z2a)))
   (Z1Y (Z2h (i:=6) scClose.nd rfl (Or.inl rfl) (Z5N (Z4b op_eq (Z3I hu (Z2d (pv 0) rfl) (pv 4) (fun _ _=>rfl)) (Z2d (pv 3) rfl) (Z2n _)) (Z6E (Z4b op_eq (Z3I hu (Z2d (pv 3) rfl) (pv 2) (fun _ _=>rfl)) Z2f (Z2n _)))))
   (Z1Y (ps_if (PW.pt (pw_or (Z2p op_eq (pv 4) (pv 5) (Z2n _)) (pw_or (Z5g (pv 6)) (Z7c (Z6I (Z5I hu (Z4i (Z1V (Z2d (pv 3) rfl) (Z1V (pv 2) Z2a))) (Z2d (pv 0) rfl))))))) (Z2c (Z2k pe_bl)) Z2w)
   (Z1Y (Z2h (i:=7) scClose.nd rfl (Or.inl rfl) (Z2j (pv 0) T.cl mM GM hr bM .nil pass0 (Z1V (pv 4) (Z1V (pv 5) Z2a))))
   (Z1Y (ps_if (Z2p op_eq (pv 7) (pe_gc rfl T.md) (Z2n _)) (Z2c (Z2k pe_bl)) Z2w)
   (Z1Y (Z2r (Z2j (pv 0) T.cl mF GF hr bF .nil pass0 (Z1V (pv 4) (Z1V (pv 7) Z2a))))
   (Z1Y (Z2r (Z2j (pv 0) T.cl mF GF hr bF .nil pass0 (Z1V (pv 5) (Z1V (pv 7) Z2a))))
   (Z1Y (Z2r (Z2j (pv 0) T.cl mA GA hr2 bA .nil pass0 (Z1V (pv 7) Z2a)))
   (Z2c (Z2k pe_bl))))))))))),?_⟩
  have rx:=(S.ok.tnr x t tx).1
  have ht:=(S.ok.tnr x t tx).2
  have small:=R.small
  obtain⟨dw,dd,kw,hw1,hw2,hw3,hw4⟩:=id hW
  obtain⟨kvs,hb,B,hl⟩:=R.bas
  have yn:y<n:=by
   rw [←S.gn]
   rcases hj with⟨_,z⟩ |⟨_,z⟩
   ·rw [←z];exact S.gok.bn e he
   ·rw [←z];exact S.gok.an e he
  refine⟨_,rfl,wr,CW,dw,_,_,rfl,hw1,W.cl,W.no,Z5n _ _ _,_,rfl,A.sr,CS,A.dx,_,_,rfl,R.obj,T.cl,T.nb,Z3h _ _,A.db,_,rfl,DGet.k (k:=.inl (y:Int)) hb,_,rfl,ite2 (fun hc=>?_) (fun hc=>?_)⟩
  ·
   have hre:¬ s.re y:=fun z=>by
    obtain⟨y1,v1,_⟩:=B.at_ y z
    rw [v1]at hc;cases hc
   refine⟨_,rfl,A.sr,A.dx,_,rfl,R.obj,sno,_,rfl,wr,CW,dw,_,_,rfl,hw1,W.cl,W.no,Z5n _ _ _,_,rfl,_,rfl,wr,CW,dw,_,_,rfl,hw1,W.cl,W.nb,Z7r _ _ _,_,rfl,_,rfl,
    A,n,c,N,M,s,q,y,e,(x:Int),-t,some x,rfl,R,by have:=S.mn;omega,yn,hre,fun z v h=>(S.ok.tnr z v h).1,fun z h=>(S.ok.root z h).1,by omega,rfl,fun H1 q1 N1 f1 R1 hN1 e1=>?_⟩
   have okr:=MX.reach_ok S.ok S.gok tx he hec hj hro hre
   have R2:Rep CS n H1 A c (s.reach x y e t) q1 N1 (M+1):=R1.congr rfl rfl rfl rfl rfl rfl
   exact k2 H1 (s.reach x y e t) q1 N1 (M+1) f1 R2 ⟨okr,S.gok,S.gn,S.cm,S.co,S.hT,by have:=S.mn;omega,by show s.nx+1≤N1;have:=S.nx;omega⟩ (Ext.tn e1 rfl) fun z u f=>Iff.rfl
  ·have ry:s.re y:=by
    by_cases z:s.re y
    ·exact z
    ·rw [B.no y z]at hc;exact absurd rfl hc
   refine⟨_,rfl,A.sr,A.dx,_,rfl,R.obj,sno,_,rfl,A,n,c,N,M,s,q,(x:Int),(s.root x:Int),rfl,R,.inr ⟨x,rfl,rx,rfl⟩,fun H1 f1 R1=>?_⟩
   have hW1:=hW.frm f1 hO
   obtain⟨dw1,dd1,kw1,hw11,hw12,hw13,hw14⟩:=id hW1
   have hO1:WayOff CW A H1 wr:=⟨hO.1,fun dx fs d h1 h2=>hO.2 dx fs d (by
    have:=f1 _ _ hw1 hO.1
    rw [this]at h1
    cases h1
    exact hw1) h2⟩
   refine⟨_,rfl,A.sr,A.dx,_,rfl,R1.obj,sno,_,rfl,wr,CW,dw1,_,_,rfl,hw11,W.cl,W.no,Z5n _ _ _,A,n,c,N,M,s,q,(y:Int),(s.root y:Int),rfl,R1,.inr ⟨y,rfl,ry,rfl⟩,fun H2 f2 R2=>?_⟩
   have hW2:=hW1.frm f2 hO1
   obtain⟨dw2,dd2,kw2,hw21,hw22,hw23,hw24⟩:=id hW2
   obtain⟨k2c,c1,c2,c3⟩:=R2.cby
   have rrx:=(S.ok.root x rx).1
   have gcb:DGet H2 A.cb (.int (s.root x:Int)) (some (.int (s.cb (s.root x):Int))):=by rw [←c2 _ rrx];exact DGet.k (k:=.inl (s.root x:Int)) c1
   have grm:DGet H2 dd2 (.int t) (some (.int (G.room t e))):=by rw [←WayAt.room hw23 hw24 ht];exact DGet.k (k:=.inl t) hw22
   have f12:=f1.trans f2
   have stay:(s.root x=s.root y∨(s.cb (s.root x)=e∧G.room t e=1)∨¬ s.tn y t)→∀ H3,Frm A H2 H3→Rep CS n H3 A c s q N M→Q (.bl false) H3:=fun hh H3 f3 R3=>by
    have okm:=MX.mark_ok S.ok S.gok tx he hec hj hro ry hh
    have R4:Rep CS n H3 A c (s.mark x e t) q N M:=R3.congr rfl rfl rfl rfl rfl rfl
    exact k2 H3 (s.mark x e t) q N M (f12.trans f3) R4 ⟨okm,S.gok,S.gn,S.cm,S.co,S.hT,S.mn,S.nx⟩ (Ext.tn (Ext.refl _ _) rfl) fun z u f=>Iff.rfl
   have hus1:decide (V.int (s.cb (s.root x):Int)=V.int (e:Int))=true→(decide (V.int (G.room t e)=V.int 1)=true↔(s.cb (s.root x)=e∧G.room t e=1)):=fun h=>by
    have h1:s.cb (s.root x)=e:=by have:=V.int.inj (of_decide_eq_true h);omega
    rw [decide_eq_true_iff]
    exact⟨fun h=>⟨h1,V.int.inj h⟩,fun h=>by rw [h.2]⟩
   have hus2:¬ decide (V.int (s.cb (s.root x):Int)=V.int (e:Int))=true→(false=true↔(s.cb (s.root x)=e∧G.room t e=1)):=fun h =>
    ⟨fun z=>absurd z (by decide),fun z=>absurd (decide_eq_true (by rw [z.1])) h⟩
   refine⟨_,rfl,A.sr,CS,A.dx,_,_,rfl,R2.obj,T.cl,T.ny,Z6V _ _,_,rfl,A.cb,_,rfl,gcb,_,rfl,wr,CW,dw2,_,_,rfl,hw21,W.cl,W.nb,Z7r _ _ _,rfl,_,rfl,
    ite2 (fun hc1=>⟨_,rfl,wr,CW,dw2,_,_,rfl,hw21,W.cl,W.nr,Z5v _ _ _,_,rfl,dd2,_,rfl,grm,rfl,?_⟩) (fun hc1=>?_)⟩
   all_goals
    first
    |have hus:=hus1 hc1
    |have hus:=hus2 hc1
    refine⟨_,rfl,_,rfl,rfl,_,rfl,ite2 (fun ha=>?_) (fun ha=>⟨_,rfl,_,rfl,ite2 (fun hb2=>?_) (fun hb2=>?_)⟩)⟩
    ·exact stay (.inl (by have:=V.int.inj (of_decide_eq_true ha);omega)) H2 (Frm.refl _ _) R2
    ·exact stay (.inr (.inl (hus.mp hb2))) H2 (Frm.refl _ _) R2
    have hxy:s.root x≠s.root y:=fun z=>ha (decide_eq_true (by rw [z]))
    have hnu:¬ (s.cb (s.root x)=e∧G.room t e=1):=fun z=>hb2 (hus.mpr z)
    obtain⟨k4,d1,d2,d3⟩:=R2.trn
    refine⟨_,rfl,wr,CW,dw2,_,_,rfl,hw21,W.cl,W.no,Z5n _ _ _,_,rfl,(by show 2≤sizeLine;decide),fun u3 hu3=>?_⟩
    have R3:=R2.new (o:=.tup [.int (y:Int),.int t]) hu3
    have f3:Frm A H2 (upd H2 u3 (.tup [.int (y:Int),.int t])):=(Frm.refl _ _).new hu3
    have hd3:upd H2 u3 (.tup [.int (y:Int),.int t]) A.tn=some (.dT k4):=by rw [Z1W (Z1Z d1 hu3)];exact d1
    refine⟨_,rfl,A.sr,CS,A.dx,_,_,rfl,R3.obj,T.cl,T.nt,Z6s _ _,A.tn,_,rfl,DGet.t (k:=[.inl (y:Int),.inl t]) hd3 Z1X,_,rfl,ite2 (fun hc4=>?_) (fun hc4=>?_)⟩
    ·refine stay (.inr (.inr fun z=>?_)) _ f3 R3
     have:=(d2 y t).mpr z
     rw [this]at hc4
     cases hc4
    have ty:s.tn y t:=by
     refine(d2 y t).mp ?_
     cases z:valV k4 [.inl (y:Int),.inl t]with
     |none=>rw [z]at hc4;exact absurd rfl hc4
     |some v=>rfl
    generalize upd H2 u3 (.tup [.int (y:Int),.int t])=H3 at R3 f3
    have f123:=f12.trans f3
    have rxx:=S.ok.root x rx
    have ryy:=S.ok.root y ry
    refine⟨_,rfl,A.sr,A.dx,_,rfl,R3.obj,sno,_,rfl,_,rfl,A,n,c,N,M,s,q,G,T',s.root x,s.root y,rfl,R3,S.ok,by have:=S.nx;omega,rxx.1,rxx.2.1,ryy.1,ryy.2.1,hxy,fun H4 r C D f4 R4 hm=>?_⟩
    have f4':=f123.trans f4
    refine⟨_,rfl,rfl,_,rfl,ite2 (fun hc5=>?_) (fun hc5=>?_)⟩
    ·
     have er:r=-1:=V.int.inj (of_decide_eq_true hc5)
     obtain⟨dis,hm⟩:=hm
     rcases hm with⟨_,p1,p2⟩ |⟨m,z,_⟩
     ·exact k1 H4 f4' (MX.found S.ok S.gok S.cm S.co S.hT he hec hj hro tx ty p1 p2 dis)
     ·omega
    ·obtain⟨dis,hm⟩:=hm
     rcases hm with⟨z,_⟩ |⟨m,rfl,p1,p2⟩
     ·exact absurd (decide_eq_true (by rw [z])) hc5
     ·have Rg:MX.Ring s G c x y e t C D m:=⟨tx,ty,he,hec,hj,hro,p1,p2,dis⟩
      obtain⟨m1,m2,m3,m4,m5,m6⟩:=MX.Z6O S.ok Rg
      have R5:Rep CS n H4 A c (part s [] m) q N M:=R4.congr rfl (Z7S s m) rfl rfl rfl (Z6m s m)
      refine⟨_,rfl,A.sr,A.dx,_,rfl,R4.obj,sno,_,rfl,_,rfl,A,n,c,N,M,s,q,G,T',[],C,s.root x,m,rfl,R5,S.ok,S.gn,p1,rxx.1,rxx.2.1,fun z _ h=>by simp at h,by simp,fun H6 q6 N6 f6 R6 e6 hN6=>?_⟩
      rw [Z1D]at R6 e6
      refine⟨_,rfl,A.sr,A.dx,_,rfl,R6.obj,sno,_,rfl,_,rfl,A,n,c,N6,M,s,q6,G,T',C,D,s.root y,m,rfl,R6,S.ok,S.gn,p2,ryy.1,ryy.2.1,fun z h1 h2=>dis z h2 h1,m3,fun H7 q7 N7 f7 R7 e7 hN7=>?_⟩
      refine⟨_,rfl,A.sr,A.dx,_,rfl,R7.obj,sno,_,rfl,A,n,c,N7,M,_,q7,m,rfl,R7,by rw [←S.gn];exact S.ok.rn m m1,fun H8 q8 N8 f8 R8 e8 hN8=>?_⟩
      have okf:=MX.fold_ok S.ok S.gok Rg hxy hnu hnd
      have er:(s.fold C D m x e t).root=(((part s (C++D) m).allow m 1).allow m (-1)).root:=by
       funext v
       show(if s.root v∈C∨s.root v∈D then m else s.root v)=if s.root v∈C++D then m else s.root v
       by_cases z:s.root v∈C∨s.root v∈D
       ·rw [if_pos z,if_pos (Z0k.mpr z)]
       ·rw [if_neg z,if_neg fun h=>z (Z0k.mp h)]
      have et:(s.fold C D m x e t).tn=(((part s (C++D) m).allow m 1).allow m (-1)).tn:=by
       funext z u
       refine propext ⟨fun h=>?_,fun h=>?_⟩
       ·rcases h with h |⟨h |h |h,hu'⟩
        ·exact .inl (.inl (.inl h))
        ·exact .inl (.inl (.inr ⟨Z0K _ h,hu'⟩))
        ·exact .inl (.inl (.inr ⟨Z0J _ h,hu'⟩))
        ·rcases hu' with hu' |hu'
         ·exact .inl (.inr ⟨h,hu'⟩)
         ·exact .inr ⟨h,hu'⟩
       ·rcases h with((h |⟨h,hu'⟩) |⟨h,hu'⟩) |⟨h,hu'⟩
        ·exact .inl h
        ·exact .inr ⟨(Z0k.mp h).imp_right .inl,hu'⟩
        ·exact .inr ⟨.inr (.inr h),.inl hu'⟩
        ·exact .inr ⟨.inr (.inr h),.inr hu'⟩
      have R9:Rep CS n H8 A c (s.fold C D m x e t) q8 N8 M:=R8.congr rfl er rfl rfl rfl et
      have ex:Ext s q (s.fold C D m x e t) q8:=by
       have a:Ext s q (part s C m) q6:=by
        obtain⟨r,a1,a2,a3,a4⟩:=e6
        rw [Z6m]at a2 a3
        exact⟨r,a1,a2,a3,a4⟩
       exact((a.trans e7).trans e8).tn et
      exact k2 H8 (s.fold C D m x e t) q8 N8 M (((f4'.trans f6).trans f7).trans f8) R9 ⟨okf,S.gok,S.gn,S.cm,S.co,S.hT,by have:=S.mn;omega,by show s.nx≤N8;have:=S.nx;omega⟩ ex fun z u f=>Iff.rfl
end
end BK
end
section
namespace MX
theorem ZaA{n:Nat}:∀ {r:List (Nat×Int)}{s s':S},(∀ x t,s'.tn x t↔s.tn x t∨(x,t)∈r)→(∀ p∈r,¬ s.tn p.1 p.2)→r.Nodup→(∀ p∈r,p.1<n∧(p.2=1∨p.2=-1))→miss s n=miss s' n+r.length
 |[],s,s',h,_,_,_=>by
  unfold miss
  rw [Z4f (p:=fun x=>¬ s.tn x 1) (q:=fun x=>¬ s'.tn x 1) fun x _=>by rw [h];simp,Z4f (p:=fun x=>¬ s.tn x (-1)) (q:=fun x=>¬ s'.tn x (-1)) fun x _=>by rw [h];simp]
  rfl
 |(x,t)::r,s,s',h,hn,hd,hv=>by
  have hx:=hv (x,t) (Z0g ..)
  rw [Z9T hx.1 hx.2 (hn (x,t) (Z0g ..))]
  have:=ZaA (n:=n) (r:=r) (s:=s.allow x t) (s':=s') (fun z u=>?_) (fun p hp z=>?_) (Z0L.mp hd).2 (fun p hp=>hv p (Z0f _ hp))
  ·rw [this,Z0s];omega
  ·rw [h]
   show _↔(s.tn z u∨(z=x∧u=t))∨_
   rw [Z0d,Prod.mk.injEq,or_assoc]
  ·rcases z with z |⟨z1,z2⟩
   ·exact hn p (Z0f _ hp) z
   ·have:p=(x,t):=by rw [←z1,←z2]
    rw [this]at hp
    exact(Z0L.mp hd).1 hp
end MX
namespace L2
theorem while_m{c:TT}{tb:TS}{D:Ends}{σ:St}{H:Hp}(Pv:Nat→St→Hp→Prop)(m0:Nat)(h0:Pv m0 σ H)
  (hs:∀ m σ H,Pv m σ H→c σ H fun b H1=>if b=true then tb { D with nx:=fun σ' H'=>∃ m',m' < m∧Pv m' σ' H',ct:=fun σ' H'=>∃ m',m' < m∧Pv m' σ' H',bk:=D.nx } σ H1 else D.nx σ H1)
  (mono:∀ σ H Q Q',(∀ b H1,Q b H1→Q' b H1)→c σ H Q→c σ H Q'):Z8k c tb D σ H:=by
 refine⟨Pv,⟨m0,h0⟩,fun m σ H p=>?_⟩
 refine mono σ H _ _ (fun b H1 q=>?_) (hs m σ H p)
 cases b with
 |true=>exact⟨_,fun σ' H' z=>z,q⟩
 |false=>exact q
end L2
namespace BK
open PySem PySem.Spec PyProof.Rows L2 EX RD LM
structure Wys(CW:Addr)(A:SA)(G:MX.Gr)(H:Hp)(ls:List Addr)(ws:Nat→List Addr)(E:Nat→List (Nat×Nat)):Prop where
 top:H A.wl=some (.lst (ls.map V.ref))
 tof:A.wl∉A.mut
 len:ls.length=G.n
 row:∀ x l,ls[x]?=some l→H l=some (.lst ((ws x).map V.ref))∧l∉A.mut
 wln:∀ x,x<G.n→(ws x).length=(E x).length
 way:∀ (x j:Nat) r p,x<G.n→(ws x)[j]?=some r→(E x)[j]?=some p→WayAt CW H r p.1 p.2 (G.bd p.1).o∧WayOff CW A H r
 cov:∀ x e y,x<G.n→((e,y)∈E x↔e<G.m∧MX.Jn (G.bd e) x y)
 unq:∀ x,x<G.n→((E x).map (·.1)).Nodup
theorem WayOff.frm{CW:Addr}{A:SA}{H H':Hp}{r:Addr}{e y:Nat}{o:Int}(h:WayAt CW H r e y o)(f:Frm A H H')(w:WayOff CW A H r):WayOff CW A H' r:=by
 obtain⟨dx,d,kvs,a,b,_⟩:=h
 refine⟨w.1,fun dx' fs' d' h1 h2=>?_⟩
 rw [f _ _ a w.1]at h1
 cases h1
 exact w.2 dx _ d' a h2
theorem Wys.frm{CW:Addr}{A:SA}{G:MX.Gr}{H H':Hp}{ls:List Addr}{ws:Nat→List Addr}{E:Nat→List (Nat×Nat)}(h:Wys CW A G H ls ws E)(f:Frm A H H'):Wys CW A G H' ls ws E :=
 ⟨f _ _ h.top h.tof,h.tof,h.len,fun x l e=>⟨f _ _ (h.row x l e).1 (h.row x l e).2,(h.row x l e).2⟩,h.wln,fun x j r p hx e1 e2=>let z:=h.way x j r p hx e1 e2;⟨z.1.frm f z.2,z.2.frm z.1 f⟩,h.cov,h.unq⟩
section
variable{P:Program}{w:World}{K:Z0a}{mg:Str→Option Value}{base:Heap}{CS CW:Addr}
def spGoes(CS CW:Addr):Sp:=fun vs H Q _=>∃ (A:SA)(n c N M:Nat)(s:MX.S)(q:List (Nat×Int))(G:MX.Gr)(T:Int)(ls:List Addr)(ws:Nat→List Addr)(E:Nat→List (Nat×Nat))(x:Nat)(t:Int),vs=[.ref A.sr,.int (x:Int),.int t]∧Rep CS n H A c s q N M∧Stb G n c T s N M ∧
 Wys CW A G H ls ws E∧s.tn x t∧(∀ e,¬ s.dn x t e) ∧
 (∀ H',Frm A H H'→(∃ δ,G.Chg δ∧δ c=T)→Q (.bl true) H') ∧
 ∀ H' s' q' N' M',Frm A H H'→Rep CS n H' A c s' q' N' M'→Stb G n c T s' N' M'→Ext s q s' q'→(∀ z u f,s'.dn z u f↔s.dn z u f∨(z=x∧u=t∧f≠c∧0<G.room t f∧f<G.m∧∃ y,MX.Jn (G.bd f) x y))→Q (.bl false) H'
theorem scGoes:Z2e ["self","atom","turn","way"] ["self","atom","turn"] (Z2b Z3v):=⟨rfl,rfl,rfl,by decide +kernel,rfl,by decide +kernel,by decide +kernel⟩
theorem okGoes{f fC:Addr}{fd fdC:FuncData}(F:Fun K "goes_on" "Search.goes_on" Z3v f fd)(T:TS7 K mg CS)(W:TW K CW)
  (GC:FnOk P w K mg base CX0 4 fC fdC ["self","atom","turn","way"] (Z9h CS CW))(mC:Meth K CS "closes" fC)(bC:Binds K fdC ["self","atom","turn","way"] []):FnOk P w K mg base CX0 5 f fd ["self","atom","turn"] (spGoes CS CW):=by
 refine F.ok scGoes (fun vs H Q E h=>?_) (fun cdv A' outer s' H vs Q E' hr h=>?_)
 ·obtain⟨A,n,c,N,M,s,q,G,T',ls,ws,E,x,t,rfl,_⟩:=h
  rfl
 ·obtain⟨A,n,c,N,M,s,q,G,T',ls,ws,E,x,t,rfl,R,S,Y,tx,hnd,k1,k2⟩:=h
  have hu:=hu_of hr
  refine⟨_,Z1Y (Z3l PassesOwn.never rfl (Z4v (pe_ix Z2Z (Z2d (pv 0) rfl) (pv 1) (fun _ _=>rfl))) (Z2x (i:=3) scGoes.nd rfl (Or.inl rfl))
    (Z2c (ps_if (PW.pt (Z5L (Z2p op_ne (Z2d (pv 3) rfl) (Z2d (pv 0) rfl) (Z2n _)) (Z5L (Z2p op_gt (Z3I hu (Z2d (pv 3) rfl) (pv 2) (fun _ _=>rfl)) Z2f (Z2n _)) (Z6h (Z5g (Z2j (pv 0) T.cl mC GC hr bC .nil pass0 (Z1V (pv 1) (Z1V (pv 2) (Z1V (pv 3) Z2a)))))))))
      (Z2c (Z2k pe_bl)) Z2w)))
   (Z2c (Z2k pe_bl)),?_⟩
  have rx:=(S.ok.tnr x t tx).1
  have ht:=(S.ok.tnr x t tx).2
  have xn:=S.ok.rn x rx
  have lx:x<ls.length:=by rw [Y.len];exact xn
  obtain⟨r1,r2⟩:=Y.row x ls[x] (Z0l lx)
  have wl:=Y.wln x xn
  refine⟨_,rfl,A.sr,CS,A.dx,_,_,rfl,R.obj,T.cl,T.nw,sf_ways _ _,_,rfl,A.wl,_,_,.ref ls[x],rfl,rfl,SqL.of Y.top,Z3a (by rw [Z0n,Z0l lx];rfl),ls[x],rfl,⟨_,SqL.of r1⟩,
   Z5s (K:=K) (a:=ls[x]) (xs:=(ws x).map V.ref) (fun i σ H'=>∃ (v:Option V)(s1:MX.S)(q1:List (Nat×Int))(N1 M1:Nat),σ=[some (.ref A.sr),some (.int (x:Int)),some (.int t),v]∧Frm A H H'∧Rep CS n H' A c s1 q1 N1 M1∧Stb G n c T' s1 N1 M1∧Ext s q s1 q1 ∧
    ∀ z u f,s1.dn z u f↔s.dn z u f∨(z=x∧u=t∧f≠c∧0<G.room t f∧∃ y,(f,y)∈(E x).take i))
   ⟨none,s,q,N,M,rfl,Frm.refl _ _,R,S,Ext.refl _ _,fun z u f=>by simp⟩ (fun i σ H' _ h=>?_) ?_ ?_⟩
  ·obtain⟨v,s1,q1,N1,M1,_,fr,_⟩:=h
   exact SqL.of (fr _ _ r1 r2)
  ·rintro i y σ H1 hi ⟨v,s1,q1,N1,M1,rfl,fr,R1,S1,ex,hd⟩
   obtain⟨wr,hwr,rfl⟩:∃ wr,(ws x)[i]?=some wr∧y=V.ref wr:=by
    rw [Z0n]at hi
    cases e:(ws x)[i]? with
    |none=>rw [e]at hi;cases hi
    |some wr=>rw [e]at hi;exact⟨wr,rfl,(Option.some.inj hi).symm⟩
   have li:i<(E x).length:=by rw [←wl];exact(Z0p.mp hwr).1
   have hEi:(E x)[i]?=some (E x)[i]:=Z0l li
   generalize (E x)[i]=p at hEi
   obtain⟨e,y⟩:=p
   obtain⟨hW0,hO0⟩:=Y.way x i wr (e,y) xn hwr hEi
   have hW1:=hW0.frm fr hO0
   have hO1:=hO0.frm hW0 fr
   obtain⟨dw,dd,kw,hw1,hw2,hw3,hw4⟩:=id hW1
   have cov:=(Y.cov x e y xn).mp (Z0z hEi)
   have grm:DGet H1 dd (.int t) (some (.int (G.room t e))):=by rw [←WayAt.room hw3 hw4 ht];exact DGet.k (k:=.inl t) hw2
   have hnot:∀ y',(e,y')∉(E x).take i:=fun y' hm=>by
    have nd:=Y.unq x xn
    obtain⟨j,hj⟩:=List.getElem?_of_mem hm
    have hj1:=(Z0p.mp hj).1
    rw [Z1c]at hj1
    rw [List.getElem?_take_of_lt (by omega)]at hj
    have a1:((E x).map (·.1))[j]?=some e:=by rw [Z0n,hj];rfl
    have a2:((E x).map (·.1))[i]?=some e:=by rw [Z0n,hEi];rfl
    have:=(List.getElem?_inj (i:=j) (j:=i) (by rw [Z0c];omega) nd).mp (a1.trans a2.symm)
    omega
   have hnd1:¬ s1.dn x t e:=fun z=>by
    rcases(hd x t e).mp z with z |⟨_,_,_,_,y',hy'⟩
    ·exact hnd e z
    ·exact hnot y' hy'
   have tk:∀ (pp:Nat×Nat),pp∈(E x).take (i+1)↔pp∈(E x).take i∨pp=(e,y):=fun pp=>by
    rw [Z1q,hEi,Z0k];simp
   have skip:(e=c∨¬ 0<G.room t e)→∃ (v:Option V)(s2:MX.S)(q2:List (Nat×Int))(N2 M2:Nat),[some (V.ref A.sr),some (.int (x:Int)),some (.int t),some (.ref wr)]=[some (V.ref A.sr),some (.int (x:Int)),some (.int t),v]∧Frm A H H1∧Rep CS n H1 A c s2 q2 N2 M2∧Stb G n c T' s2 N2 M2∧Ext s q s2 q2 ∧
     ∀ z u f,s2.dn z u f↔s.dn z u f∨(z=x∧u=t∧f≠c∧0<G.room t f∧∃ y,(f,y)∈(E x).take (i+1)):=fun hh=>by
    refine⟨_,s1,q1,N1,M1,rfl,fr,R1,S1,ex,fun z u f=>?_⟩
    rw [hd]
    refine⟨fun h=>h.imp_right fun⟨a,b,c1,d,y',h⟩=>⟨a,b,c1,d,y',(tk _).mpr (.inl h)⟩,fun h=>h.imp_right fun⟨a,b,c1,d,y',h⟩=>⟨a,b,c1,d,y',?_⟩⟩
    rcases(tk _).mp h with h |h
    ·exact h
    ·injection h with h1 h2
     rw [h1]at c1 d
     rcases hh with hh |hh
     ·exact absurd hh c1
     ·exact absurd d hh
   refine⟨_,rfl,wr,CW,dw,_,_,rfl,hw1,W.cl,W.nb,Z7r _ _ _,_,rfl,A.sr,CS,A.dx,_,_,rfl,R1.obj,T.cl,T.nc,sf_cut _ _,rfl,_,rfl,ite2 (fun hc1=>?_) (fun hc1=>?_)⟩
   ·have hec:e≠c:=fun z=>by rw [z]at hc1;simp at hc1
    refine⟨_,rfl,wr,CW,dw,_,_,rfl,hw1,W.cl,W.nr,Z5v _ _ _,_,rfl,dd,_,rfl,grm,_,_,rfl,rfl,_,rfl,ite2 (fun hc2=>?_) (fun hc2=>?_)⟩
    ·have hro:0<G.room t e:=of_decide_eq_true hc2
     have tx1:s1.tn x t:=by obtain⟨r,_,h,_⟩:=ex;exact(h x t).mpr (.inl tx)
     refine⟨_,rfl,A.sr,A.dx,_,rfl,R1.obj,sno,_,rfl,_,rfl,_,rfl,A,n,c,N1,M1,s1,q1,G,T',x,y,e,t,wr,rfl,R1,S1,hW1,hO1,tx1,cov.1,hec,cov.2,hro,hnd1,fun H2 f2 hδ=>?_,fun H2 s2 q2 N2 M2 f2 R2 S2 e2 d2=>?_⟩
     ·exact⟨_,rfl,k1 H2 (fr.trans f2) hδ⟩
     ·refine⟨_,rfl,_,s2,q2,N2,M2,rfl,fr.trans f2,R2,S2,ex.trans e2,fun z u f=>?_⟩
      rw [d2,hd]
      constructor
      ·rintro((h |⟨a,b,c1,d,y',h⟩) |⟨rfl,rfl,rfl⟩)
       ·exact .inl h
       ·exact .inr ⟨a,b,c1,d,y',(tk _).mpr (.inl h)⟩
       ·exact .inr ⟨rfl,rfl,hec,hro,y,(tk _).mpr (.inr rfl)⟩
      ·rintro(h |⟨a,b,c1,d,y',h⟩)
       ·exact .inl (.inl h)
       ·rcases(tk _).mp h with h |h
        ·exact .inl (.inr ⟨a,b,c1,d,y',h⟩)
        ·injection h with h1 h2
         exact .inr ⟨a,b,h1⟩
    ·exact skip (.inr fun z=>hc2 (decide_eq_true z))
   ·exact skip (.inl (by
     by_cases z:e=c
     ·exact z
     ·exact absurd (show _=true by simp;omega) hc1))
  ·rintro σ H1 ⟨v,s1,q1,N1,M1,rfl,fr,R1,S1,ex,hd⟩
   refine k2 H1 s1 q1 N1 M1 fr R1 S1 ex fun z u f=>?_
   rw [hd,Z0c,wl,Z1r]
   refine or_congr Iff.rfl ⟨fun⟨a,b,c1,d,y,h⟩=>?_,fun⟨a,b,c1,d,e1,y,h⟩=>⟨a,b,c1,d,y,(Y.cov x f y xn).mpr ⟨e1,h⟩⟩⟩
   have:=(Y.cov x f y xn).mp h
   exact⟨a,b,c1,d,this.1,y,this.2⟩
end
section
variable{P:Program}{w:World}{K:Z0a}{mg:Str→Option Value}{base:Heap}{CS CW:Addr}
structure Wt(G:MX.Gr)(c:Nat)(s:MX.S)(q:List (Nat×Int)):Prop where
 nd:q.Nodup
 un:∀ p∈q,s.tn p.1 p.2∧∀ e,¬ s.dn p.1 p.2 e
 dn:∀ x t,s.tn x t→(x,t)∈q∨∀ e y,e<G.m→e≠c→MX.Jn (G.bd e) x y→0<G.room t e→s.dn x t e
def spBack(CS CW:Addr):Sp:=fun vs H Q _=>∃ (A:SA)(n c N M:Nat)(s:MX.S)(q:List (Nat×Int))(G:MX.Gr)(T:Int)(ls:List Addr)(ws:Nat→List Addr)(E:Nat→List (Nat×Nat)),vs=[.ref A.sr]∧Rep CS n H A c s q N M∧Stb G n c T s N M ∧
 Wys CW A G H ls ws E∧Wt G c s q∧∀ (b:Bool) H',Frm A H H'→(b=true↔∃ δ,G.Chg δ∧δ c=T)→Q (.bl b) H'
theorem scBack:Z2e ["self","state"] ["self"] (Z2b Z3j):=⟨rfl,rfl,rfl,by decide +kernel,rfl,by decide +kernel,by decide +kernel⟩
theorem okBack{f fG:Addr}{fd fdG:FuncData}(F:Fun K "comes_back" "Search.comes_back" Z3j f fd)(T:TS7 K mg CS)
  (GG:FnOk P w K mg base CX0 5 fG fdG ["self","atom","turn"] (spGoes CS CW))(mG:Meth K CS "goes_on" fG)(bG:Binds K fdG ["self","atom","turn"] []):FnOk P w K mg base CX0 6 f fd ["self"] (spBack CS CW):=by
 refine F.ok scBack (fun vs H Q E h=>?_) (fun cdv A' outer s' H vs Q E' hr h=>?_)
 ·obtain⟨A,n,c,N,M,s,q,G,T',ls,ws,E,rfl,_⟩:=h
  rfl
 ·obtain⟨A,n,c,N,M,s,q,G,T',ls,ws,E,rfl,R,S,Y,Wt0,k⟩:=h
  refine⟨_,Z1Y (Z4y PassesOwn.never (pt_truth (Z2d (pv 0) rfl) (fun _=>rfl))
    (Z1Y (Z2h (i:=1) scBack.nd rfl (Or.inl rfl) (pe_bm0 Z1g PySem.F.slot_list_pop PySem.F.type_list_pop mt_pop (Z2d (pv 0) rfl)))
    (Z2c (ps_if (Z5g (Z2j (pv 0) T.cl mG GG hr bG .nil pass0 (Z1V (pe_ix Z4l (pv 1) Z2f (fun _ _=>rfl)) (Z1V (pe_ix Z4l (pv 1) Z2f (fun _ _=>rfl)) Z2a)))) (Z2c (Z2k pe_bl)) Z2w))))
   (Z2c (Z2k pe_bl)),?_⟩
  refine while_m (fun m σ H'=>∃ (v:Option V)(s1:MX.S)(q1:List (Nat×Int))(N1 M1:Nat),σ=[some (.ref A.sr),v]∧m=2*MX.miss s1 n+q1.length∧Frm A H H'∧Rep CS n H' A c s1 q1 N1 M1∧Stb G n c T' s1 N1 M1∧Wt G c s1 q1) _ ⟨none,s,q,N,M,rfl,rfl,Frm.refl _ _,R,S,Wt0⟩ ?_ ?_
  ·rintro m σ H1 ⟨v,s1,q1,N1,M1,rfl,rfl,fr,R1,S1,W1⟩
   obtain⟨ts,hq,hT⟩:=R1.wat
   have htl:ts.length=q1.length:=by have:=hT.1;rw [Z0c]at this;exact this
   refine⟨_,rfl,A.sr,CS,A.dx,_,_,rfl,R1.obj,T.cl,T.nq,Z5q _ _,_,.inl ⟨_,SqL.of hq,rfl⟩,?_⟩
   rcases List.eq_nil_or_concat q1 with hq1 |⟨q0,p,hq1⟩
   ·
    subst hq1
    have:ts=[]:=Z1E htl
    subst this
    show Q (.bl false) H1
    refine k false H1 fr ⟨fun z=>(by cases z),fun⟨δ,hδ,e⟩=>?_⟩
    refine absurd e (MX.ended S1.ok S1.gok S1.cm S1.hT (fun x y t e' htn he hec hj hro=>?_) hδ)
    rcases W1.dn x t htn with h |h
    ·simp at h
    ·exact h e' y he hec hj hro
   ·rw [List.concat_eq_append]at hq1
    subst hq1
    obtain⟨x,t⟩:=p
    have hlen:ts.length=q0.length+1:=by rw [htl];simp
    obtain⟨ts0,tl,hts⟩:∃ ts0 tl,ts=ts0++[tl]:=by
     rcases List.eq_nil_or_concat ts with h |⟨a,b,h⟩
     ·rw [h]at hlen;simp at hlen
     ·exact⟨a,b,by rw [h,List.concat_eq_append]⟩
    subst hts
    have l0:ts0.length=q0.length:=by simp at hlen;exact hlen
    have htl1:H1 tl=some (.tup (([(x:Int),t]:List Int).map V.int)):=by
     refine hT.2 ts0.length tl _ (by simp) ?_
     rw [l0]
     simp
    have un:=W1.un (x,t) (by simp)
    have hne:(!((ts0++[tl]).map V.ref).isEmpty)=true:=by simp
    rw [hne]
    refine⟨_,rfl,A.sr,CS,A.dx,_,_,rfl,R1.obj,T.cl,T.nq,Z5q _ _,.inl ⟨rfl,_,SqL.of hq⟩,A.wq,_,.ref tl,rfl,rfl,hq,by simp,?_⟩
    have hdl:((ts0++[tl]).map V.ref).dropLast=ts0.map V.ref:=by rw [Z0D];simp
    rw [hdl]
    obtain⟨k1,a1,b1,l1⟩:=R1.bas
    obtain⟨k2,a2,b2,l2⟩:=R1.cby
    obtain⟨k3,a3,b3,l3⟩:=R1.cfr
    obtain⟨k4,a4,b4,l4⟩:=R1.trn
    have nd:=R1.nd
    simp only [Z0L,Z0d,Z0w,or_false,not_or]at nd
    obtain⟨⟨n1,n2,n3,n4⟩,⟨n5,n6,n7⟩,⟨n8,n9⟩,n10,_⟩:=nd
    have keep:∀ {a:Addr}{o:HO},H1 a=some o→a≠A.wq→upd H1 A.wq (.lst (ts0.map V.ref)) a=some o:=fun e h=>by rw [Z1W h];exact e
    have R2:Rep CS n (upd H1 A.wq (.lst (ts0.map V.ref))) A c s1 q0 N1 M1:=by
     refine⟨keep R1.obj (ne_of R1.obj hq (by intro z;cases z)),⟨k1,keep a1 n4,b1,l1⟩,⟨k2,keep a2 n7,b2,l2⟩,⟨k3,keep a3 n9,b3,l3⟩,⟨k4,keep a4 n10,b4,l4⟩,⟨ts0,Z1X,by rw [Z0c];exact l0,fun j t' m' e1 e2=>?_⟩,?_,R1.bud,R1.mle,R1.nn,R1.nd⟩
     ·have lj:=(Z0p.mp e1).1
      have lj2:j<q0.length:=by omega
      have z:=hT.2 j t' m' (by rw [Z0W lj];exact e1) (by rw [Z0D,Z0W (by rw [Z0c];exact lj2)];exact e2)
      exact keep z (ne_of z hq (by intro y;cases y))
     ·have:=R1.qle;simp at this;omega
    have fr2:=fr.upd (b:=A.wq) (o:=.lst (ts0.map V.ref)) (by simp)
    have Y2:=Y.frm fr2
    have htl2:upd H1 A.wq (.lst (ts0.map V.ref)) tl=some (.tup (([(x:Int),t]:List Int).map V.int)):=keep htl1 (ne_of htl1 hq (by intro z;cases z))
    refine⟨_,rfl,A.sr,A.dx,_,rfl,R2.obj,sno,_,rfl,tl,_,_,_,rfl,rfl,SqT.of htl2,rfl,_,rfl,tl,_,_,_,rfl,rfl,SqT.of htl2,rfl,A,n,c,N1,M1,s1,q0,G,T',ls,ws,E,x,t,rfl,R2,S1,Y2,un.1,un.2,fun H3 f3 hδ=>?_,fun H3 s3 q3 N3 M3 f3 R3 S3 e3 d3=>?_⟩
    ·exact⟨_,rfl,k true H3 (fr2.trans f3) ⟨fun _=>hδ,fun _=>rfl⟩⟩
    ·obtain⟨r,hr3,ht3,hn3,hnd3⟩:=e3
     subst hr3
     have valid:∀ p∈r,p.1<n∧(p.2=1∨p.2=-1):=fun p hp=>by
      have:=S3.ok.tnr p.1 p.2 ((ht3 p.1 p.2).mpr (.inr hp))
      exact⟨by rw [←S3.gn];exact S3.ok.rn _ this.1,this.2⟩
     have hm:=MX.ZaA (n:=n) ht3 hn3 hnd3 valid
     have hxq:(x,t)∉q0:=fun h=>by
      have:=W1.nd
      rw [Z1h]at this
      exact this.2.2 (x,t) h (x,t) (by simp) rfl
     refine⟨_,rfl,2*MX.miss s3 n+(q0++r).length,?_,_,s3,q0++r,N3,M3,rfl,rfl,fr2.trans f3,R3,S3,⟨?_,fun p hp=>?_,fun z u hz=>?_⟩⟩
     ·simp only [Z0A,Z0s,Z0Q]
      omega
     ·have nd0:q0.Nodup:=(Z1h.mp W1.nd).1
      exact Z1h.mpr ⟨nd0,hnd3,fun a ha b hb z=>hn3 b hb (by rw [←z];exact(W1.un a (by simp [ha])).1)⟩
     ·rcases Z0k.mp hp with hp |hp
      ·obtain⟨u1,u2⟩:=W1.un p (by simp [hp])
       refine⟨(ht3 _ _).mpr (.inl u1),fun e h=>?_⟩
       rcases(d3 _ _ _).mp h with h |⟨h1,h2,_⟩
       ·exact u2 e h
       ·have:p=(x,t):=by rw [←h1,←h2]
        rw [this]at hp
        exact hxq hp
      ·refine⟨(ht3 _ _).mpr (.inr hp),fun e h=>?_⟩
       rcases(d3 _ _ _).mp h with h |⟨h1,h2,_⟩
       ·exact hn3 p hp (S1.ok.d1 _ _ _ h).1
       ·have:p=(x,t):=by rw [←h1,←h2]
        exact hn3 p hp (by rw [this];exact un.1)
     ·rcases(ht3 z u).mp hz with h |h
      ·rcases W1.dn z u h with h2 |h2
       ·rcases Z0k.mp h2 with h2 |h2
        ·exact .inl (Z0K _ h2)
        ·right
         intro e y he hec hj hro
         have h2:=Z0i.mp h2
         injection h2 with h3 h4
         subst h3 h4
         exact(d3 _ _ _).mpr (.inr ⟨rfl,rfl,hec,hro,he,y,hj⟩)
       ·exact .inr fun e y he hec hj hro=>(d3 _ _ _).mpr (.inl (h2 e y he hec hj hro))
      ·exact .inl (Z0J _ h)
  ·rintro σ H1 Q1 Q2 hq ⟨v,e,a,C,dx,fs,v',h1,h2,h3,h4,h5,k',h6,q'⟩
   exact⟨v,e,a,C,dx,fs,v',h1,h2,h3,h4,h5,k',h6,hq _ _ q'⟩
end
def bf(a b o sd:Int):List (Str×V):=[("a",.int a),("b",.int b),("order",.int o),("side",.int sd)]
theorem bf_a(a b o sd:Int):(bf a b o sd).lookup ("a" : Str)=some (.int a):=by
 unfold bf;rw [Z0b,show(("a" : Str)=="a")=true by decide]
theorem bf_b(a b o sd:Int):(bf a b o sd).lookup ("b" : Str)=some (.int b):=by
 unfold bf;rw [Z0b,show(("b" : Str)=="a")=false by decide,Z0b,show(("b" : Str)=="b")=true by decide]
theorem Z6o(a b o sd:Int):(bf a b o sd).lookup ("order" : Str)=some (.int o):=by
 unfold bf;rw [Z0b,show(("order" : Str)=="a")=false by decide,Z0b,show(("order" : Str)=="b")=false by decide,Z0b,show(("order" : Str)=="order")=true by decide]
theorem bf_side(a b o sd:Int):(bf a b o sd).lookup ("side" : Str)=some (.int sd):=by
 unfold bf;rw [Z0b,show(("side" : Str)=="a")=false by decide,Z0b,show(("side" : Str)=="b")=false by decide,Z0b,show(("side" : Str)=="order")=false by decide,Z0b,show(("side" : Str)=="side")=true by decide]
def BondAt(CB:Addr)(H:Hp)(r:Addr)(a b:Nat)(o sd:Int):Prop:=∃ dx,H r=some (.ins CB dx (bf a b o sd))
structure TBd(K:Z0a)(CB:Addr):Prop where
 cl:Cls K CB
 na:NoAttr K CB "a"
 nb:NoAttr K CB "b"
 no:NoAttr K CB "order"
 ns:NoAttr K CB "side"
structure Bds(CB:Addr)(G:MX.Gr)(H:Hp)(bl:Addr)(bs:List Addr)(sd:Nat→Int):Prop where
 top:H bl=some (.lst (bs.map V.ref))
 len:bs.length=G.m
 bond:∀ e r,bs[e]?=some r→BondAt CB H r (G.bd e).a (G.bd e).b (G.bd e).o (sd e)
theorem Bds.same{CB:Addr}{G:MX.Gr}{H H':Hp}{bl:Addr}{bs:List Addr}{sd:Nat→Int}(h:Bds CB G H bl bs sd)(s:L2.Same H H'):Bds CB G H' bl bs sd :=
 ⟨s _ _ h.top,h.len,fun e r z=>let ⟨dx,q⟩:=h.bond e r z;⟨dx,s _ _ q⟩⟩
structure Wys0(CW:Addr)(G:MX.Gr)(H:Hp)(wl:Addr)(ls:List Addr)(ws:Nat→List Addr)(E:Nat→List (Nat×Nat)):Prop where
 top:H wl=some (.lst (ls.map V.ref))
 len:ls.length=G.n
 row:∀ (x:Nat) l,ls[x]?=some l→H l=some (.lst ((ws x).map V.ref))
 wln:∀ x,x<G.n→(ws x).length=(E x).length
 way:∀ (x j:Nat) r p,x<G.n→(ws x)[j]?=some r→(E x)[j]?=some p→WayAt CW H r p.1 p.2 (G.bd p.1).o
 cov:∀ x e y,x<G.n→((e,y)∈E x↔e<G.m∧MX.Jn (G.bd e) x y)
 unq:∀ x,x<G.n→((E x).map (·.1)).Nodup
theorem Wys0.same{CW:Addr}{G:MX.Gr}{H H':Hp}{wl:Addr}{ls:List Addr}{ws:Nat→List Addr}{E:Nat→List (Nat×Nat)}(h:Wys0 CW G H wl ls ws E)(s:L2.Same H H'):Wys0 CW G H' wl ls ws E :=
 ⟨s _ _ h.top,h.len,fun x l e=>s _ _ (h.row x l e),h.wln,fun x j r p hx e1 e2=>let ⟨dx,d,kvs,a,b,c⟩:=h.way x j r p hx e1 e2;⟨dx,d,kvs,s _ _ a,s _ _ b,c⟩,h.cov,h.unq⟩
theorem Wys0.wys{CW:Addr}{A:SA}{G:MX.Gr}{H H':Hp}{ls:List Addr}{ws:Nat→List Addr}{E:Nat→List (Nat×Nat)}(h:Wys0 CW G H A.wl ls ws E)(new:∀ b∈A.mut,H b=none)(s:L2.Same H H'):Wys CW A G H' ls ws E:=by
 have off:∀ {b:Addr}{o:HO},H b=some o→b∉A.mut:=fun e hb=>by rw [new _ hb]at e;cases e
 refine⟨s _ _ h.top,off h.top,h.len,fun x l e=>⟨s _ _ (h.row x l e),off (h.row x l e)⟩,h.wln,fun x j r p hx e1 e2=>?_,h.cov,h.unq⟩
 obtain⟨dx,d,kvs,a,b,c⟩:=h.way x j r p hx e1 e2
 refine⟨⟨dx,d,kvs,s _ _ a,s _ _ b,c⟩,off a,fun dx' fs' d' h1 h2=>?_⟩
 rw [s _ _ a]at h1
 cases h1
 rw [Z5v]at h2
 cases h2
 exact off b
section
variable{P:Program}{w:World}{K:Z0a}{mg:Str→Option Value}{base:Heap}{CS CW CB:Addr}
def spSI(CS:Addr):Sp:=fun vs H Q _=>∃ (sr dx wl:Addr)(c:Nat),vs=[.ref sr,.ref wl,.int (c:Int)]∧H sr=some (.ins CS dx []) ∧
 ∀ (H':Hp)(A:SA),A.sr=sr→A.dx=dx→A.wl=wl→H' sr=some (.ins CS dx (A.flds c))→H' A.db=some (.dK [(.inl (-1),.int (-1))])→H' A.cb=some (.dK [])→H' A.cf=some (.dK [])→H' A.tn=some (.dT [])→H' A.wq=some (.lst []) →
  A.mut.Nodup→(∀ b∈A.mut,H b=none)→Only sr H H'→Q .non H'
theorem scSI:Z2e ["self","ways","cut"] ["self","ways","cut"] (Z2b Z3S):=⟨rfl,rfl,rfl,by decide +kernel,rfl,by decide +kernel,by decide +kernel⟩
theorem okSI{f:Addr}{fd:FuncData}(F:Fun K "__init__" "Search.__init__" Z3S f fd)(T:TS7 K mg CS):FnOk P w K mg base CX0 1 f fd ["self","ways","cut"] (spSI CS):=by
 refine F.ok scSI (fun vs H Q E h=>?_) (fun cdv A' outer s' H vs Q E hr h=>?_)
 ·obtain⟨sr,dx,wl,c,rfl,_⟩:=h
  rfl
 ·obtain⟨sr,dx,wl,c,rfl,ho,k⟩:=h
  refine⟨_,Z1Y (Z2t (pv 0) (pv 1) rfl) (Z1Y (Z2t (pv 0) (pv 2) rfl)
   (Z1Y (Z2t (pv 0) (Z7u (Z4z (pe_gc rfl T.md) (pe_gc rfl T.md) Z7q) rfl rfl (by decide) (by decide)) rfl)
   (Z1Y (Z2t (pv 0) Z8b rfl) (Z1Y (Z2t (pv 0) Z8b rfl) (Z1Y (Z2t (pv 0) pe_dnewT rfl) (Z2c (Z2t (pv 0) (Z3n Z2a) rfl))))))),?_⟩
  refine⟨_,rfl,_,rfl,sr,CS,dx,[],rfl,ho,T.cl,T.nw,(by show 0<1000;decide),?_⟩
  refine⟨_,rfl,_,rfl,sr,CS,dx,_,rfl,Z1X,T.cl,T.nc,(by show 1<1000;decide),?_⟩
  rw [Z2F]
  intro db hdb
  refine⟨Z1X,[(.inl (-1),.int (-1))],rfl,(by show 1≤15;decide),?_⟩
  rw [Z2F]
  have n1:sr≠db:=Z1Z Z1X hdb
  refine⟨_,rfl,sr,CS,dx,_,rfl,by rw [Z1W n1,Z1X],T.cl,T.nb,(by show 2<1000;decide),?_⟩
  intro cb hcb
  have n2:sr≠cb:=Z1Z Z1X hcb
  have n2':db≠cb:=fun z=>by rw [←z,Z1W (Ne.symm n1),Z1X]at hcb;cases hcb
  refine⟨_,rfl,sr,CS,dx,_,rfl,by rw [Z1W n2,Z1X],T.cl,T.ny,(by show 3<1000;decide),?_⟩
  intro cf hcf
  have n3:sr≠cf:=Z1Z Z1X hcf
  have n3':cb≠cf:=fun z=>by rw [←z,Z1W (Ne.symm n2),Z1X]at hcf;cases hcf
  have n3'':db≠cf:=fun z=>by rw [←z,Z1W (Ne.symm n1),Z1W n2',Z1W (Ne.symm n1),Z1X]at hcf;cases hcf
  refine⟨_,rfl,sr,CS,dx,_,rfl,by rw [Z1W n3,Z1X],T.cl,T.nf,(by show 4<1000;decide),?_⟩
  intro tn htn
  have n4:sr≠tn:=Z1Z Z1X htn
  have n4a:cf≠tn:=fun z=>by rw [←z,Z1W (Ne.symm n3),Z1X]at htn;cases htn
  have n4b:cb≠tn:=fun z=>by rw [←z,Z1W (Ne.symm n2),Z1W n3',Z1W (Ne.symm n2),Z1X]at htn;cases htn
  have n4c:db≠tn:=fun z=>by rw [←z,Z1W (Ne.symm n1),Z1W n3'',Z1W (Ne.symm n1),Z1W n2',Z1W (Ne.symm n1),Z1X]at htn;cases htn
  refine⟨_,rfl,sr,CS,dx,_,rfl,by rw [Z1W n4,Z1X],T.cl,T.nt,(by show 5<1000;decide),?_⟩
  refine⟨Z0q _,fun wq hwq=>?_⟩
  have n5:sr≠wq:=Z1Z Z1X hwq
  have n5a:tn≠wq:=fun z=>by rw [←z,Z1W (Ne.symm n4),Z1X]at hwq;cases hwq
  have n5b:cf≠wq:=fun z=>by rw [←z,Z1W (Ne.symm n3),Z1W n4a,Z1W (Ne.symm n3),Z1X]at hwq;cases hwq
  have n5c:cb≠wq:=fun z=>by rw [←z,Z1W (Ne.symm n2),Z1W n4b,Z1W (Ne.symm n2),Z1W n3',Z1W (Ne.symm n2),Z1X]at hwq;cases hwq
  have n5d:db≠wq:=fun z=>by rw [←z,Z1W (Ne.symm n1),Z1W n4c,Z1W (Ne.symm n1),Z1W n3'',Z1W (Ne.symm n1),Z1W n2',Z1W (Ne.symm n1),Z1X]at hwq;cases hwq
  refine⟨_,rfl,sr,CS,dx,_,rfl,by rw [Z1W n5,Z1X],T.cl,T.nq,(by show 6<1000;decide),?_⟩
  have free:∀ {b:Addr}{o:HO}{H1:Hp},(L2.upd H1 sr o) b=none→b≠sr∧H1 b=none:=fun{b o H1} h=>by
   have e:b≠sr:=fun z=>by rw [z,Z1X]at h;cases h
   exact⟨e,by rw [Z1W e]at h;exact h⟩
  refine k _ ⟨sr,dx,wl,db,cb,cf,tn,wq⟩ rfl rfl rfl ?_ ?_ ?_ ?_ ?_ ?_ ?_ ?_ ?_
  ·rw [Z1X];rfl
  ·rw [Z1W (Ne.symm n1),Z1W n5d,Z1W (Ne.symm n1),Z1W n4c,Z1W (Ne.symm n1),Z1W n3'',Z1W (Ne.symm n1),Z1W n2',Z1W (Ne.symm n1),Z1X];rfl
  ·rw [Z1W (Ne.symm n2),Z1W n5c,Z1W (Ne.symm n2),Z1W n4b,Z1W (Ne.symm n2),Z1W n3',Z1W (Ne.symm n2),Z1X]
  ·rw [Z1W (Ne.symm n3),Z1W n5b,Z1W (Ne.symm n3),Z1W n4a,Z1W (Ne.symm n3),Z1X]
  ·rw [Z1W (Ne.symm n4),Z1W n5a,Z1W (Ne.symm n4),Z1X]
  ·rw [Z1W (Ne.symm n5),Z1X]
  ·simp only [Z0L,Z0d,Z0w,or_false,not_or]
   exact⟨⟨n2',n3'',n4c,n5d⟩,⟨n3',n4b,n5c⟩,⟨n4a,n5b⟩,n5a,not_false,Z1B⟩
  ·intro b hb
   simp only [Z0d,Z0w,or_false]at hb
   rcases hb with rfl |rfl |rfl |rfl |rfl
   ·exact(free hdb).2
   ·have:=(free hcb).2;rw [Z1W (Ne.symm n2')]at this;exact(free this).2
   ·have:=(free hcf).2;rw [Z1W (Ne.symm n3')]at this;have:=(free this).2;rw [Z1W (Ne.symm n3'')]at this;exact(free this).2
   ·have:=(free htn).2;rw [Z1W (Ne.symm n4a)]at this;have:=(free this).2;rw [Z1W (Ne.symm n4b)]at this;have:=(free this).2;rw [Z1W (Ne.symm n4c)]at this;exact(free this).2
   ·have:=(free hwq).2;rw [Z1W (Ne.symm n5a)]at this;have:=(free this).2;rw [Z1W (Ne.symm n5b)]at this;have:=(free this).2;rw [Z1W (Ne.symm n5c)]at this;have:=(free this).2;rw [Z1W (Ne.symm n5d)]at this;exact(free this).2
  ·exact(((((((((((Only.refl sr H).trans (Only.upd _)).new hdb).trans (Only.upd _)).new hcb).trans (Only.upd _)).new hcf).trans (Only.upd _)).new htn).trans (Only.upd _)).new hwq).trans (Only.upd _)
end
def s00(c:Nat)(T:Int):MX.S where
 re:=fun _=>False
 root:=fun x=>x
 rk:=fun _=>1
 nx:=0
 cb:=fun _=>c
 cf:=fun _=>none
 ar:=fun _=>T
 tn:=fun _ _=>False
 dn:=fun _ _ _=>False
section
variable{P:Program}{w:World}{K:Z0a}{mg:Str→Option Value}{base:Heap}{CS CW CB:Addr}
def spGo(CW CB:Addr):Sp:=fun vs H Q _=>∃ (wl bl:Addr)(c:Nat)(T:Int)(G:MX.Gr)(ls:List Addr)(ws:Nat→List Addr)(E:Nat→List (Nat×Nat))(bs:List Addr)(sd:Nat→Int),vs=[.ref wl,.ref bl,.int (c:Int),.int T]∧Wys0 CW G H wl ls ws E∧Bds CB G H bl bs sd ∧
 G.Ok∧G.n≤128∧c<G.m∧(G.bd c).o=2∧(T=1∨T=-1)∧∀ (b:Bool) H',L2.Same H H'→(b=true↔∃ δ,G.Chg δ∧δ c=T)→Q (.bl b) H'
theorem scGo:Z2e ["ways","bonds","number","turn","search"] ["ways","bonds","number","turn"] (Z2b Z5Q):=⟨rfl,rfl,rfl,by decide +kernel,rfl,by decide +kernel,by decide +kernel⟩
theorem okGo{f fI fR fB:Addr}{fd fdI fdR fdB:FuncData}(F:Fun K "can_go" "can_go" Z5Q f fd)(T:TS7 K mg CS)(B:TBd K CB)(M:Mk K CS fI)(hC:mg "Search" = some (.ref CS))
  (GI:FnOk P w K mg base CX0 1 fI fdI ["self","ways","cut"] (spSI CS))(bI:Binds K fdI ["self","ways","cut"] [])
  (GR:FnOk P w K mg base CX0 2 fR fdR ["self","atom","before","bond","turn"] (Z7o CS))(mR:Meth K CS "reach" fR)(bR:Binds K fdR ["self","atom","before","bond","turn"] [])
  (GB:FnOk P w K mg base CX0 6 fB fdB ["self"] (spBack CS CW))(mB:Meth K CS "comes_back" fB)(bB:Binds K fdB ["self"] []) :
  FnOk P w K mg base CX0 7 f fd ["ways","bonds","number","turn"] (spGo CW CB):=by
 refine F.ok scGo (fun vs H Q E h=>?_) (fun cdv A' outer s' H vs Q E' hr h=>?_)
 ·obtain⟨wl,bl,c,T',G,ls,ws,E,bs,sd,rfl,_⟩:=h
  rfl
 ·obtain⟨wl,bl,c,T',G,ls,ws,E,bs,sd,rfl,Y,D,hG,hn,hc,ho,hT,k⟩:=h
  have hr2:Room 2 _:=hr.mono (by decide)
  refine⟨_,Z1Y (Z2h (i:=4) scGo.nd rfl (Or.inl rfl) (Z3p M GI hr2 rfl hC bI .nil pass0 (Z1V (pv 0) (Z1V (pv 2) Z2a))))
   (Z1Y (Z2r (Z2j (pv 4) T.cl mR GR hr2 bR .nil pass0 (Z1V (Z2d (pe_ix Z2Z (pv 1) (pv 2) (fun _ _=>rfl)) rfl) (Z1V (pe_gc rfl T.md) (Z1V (pv 2) (Z1V (pe_un Z8U (pv 3)) Z2a))))))
   (Z1Y (Z2r (Z2j (pv 4) T.cl mR GR hr2 bR .nil pass0 (Z1V (Z2d (pe_ix Z2Z (pv 1) (pv 2) (fun _ _=>rfl)) rfl) (Z1V (pe_gc rfl T.md) (Z1V (pv 2) (Z1V (pe_un Z8U (pv 3)) Z2a))))))
   (Z2c (Z2k (Z6r (pv 4) T.cl mB GB hr bB .nil pass0))))),?_⟩
  refine⟨_,rfl,_,rfl,fun x dx nx nd ndx=>⟨x,dx,wl,c,rfl,Z1X,fun H1 A e1 e2 e3 g1 g2 g3 g4 g5 g6 nod new o1=>⟨rfl,?_⟩⟩⟩
  subst e1 e2 e3
  have new0:∀ b∈A.mut,H b=none:=fun b hb=>by
   have:=new b hb
   cases q:H b with
   |none=>rfl
   |some o =>
    rw [Z1W (Z1Z q nx),Z1W (Z1Z q nd),q]at this;cases this
  have s1:L2.Same H H1:=fun b o e=>o1 b o (by rw [Z1W (Z1Z e nx),Z1W (Z1Z e nd)];exact e) (Z1Z e nx)
  have R1:Rep CS G.n H1 A c (s00 c T') [] 0 1:=by
   refine⟨g1,⟨_,g2,⟨rfl,fun x h=>h.elim,fun x _=>?_⟩,Z0e _⟩,⟨_,g3,fun x h=>h.elim,Z0q _⟩,⟨_,g4,fun x h=>h.elim,Z0q _⟩,⟨_,g5,fun x t=>⟨fun z=>?_,fun z=>z.elim⟩,Z0e _⟩,⟨[],g6,rfl,fun j t m a b=>?_⟩,Z0e _,?_,by decide,hn,nod⟩
   ·unfold valV;rw [List.find?_cons_of_neg (by simp only [decide_eq_true_eq];rw [Z2N];omega)];rfl
   ·cases z
   ·cases a
   ·unfold MX.miss
    have a1:=MX.cnt_le G.n (fun x=>¬ (s00 c T').tn x 1)
    have a2:=MX.cnt_le G.n (fun x=>¬ (s00 c T').tn x (-1))
    omega
  have sF:∀ {H'},Frm A H1 H'→L2.Same H H':=fun fr b o e=>fr b o (s1 b o e) fun hb=>by rw [new0 b hb]at e;cases e
  have lc:c<bs.length:=by rw [D.len];exact hc
  have bc:bs[c]?=some bs[c]:=Z0l lc
  have bc':(bs.map V.ref)[c]?=some (.ref bs[c]):=by rw [Z0n,bc];rfl
  have D1:=D.same s1
  obtain⟨db1,hb1⟩:=D1.bond c _ bc
  refine⟨_,rfl,A.sr,A.dx,_,rfl,R1.obj,sno,_,rfl,_,rfl,bl,_,_,_,rfl,rfl,SqL.of D1.top,Z3a bc',bs[c],CB,db1,_,_,rfl,hb1,B.cl,B.na,bf_a _ _ _ _,_,rfl,_,rfl,_,rfl,
   A,G.n,c,0,1,s00 c T',[],(G.bd c).a,c,-1,-T',none,rfl,R1,by decide,hG.an c hc,id,fun x v h=>h.elim,fun x h=>h.elim,by omega,rfl,fun H2 q2 N2 f2 R2 hN2 e2=>?_⟩
  subst hN2
  have D2:=D.same (sF f2)
  obtain⟨db2,hb2⟩:=D2.bond c _ bc
  refine⟨_,rfl,A.sr,A.dx,_,rfl,R2.obj,sno,_,rfl,_,rfl,bl,_,_,_,rfl,rfl,SqL.of D2.top,Z3a bc',bs[c],CB,db2,_,_,rfl,hb2,B.cl,B.nb,bf_b _ _ _ _,_,rfl,_,rfl,_,rfl,
   A,G.n,c,_,_,_,q2,(G.bd c).b,c,-1,-T',none,rfl,R2,by decide,hG.bn c hc,?n1,?n2,?n3,by omega,rfl,fun H3 q3 N3 f3 R3 hN3 e3=>?_⟩
  case n1=>exact fun h=>Or.elim h id fun z=>hG.ne c hc z.symm
  case n2=>exact fun x v h=>.inr (Or.elim h False.elim fun z=>z.1)
  case n3 =>
   intro x h
   right
   show(if x=(G.bd c).a then(G.bd c).a else x)=(G.bd c).a
   rcases h with h |h
   ·exact h.elim
   ·rw [if_pos h]
  subst hN3
  have fr3:=f2.trans f3
  have hab:=hG.ne c hc
  have R4:Rep CS G.n H3 A c (MX.S.start G c T') q3 2 3:=by
   refine R3.congr ?_ ?_ ?_ ?_ ?_ ?_
   ·funext z
    exact propext ⟨fun h=>h.elim (fun h=>.inl (.inr h)) .inr,fun h=>h.elim (fun h=>h.elim False.elim .inl) .inr⟩
   ·funext z
    show z=if z=(G.bd c).b then(G.bd c).b else if z=(G.bd c).a then(G.bd c).a else z
    split
    ·assumption
    ·split
     ·assumption
     ·rfl
   ·funext z
    show(if z=(G.bd c).a then 0 else 1)=if z=(G.bd c).b then 1 else if z=(G.bd c).a then 0 else 1
    by_cases h:z=(G.bd c).b
    ·rw [if_pos h,if_neg (by rw [h];exact Ne.symm hab)]
    ·rw [if_neg h]
   ·funext z
    show c=if z=(G.bd c).b then c else if z=(G.bd c).a then c else c
    simp
   ·funext z
    show none=if z=(G.bd c).b then none else if z=(G.bd c).a then none else none
    simp
   ·funext z u
    show((z=(G.bd c).a∨z=(G.bd c).b)∧u=-T')=((False∨(z=(G.bd c).a∧u=-T'))∨(z=(G.bd c).b∧u=-T'))
    refine propext ⟨fun⟨h1,h2⟩=>h1.elim (fun h=>.inl (.inr ⟨h,h2⟩)) fun h=>.inr ⟨h,h2⟩,fun h=>?_⟩
    rcases h with(h |⟨h1,h2⟩) |⟨h1,h2⟩
    ·exact h.elim
    ·exact⟨.inl h1,h2⟩
    ·exact⟨.inr h1,h2⟩
  have ex:Ext (s00 c T') [] (MX.S.start G c T') q3:=(e2.trans e3).tn (by
    funext z u
    show((z=(G.bd c).a∨z=(G.bd c).b)∧u=-T')=((False∨(z=(G.bd c).a∧u=-T'))∨(z=(G.bd c).b∧u=-T'))
    refine propext ⟨fun⟨h1,h2⟩=>h1.elim (fun h=>.inl (.inr ⟨h,h2⟩)) fun h=>.inr ⟨h,h2⟩,fun h=>?_⟩
    rcases h with(h |⟨h1,h2⟩) |⟨h1,h2⟩
    ·exact h.elim
    ·exact⟨.inl h1,h2⟩
    ·exact⟨.inr h1,h2⟩)
  obtain⟨r,hr',ht',hn',hd'⟩:=ex
  have hr'':q3=r:=by rw [hr'];rfl
  subst hr''
  have Wt0:Wt G c (MX.S.start G c T') q3:=⟨hd',fun p hp=>⟨(ht' _ _).mpr (.inr hp),fun e h=>h.elim⟩,fun x t h=>.inl ((ht' x t).mp h |>.elim False.elim id)⟩
  have S4:Stb G G.n c T' (MX.S.start G c T') 2 3:=⟨MX.start_ok hG hc hT,hG,rfl,hc,ho,hT,by decide,by show 2≤2;decide⟩
  refine⟨_,rfl,A.sr,A.dx,_,rfl,R4.obj,sno,A,G.n,c,2,3,_,q3,G,T',ls,ws,E,rfl,R4,S4,Y.wys new0 (sF fr3),Wt0,fun b H4 f4 hb=>?_⟩
  exact k b H4 (sF (fr3.trans f4)) hb
def spFix(CW CB:Addr):Sp:=fun vs H Q _=>∃ (wl bl:Addr)(c:Nat)(G:MX.Gr)(ls:List Addr)(ws:Nat→List Addr)(E:Nat→List (Nat×Nat))(bs:List Addr)(sd:Nat→Int),vs=[.ref wl,.ref bl,.int (c:Int)]∧Wys0 CW G H wl ls ws E∧Bds CB G H bl bs sd ∧
 G.Ok∧G.n≤128∧c<G.m∧(G.bd c).o=2∧∀ (b:Bool) H',L2.Same H H'→(b=true↔∀ δ,G.Chg δ→δ c=0)→Q (.bl b) H'
theorem scFix:Z2e ["ways","bonds","number"] ["ways","bonds","number"] (Z2b Z3o):=⟨rfl,rfl,rfl,by decide +kernel,rfl,by decide +kernel,by decide +kernel⟩
theorem okFix{f fG:Addr}{fd fdG:FuncData}(F:Fun K "is_fixed_double" "is_fixed_double" Z3o f fd)(T:TS7 K mg CS)
  (GG:FnOk P w K mg base CX0 7 fG fdG ["ways","bonds","number","turn"] (spGo CW CB))(mG:mg "can_go" = some (.ref fG))(kG:PySem.W.keepIn K (.ref fG)=true)(bG:Binds K fdG ["ways","bonds","number","turn"] []) :
  FnOk P w K mg base CX0 8 f fd ["ways","bonds","number"] (spFix CW CB):=by
 refine F.ok scFix (fun vs H Q E h=>?_) (fun cdv A' outer s' H vs Q E' hr h=>?_)
 ·obtain⟨wl,bl,c,G,ls,ws,E,bs,sd,rfl,_⟩:=h
  rfl
 ·obtain⟨wl,bl,c,G,ls,ws,E,bs,sd,rfl,Y,D,hG,hn,hc,ho,k⟩:=h
  refine⟨_,Z2c (Z2k (Z5N (pe_not (Z2m GG hr rfl mG kG bG .nil pass0 (Z1V (pv 0) (Z1V (pv 1) (Z1V (pv 2) (Z1V (pe_gc rfl T.up) Z2a)))))) (Z6E (pe_not (Z2m GG hr rfl mG kG bG .nil pass0 (Z1V (pv 0) (Z1V (pv 1) (Z1V (pv 2) (Z1V (pe_gc rfl T.dn) Z2a))))))))),?_⟩
  have key:(∀ δ,G.Chg δ→δ c=0)↔¬ (∃ δ,G.Chg δ∧δ c=1)∧¬ (∃ δ,G.Chg δ∧δ c=-1):=by
   refine⟨fun h=>⟨fun⟨δ,a,b⟩=>?_,fun⟨δ,a,b⟩=>?_⟩,fun⟨h1,h2⟩ δ hδ=>?_⟩
   ·rw [h δ a]at b;cases b
   ·rw [h δ a]at b;cases b
   ·have u:=hδ.up c hc
    have d:=hδ.dn c hc
    have n1:δ c≠1:=fun z=>h1 ⟨δ,hδ,z⟩
    have n2:δ c≠-1:=fun z=>h2 ⟨δ,hδ,z⟩
    omega
  refine⟨_,rfl,_,rfl,_,rfl,wl,bl,c,1,G,ls,ws,E,bs,sd,rfl,Y,D,hG,hn,hc,ho,.inl rfl,fun b H1 s1 hb=>⟨_,rfl,_,rfl,ite2 (fun h=>?_) (fun h=>?_)⟩⟩
  ·refine⟨_,rfl,_,rfl,_,rfl,wl,bl,c,-1,G,ls,ws,E,bs,sd,rfl,Y.same s1,D.same s1,hG,hn,hc,ho,.inr rfl,fun b2 H2 s2 hb2=>⟨_,rfl,k _ H2 (fun a o e=>s2 a o (s1 a o e)) ?_⟩⟩
   rw [key,←hb,←hb2]
   cases b with
   |true=>cases h
   |false=>cases b2<;>simp
  ·refine k false H1 s1 ?_
   rw [key,←hb]
   cases b with
   |true=>simp
   |false=>exact absurd rfl h
end
end BK
end
section
namespace MX
def Gr.at_(G:Gr):Nat→Nat→List (Nat×Nat)
 |0,_=>[]
 |i+1,x=>(G.at_ i x++if x=(G.bd i).a then[(i,(G.bd i).b)]else[])++if x=(G.bd i).b then[(i,(G.bd i).a)]else[]
theorem Gr.mem_at(G:Gr)(x e y:Nat):∀ i,(e,y)∈G.at_ i x↔e<i∧Jn (G.bd e) x y
 |0=>by unfold Gr.at_;simp
 |i+1=>by
  unfold Gr.at_ Jn
  rw [Z0k,Z0k,G.mem_at x e y i]
  have h1:(e,y)∈(if x=(G.bd i).a then[(i,(G.bd i).b)]else[])↔x=(G.bd i).a∧e=i∧y=(G.bd i).b:=by
   split<;>simp_all
  have h2:(e,y)∈(if x=(G.bd i).b then[(i,(G.bd i).a)]else[])↔x=(G.bd i).b∧e=i∧y=(G.bd i).a:=by
   split<;>simp_all
  rw [h1,h2]
  unfold Jn
  constructor
  ·rintro((⟨h,k⟩ |⟨a,rfl,c⟩) |⟨a,rfl,c⟩)
   ·exact⟨by omega,k⟩
   ·exact⟨by omega,.inl ⟨a.symm,c.symm⟩⟩
   ·exact⟨by omega,.inr ⟨a.symm,c.symm⟩⟩
  ·rintro⟨h,k⟩
   by_cases z:e<i
   ·exact .inl (.inl ⟨z,k⟩)
   ·have:e=i:=by omega
    subst this
    rcases k with⟨a,c⟩ |⟨a,c⟩
    ·exact .inl (.inr ⟨a.symm,rfl,c.symm⟩)
    ·exact .inr ⟨a.symm,rfl,c.symm⟩
theorem Gr.at_nd(G:Gr)(x:Nat):∀ i,(∀ e,e<i→(G.bd e).a≠(G.bd e).b)→((G.at_ i x).map (·.1)).Nodup
 |0,_=>by unfold Gr.at_;simp
 |i+1,h=>by
  have ih:=G.at_nd x i fun e he=>h e (by omega)
  have hi:=h i (by omega)
  have lt:∀ e∈(G.at_ i x).map (·.1),e<i:=fun e he=>by
   obtain⟨⟨e',y'⟩,hp,rfl⟩:=Z0N.mp he
   exact((G.mem_at x e' y' i).mp hp).1
  unfold Gr.at_
  have fin:∀ y:Nat,((G.at_ i x++[(i,y)]).map (·.1)).Nodup:=fun y=>by
   rw [Z0D]
   refine Z1h.mpr ⟨ih,by simp,fun a ha b hb z=>?_⟩
   have:=lt a ha
   simp at hb
   omega
  by_cases q1:x=(G.bd i).a
  ·have q2:x≠(G.bd i).b:=fun z=>hi (by rw [←q1,←z])
   rw [if_pos q1,if_neg q2,Z0G];exact fin _
  ·rw [if_neg q1,Z0G]
   by_cases q2:x=(G.bd i).b
   ·rw [if_pos q2];exact fin _
   ·rw [if_neg q2,Z0G];exact ih
theorem Gr.at_len(G:Gr)(x:Nat):∀ i,(G.at_ i x).length≤2*i
 |0=>by unfold Gr.at_;simp
 |i+1=>by
  have:=G.at_len x i
  unfold Gr.at_
  rw [Z0A,Z0A]
  split<;>split<;>simp<;>omega
end MX
namespace BK
open PySem PySem.Spec PyProof.Rows L2 EX RD LM
structure Rws(CW:Addr)(G:MX.Gr)(H:Hp)(wl:Addr)(ls:List Addr)(ws:Nat→List Addr)(E:Nat→List (Nat×Nat)):Prop where
 top:H wl=some (.lst (ls.map V.ref))
 nd:ls.Nodup
 tn:wl∉ls
 row:∀ (x:Nat) l,ls[x]?=some l→H l=some (.lst ((ws x).map V.ref))
 wln:∀ x,(ws x).length=(E x).length
 way:∀ (x j:Nat) r p,(ws x)[j]?=some r→(E x)[j]?=some p→WayAt CW H r p.1 p.2 (G.bd p.1).o
theorem WayAt.same{CW:Addr}{H H':Hp}{r:Addr}{e y:Nat}{o:Int}(h:WayAt CW H r e y o)(s:L2.Same H H'):WayAt CW H' r e y o :=
 let ⟨dx,d,kvs,a,b,c⟩:=h;⟨dx,d,kvs,s _ _ a,s _ _ b,c⟩
theorem WayAt.upd{CW:Addr}{H:Hp}{r l:Addr}{e y:Nat}{o:Int}{xs ys:List V}(h:WayAt CW H r e y o)(hl:H l=some (.lst xs)):WayAt CW (L2.upd H l (.lst ys)) r e y o :=
 let ⟨dx,d,kvs,a,b,c⟩:=h;⟨dx,d,kvs,by rw [Z1W (ne_of a hl (by intro z;cases z))];exact a,by rw [Z1W (ne_of b hl (by intro z;cases z))];exact b,c⟩
theorem Rws.same{CW:Addr}{G:MX.Gr}{H H':Hp}{wl:Addr}{ls:List Addr}{ws:Nat→List Addr}{E:Nat→List (Nat×Nat)}(h:Rws CW G H wl ls ws E)(s:L2.Same H H'):Rws CW G H' wl ls ws E :=
 ⟨s _ _ h.top,h.nd,h.tn,fun x l e=>s _ _ (h.row x l e),h.wln,fun x j r p e1 e2=>(h.way x j r p e1 e2).same s⟩
theorem Rws.app{CW:Addr}{G:MX.Gr}{H:Hp}{wl l r:Addr}{ls:List Addr}{ws:Nat→List Addr}{E:Nat→List (Nat×Nat)}{x e y:Nat}(h:Rws CW G H wl ls ws E)(hl:ls[x]?=some l)(hw:WayAt CW H r e y (G.bd e).o) :
  Rws CW G (upd H l (.lst ((ws x).map V.ref++[.ref r]))) wl ls (fun z=>if z=x then ws x++[r]else ws z) (fun z=>if z=x then E x++[(e,y)]else E z):=by
 have hlH:=h.row x l hl
 refine⟨?_,h.nd,h.tn,fun z l' e'=>?_,fun z=>?_,fun z j r' p e1 e2=>?_⟩
 ·rw [Z1W (fun z=>h.tn (by rw [z];exact Z0z hl))];exact h.top
 ·by_cases q:z=x
  ·subst q
   rw [hl]at e'
   cases e'
   rw [Z1X,if_pos rfl,Z0D];rfl
  ·rw [if_neg q,Z1W]
   ·exact h.row z l' e'
   ·rintro rfl
    exact q ((List.getElem?_inj (Z0p.mp e').1 h.nd).mp (e'.trans hl.symm))
 ·split
  ·rw [Z0A,Z0A,h.wln x];rfl
  ·exact h.wln z
 ·by_cases q:z=x
  ·subst q
   rw [if_pos rfl]at e1 e2
   have ll:=h.wln z
   by_cases lt:j<(ws z).length
   ·rw [Z0W lt]at e1
    rw [Z0W (by omega)]at e2
    exact(h.way z j r' p e1 e2).upd hlH
   ·have l1:=(Z0p.mp e1).1
    rw [Z0A,Z1P]at l1
    have:j=(ws z).length:=by omega
    subst this
    rw [Z1z (Z0e _),Z0T]at e1
    rw [ll,Z1z (Z0e _),Z0T]at e2
    cases e1
    cases e2
    exact hw.upd hlH
  ·rw [if_neg q]at e1 e2
   exact(h.way z j r' p e1 e2).upd hlH
def Z7g(b:List Stmt):Scope:=match b.findSome? (fun x=>match x with |.Assign _ (.ListComp _ _ sc _) _=>some sc |_=>none)with
 |some sc=>sc
 |none=>{ kind:=.function,names:=[],isGenerator:=false,isCoroutine:=false }
section
variable{P:Program}{w:World}{K:Z0a}{mg:Str→Option Value}{base:Heap}{CS CW CB:Addr}
def spWI(CW:Addr):Sp:=fun vs H Q _=>∃ (r dx:Addr)(e y o:Int),vs=[.ref r,.int e,.int y,.int o]∧H r=some (.ins CW dx []) ∧
 ∀ (H':Hp)(d:Addr)(kvs:List (Key×V)),H' r=some (.ins CW dx (wf e y d))→H' d=some (.dK kvs)→valV kvs (.inl 1)=some (.int (3-o))→valV kvs (.inl (-1))=some (.int (o-1))→Only r H H'→Q .non H'
theorem scWI:Z2e ["self","bond","other","order"] ["self","bond","other","order"] (Z2b Z4W):=⟨rfl,rfl,rfl,by decide +kernel,rfl,by decide +kernel,by decide +kernel⟩
theorem okWI{f:Addr}{fd:FuncData}(F:Fun K "__init__" "Way.__init__" Z4W f fd)(T:TS7 K mg CS)(W:TW K CW):FnOk P w K mg base CX0 1 f fd ["self","bond","other","order"] (spWI CW):=by
 refine F.ok scWI (fun vs H Q E h=>?_) (fun cdv A' outer s' H vs Q E hr h=>?_)
 ·obtain⟨r,dx,e,y,o,rfl,_⟩:=h
  rfl
 ·obtain⟨r,dx,e,y,o,rfl,ho,k⟩:=h
  refine⟨_,Z1Y (Z2t (pv 0) (pv 1) rfl) (Z1Y (Z2t (pv 0) (pv 2) rfl)
   (Z2c (Z2t (pv 0) (Z7u (Z4z (pe_gc rfl T.up) (pe_op Z4n Z2f (pv 3)) (Z4z (pe_gc rfl T.dn) (pe_op Z4n (pv 3) Z2f) Z7q)) rfl rfl (by decide) (by decide)) rfl))),?_⟩
  refine⟨_,rfl,_,rfl,r,CW,dx,[],rfl,ho,W.cl,W.nb,(by show 0<1000;decide),?_⟩
  refine⟨_,rfl,_,rfl,r,CW,dx,_,rfl,Z1X,W.cl,W.no,(by show 1<1000;decide),?_⟩
  rw [Z2F]
  intro d hd
  refine⟨_,rfl,_,_,rfl,rfl,_,rfl,_,_,rfl,rfl,Z1X,[(.inl 1,.int (3-o)),(.inl (-1),.int (o-1))],rfl,(by show 2≤15;decide),?_⟩
  rw [Z2F]
  have n1:r≠d:=Z1Z Z1X hd
  refine⟨_,rfl,r,CW,dx,_,rfl,by rw [Z1W n1,Z1X],W.cl,W.nr,(by show 2<1000;decide),?_⟩
  refine k _ d [(.inl 1,.int (3-o)),(.inl (-1),.int (o-1))] (by rw [Z1X];rfl) (by rw [Z1W (Ne.symm n1),Z1X];rfl) rfl rfl ?_
  exact(((Only.refl r H).trans (Only.upd _)).new hd).trans (Only.upd _)
def spWays(CW CB:Addr):Sp:=fun vs H Q _=>∃ (bl:Addr)(G:MX.Gr)(bs:List Addr)(sd:Nat→Int),vs=[.int (G.n:Int),.ref bl]∧Bds CB G H bl bs sd∧G.Ok∧G.n≤128∧G.m≤192 ∧
 ∀ H' wl ls ws E,L2.Same H H'→Wys0 CW G H' wl ls ws E→Q (.ref wl) H'
theorem scWays:Z2e ["count","bonds","ways","number","bond","atom"] ["count","bonds"] (Z2b Z3N):=⟨rfl,rfl,rfl,by decide +kernel,rfl,by decide +kernel,by decide +kernel⟩
theorem blkWays:BlkOk ["count","bonds","ways","number","bond","atom"] (Z2b Z3N) (Z7g (Z2o Z3N)) [("atom",5)]:=⟨rfl,by decide +kernel,by decide +kernel,by decide +kernel,by decide +kernel⟩
theorem okWays{f fI:Addr}{fd fdI:FuncData}(F:Fun K "ways_at" "ways_at" Z3N f fd)(B:TBd K CB)(M:Mk K CW fI)(hC:mg "Way" = some (.ref CW))(mr:mg "range" = none)(me:mg "enumerate" = none)
  (GI:FnOk P w K mg base CX0 1 fI fdI ["self","bond","other","order"] (spWI CW))(bI:Binds K fdI ["self","bond","other","order"] []):FnOk P w K mg base CX0 3 f fd ["count","bonds"] (spWays CW CB):=by
 refine F.ok scWays (fun vs H Q E h=>?_) (fun cdv A' outer s' H vs Q E' hr h=>?_)
 ·obtain⟨bl,G,bs,sd,rfl,_⟩:=h
  rfl
 ·obtain⟨bl,G,bs,sd,rfl,D,hG,hn,hm,k⟩:=h
  refine⟨_,Z1Y (Z8G (i:=2) rfl scWays.nd rfl rfl (Z5d rfl rfl rfl rfl) (Z4m rfl mr (Z1V (pv 0) Z2a)) blkWays (fun s H C cl fp=>Z2x (i:=5) scWays.nd rfl (Or.inl rfl)) (fun s H C cl fp=>Z4x) (fun s H C cl fp=>Z3n Z2a))
   (Z1Y (Z3l PassesOwn.never rfl (Z7j rfl me (Z1V (pv 1) Z2a)) (Z8M rfl (Z3Y (Z2x (i:=3) scWays.nd rfl (Or.inl rfl)) (Z3Y (Z2x (i:=4) scWays.nd rfl (Or.inl rfl)) Z7t)))
     (Z1Y (Z2r (pe_bm Z1g Z1F Z1G Z4R (pe_ix Z2Z (pv 2) (Z2d (pv 4) rfl) (fun _ _=>rfl)) (Z1V (Z3p M GI hr rfl hC bI .nil pass0 (Z1V (pv 3) (Z1V (Z2d (pv 4) rfl) (Z1V (Z2d (pv 4) rfl) Z2a)))) Z2a)))
     (Z2c (Z2r (pe_bm Z1g Z1F Z1G Z4R (pe_ix Z2Z (pv 2) (Z2d (pv 4) rfl) (fun _ _=>rfl)) (Z1V (Z3p M GI hr rfl hC bI .nil pass0 (Z1V (pv 3) (Z1V (Z2d (pv 4) rfl) (Z1V (Z2d (pv 4) rfl) Z2a)))) Z2a))))))
   (Z2c (Z2k (pv 2)))),?_⟩
  refine⟨_,rfl,(G.n:Int),rfl,by omega,by omega,fun wl hwl=>Z5t (lo:=0) (n:=(G.n:Int).toNat) (fun i H2=>∃ ls:List Addr,ls.length=i∧ls.Nodup∧wl∉ls∧(∀ l∈ls,H l=none)∧L2.Same H H2∧H2 wl=some (.lst (ls.map V.ref))∧∀ x l,ls[x]?=some l→H2 l=some (.lst []))
   ⟨[],rfl,Z1B,by simp,fun l hl=>absurd hl (by simp),RD.Same.new hwl,Z1X,fun x l (e:([]:List Addr)[x]?=some l)=>absurd e (by rw [List.getElem?_nil];intro z;cases z)⟩ ?_ ?_⟩
  ·rintro i H2 hi ⟨ls,e1,nd,nw,nh,s2,h2,hr2⟩
   refine⟨rfl,Z0q _,fun l hl=>?_⟩
   have nl:∀ {b:Addr}{o:HO},H2 b=some o→b≠l:=fun e=>Z1Z e hl
   refine⟨_,by rw [Z1W (nl h2)];exact h2,by rw [Z0c,sizeLine_eq];omega,ls++[l],by simp [e1],?_,?_,?_,?_,?_,?_⟩
   ·refine Z1h.mpr ⟨nd,by simp,fun a ha b hb z=>?_⟩
    obtain⟨x,hx⟩:=List.getElem?_of_mem ha
    have:=nl (hr2 x a hx)
    simp at hb
    exact this (z.trans hb)
   ·rw [Z0k,not_or]
    exact⟨nw,by simpa using nl h2⟩
   ·intro b hb
    rcases Z0k.mp hb with hb |hb
    ·exact nh b hb
    ·rw [Z0i.mp hb];exact s2.free hl
   ·intro b o e
    rw [Z1W (fun z=>by rw [z,hwl]at e;cases e),Z1W (nl (s2 _ _ e))]
    exact s2 _ _ e
   ·rw [Z1X,Z0D];rfl
   ·intro x l' e
    have hlw:l'≠wl:=by
     rintro rfl
     have:=Z0z e
     rw [Z0k]at this
     rcases this with h |h
     ·exact nw h
     ·exact nl h2 (Z0i.mp h)
    rw [Z1W hlw]
    by_cases lt:x<ls.length
    ·rw [Z0W lt]at e
     rw [Z1W (nl (hr2 x l' e))]
     exact hr2 x l' e
    ·have l1:=(Z0p.mp e).1
     rw [Z0A,Z1P]at l1
     have:x=ls.length:=by omega
     subst this
     rw [Z1z (Z0e _),Z0T]at e
     cases e
     exact Z1X
  ·rintro H2 ⟨ls,e1,nd,nw,nh,s2,h2,hr2⟩
   have R0:Rws CW G H2 wl ls (fun _=>[]) (G.at_ 0):=⟨h2,nd,nw,fun x l e=>hr2 x l e,fun x=>rfl,fun x j r p e _=>by simp at e⟩
   have e1:ls.length=G.n:=by omega
   refine⟨_,rfl,bl,_,rfl,SqL.of (s2 _ _ D.top),Z6t (K:=K) (a:=bl) (xs:=bs.map V.ref) (fun i σ H'=>∃ (v3 v4 v5:Option V)(ws:Nat→List Addr),σ=[some (.int (G.n:Int)),some (.ref bl),some (.ref wl),v3,v4,v5]∧L2.Same H H'∧Rws CW G H' wl ls ws (G.at_ i))
    ⟨none,none,none,_,rfl,s2,R0⟩ (fun i σ H' _ ⟨_,_,_,_,_,s',_⟩=>SqL.of (s' _ _ D.top)) ?_ ?_⟩
   ·rintro i y σ H3 T hi ⟨v3,v4,v5,ws,rfl,s3,R3⟩ hT
    obtain⟨r,hr0,rfl⟩:∃ r,bs[i]?=some r∧y=V.ref r:=by
     rw [Z0n]at hi
     cases e:bs[i]? with
     |none=>rw [e]at hi;cases hi
     |some r=>rw [e]at hi;exact⟨r,rfl,(Option.some.inj hi).symm⟩
    have im:i<G.m:=by rw [←D.len];exact(Z0p.mp hr0).1
    have an:=hG.an i im
    have bn:=hG.bn i im
    have hab:=hG.ne i im
    have s4:L2.Same H (upd H3 T (.tup [.int (i:Int),.ref r])):=s3.trans (RD.Same.new hT)
    have R4:=R3.same (RD.Same.new (o:=.tup [.int (i:Int),.ref r]) hT)
    obtain⟨dx,hb4⟩:=(D.same s4).bond i r hr0
    have la:ls[(G.bd i).a]?=some ls[(G.bd i).a]:=Z0l (by omega)
    have lb:ls[(G.bd i).b]?=some ls[(G.bd i).b]:=Z0l (by omega)
    have rowa:=R4.row _ _ la
    refine⟨T,_,rfl,SqT.of Z1X,rfl,_,_,rfl,_,_,rfl,rfl,?_⟩
    refine⟨_,rfl,_,rfl,r,CB,dx,_,_,rfl,hb4,B.cl,B.na,bf_a _ _ _ _,wl,_,_,.ref ls[(G.bd i).a],rfl,rfl,SqL.of R4.top,Z3a (by rw [Z0n,la];rfl),.inl ⟨rfl,_,SqL.of rowa⟩,
     _,rfl,_,rfl,r,CB,dx,_,_,rfl,hb4,B.cl,B.nb,bf_b _ _ _ _,_,rfl,r,CB,dx,_,_,rfl,hb4,B.cl,B.no,Z6o _ _ _ _,fun x xd nx nd' ndx=>⟨x,xd,_,_,_,rfl,Z1X,fun H5 d kvs g1 g2 g3 g4 o5=>⟨rfl,?_⟩⟩⟩
    have ss5:L2.Same (upd H3 T (.tup [.int (i:Int),.ref r])) H5:=fun b o e=>o5 b o (by rw [Z1W (Z1Z e nx),Z1W (Z1Z e nd')];exact e) (Z1Z e nx)
    have R5:=R4.same ss5
    have s5:=s4.trans ss5
    have rowa5:=R5.row _ _ la
    have len5:=R5.wln (G.bd i).a
    have al:=G.at_len (G.bd i).a i
    refine⟨_,_,_,rfl,rfl,rowa5,by rw [Z0c,sizeLine_eq];omega,?_⟩
    have R6:=R5.app (x:=(G.bd i).a) (e:=i) (y:=(G.bd i).b) la ⟨xd,d,kvs,g1,g2,g3,g4⟩
    have nla:∀ {x:Nat},(h:x<ls.length)→H ls[x]=none:=fun h=>nh _ (Z0Y h)
    have s6:L2.Same H (upd H5 ls[(G.bd i).a] (.lst ((ws (G.bd i).a).map V.ref++[.ref x]))):=fun b o e=>by
     rw [Z1W (fun z=>by rw [z,nla (by omega)]at e;cases e)];exact s5 _ _ e
    obtain⟨dx6,hb6⟩:=(D.same s6).bond i r hr0
    have rowb:=R6.row _ _ lb
    refine⟨_,rfl,_,rfl,r,CB,dx6,_,_,rfl,hb6,B.cl,B.nb,bf_b _ _ _ _,wl,_,_,.ref ls[(G.bd i).b],rfl,rfl,SqL.of R6.top,Z3a (by rw [Z0n,lb];rfl),.inl ⟨rfl,_,SqL.of rowb⟩,
     _,rfl,_,rfl,r,CB,dx6,_,_,rfl,hb6,B.cl,B.na,bf_a _ _ _ _,_,rfl,r,CB,dx6,_,_,rfl,hb6,B.cl,B.no,Z6o _ _ _ _,fun x2 xd2 nx2 nd2 ndx2=>⟨x2,xd2,_,_,_,rfl,Z1X,fun H7 d2 kvs2 g1' g2' g3' g4' o7=>⟨rfl,?_⟩⟩⟩
    have ss7:L2.Same (upd H5 ls[(G.bd i).a] (.lst ((ws (G.bd i).a).map V.ref++[.ref x]))) H7:=fun b o e=>o7 b o (by rw [Z1W (Z1Z e nx2),Z1W (Z1Z e nd2)];exact e) (Z1Z e nx2)
    have R7:=R6.same ss7
    have s7:=s6.trans ss7
    have rowb7:=R7.row _ _ lb
    have len7:=R5.wln (G.bd i).b
    have bl':=G.at_len (G.bd i).b i
    refine⟨_,_,_,rfl,rfl,rowb7,by rw [Z0c,sizeLine_eq,if_neg (Ne.symm hab)];omega,?_⟩
    have R8:=R7.app (x:=(G.bd i).b) (e:=i) (y:=(G.bd i).a) lb ⟨xd2,d2,kvs2,g1',g2',g3',g4'⟩
    refine⟨_,_,_,_,rfl,fun b o e=>?_,R8.top,R8.nd,R8.tn,R8.row,fun z=>?_,fun z j r' p h1 h2=>?_⟩
    ·rw [Z1W (fun z=>by rw [z,nla (by omega)]at e;cases e)];exact s7 _ _ e
    all_goals
     have key:∀ z,G.at_ (i+1) z=(fun z=>if z=(G.bd i).b then(fun z=>if z=(G.bd i).a then G.at_ i (G.bd i).a++[(i,(G.bd i).b)]else G.at_ i z) (G.bd i).b++[(i,(G.bd i).a)]else(fun z=>if z=(G.bd i).a then G.at_ i (G.bd i).a++[(i,(G.bd i).b)]else G.at_ i z) z) z:=fun z=>by
      show(G.at_ i z++if z=(G.bd i).a then[(i,(G.bd i).b)]else[])++(if z=(G.bd i).b then[(i,(G.bd i).a)]else[])=_
      by_cases q2:z=(G.bd i).b
      ·subst q2
       rw [if_neg (Ne.symm hab)]
       simp [Ne.symm hab]
      ·by_cases q1:z=(G.bd i).a
       ·subst q1
        simp [hab]
       ·simp [q1,q2]
    ·rw [key z];exact R8.wln z
    ·rw [key z]at h2;exact R8.way z j r' p h1 h2
   ·rintro σ H3 ⟨v3,v4,v5,ws,rfl,s3,R3⟩
    have lm:(bs.map V.ref).length=G.m:=by rw [Z0c,D.len]
    rw [lm]at R3
    refine⟨_,rfl,k H3 wl ls ws (G.at_ G.m) s3 ⟨R3.top,e1,R3.row,fun x _=>R3.wln x,fun x j r p _=>R3.way x j r p,fun x e y _=>G.mem_at x e y G.m,fun x _=>G.at_nd x G.m hG.ne⟩⟩
end
end BK
end
section
namespace BK
open PySem PySem.Spec PyProof.Rows L2 EX RD
theorem Z4I{bs:List Int}:∀ {ms:List Int}{p q:Nat},p≤bs.length→markM bs p ms=.ok q→q≤bs.length
 |[],p,q,h,e=>by
  unfold markM at e
  cases e
  exact h
 |m::ms,p,q,h,e=>by
  unfold markM at e
  split at e
  ·cases e
  ·split at e
   ·cases e
   ·exact Z4I (by omega) e
theorem Z2g{bs:List Int}{p n:Nat}{lo hi v:Int}(e:numM bs p n lo hi=.ok v):p+n≤bs.length∧lo≤v∧v≤hi∧v=numL ((bs.drop p).take n):=by
 unfold numM at e
 split at e
 ·cases e
 ·split at e
  ·cases e
  ·rename_i h1 h2
   cases e
   refine⟨by omega,?_,?_,rfl⟩<;>omega
def atomM(bs:List Int)(p:Nat):Except (Int×Int) Fk.Atom :=
 match numM bs p 1 1 118 with
 |.error e=>.error e
 |.ok x=>match numM bs (p+1) 2 0 500 with
  |.error e=>.error e
  |.ok y=>match numM bs (p+3) 1 0 8 with
   |.error e=>.error e
   |.ok c=>match numM bs (p+4) 1 0 7 with
    |.error e=>.error e
    |.ok h=>match numM bs (p+5) 1 0 2 with
     |.error e=>.error e
     |.ok s=>.ok ⟨x.toNat,y.toNat,c-4,h.toNat,s.toNat⟩
def Z2J(bs:List Int):Nat→Nat→Except (Int×Int) (List Fk.Atom)
 |0,_=>.ok []
 |k+1,p=>match atomM bs p with
  |.error e=>.error e
  |.ok x=>match Z2J bs k (p+6)with
   |.error e=>.error e
   |.ok y=>.ok (x::y)
def bondM(bs:List Int)(n:Int)(p:Nat)(b:Int×Int):Except (Int×Int) Fk.Bond :=
 match numM bs p 1 0 (n-1)with
 |.error e=>.error e
 |.ok x=>match numM bs (p+1) 1 (x+1) (n-1)with
  |.error e=>.error e
  |.ok y=>if lexLe [x,y] [b.1,b.2]=true then .error (3,p)else match numM bs (p+2) 1 1 3 with
   |.error e=>.error e
   |.ok o=>match numM bs (p+3) 1 0 2 with
    |.error e=>.error e
    |.ok s=>.ok ⟨x.toNat,y.toNat,o.toNat,s.toNat⟩
def Z2H(bs:List Int)(n:Int):Nat→Nat→Int×Int→Except (Int×Int) (List Fk.Bond)
 |0,_,_=>.ok []
 |k+1,p,b=>match bondM bs n p b with
  |.error e=>.error e
  |.ok x=>match Z2H bs n k (p+4) (x.a,x.b)with
   |.error e=>.error e
   |.ok y=>.ok (x::y)
def Z3M(bs:List Int):Except (Int×Int) Fk.Mol :=
 match markM bs 0 [70,75,77,49]with
 |.error e=>.error e
 |.ok p=>match numM bs p 1 0 128 with
  |.error e=>.error e
  |.ok n=>match numM bs (p+1) 1 0 192 with
   |.error e=>.error e
   |.ok m=>match Z2J bs n.toNat (p+2)with
    |.error e=>.error e
    |.ok as=>match Z2H bs n m.toNat (p+2+6*n.toNat) (0,0)with
     |.error e=>.error e
     |.ok ds=>if p+2+6*n.toNat+4*m.toNat<bs.length then .error (7,(p+2+6*n.toNat+4*m.toNat:Nat))else .ok ⟨as,ds⟩
def molM(bs:List Int):Except (Int×Int) Fk.Mol :=
 match Z3M bs with
 |.error e=>.error e
 |.ok M=>match (List.range M.n).find? fun v=>(M.atom v).hand != 0&&!M.handed v with
  |some v=>.error (4,((6+6*v+5:Nat):Int))
  |none=>match (List.range M.bonds.length).find? fun j=>(M.bonds[j]?.map Fk.Bond.side).getD 0 != 0&&!M.sided j with
   |some j=>.error (6,((6+6*M.n+4*j+3:Nat):Int))
   |none=>.ok M
structure WfA(x:Fk.Atom):Prop where
 el:1≤x.element∧x.element≤118
 iso:x.isotope≤500
 ch:-4≤x.charge∧x.charge≤4
 hy:x.hydrogens≤7
 hd:x.hand≤2
structure WfB(n:Nat)(x:Fk.Bond):Prop where
 ab:x.a<x.b
 bn:x.b<n
 od:1≤x.order∧x.order≤3
 sd:x.side≤2
def Bel(x y:Fk.Bond):Prop:=x.a<y.a∨(x.a=y.a∧x.b<y.b)
structure Wf(M:Fk.Mol):Prop where
 n:M.atoms.length≤128
 m:M.bonds.length≤192
 at_:∀ x∈M.atoms,WfA x
 bd:∀ x∈M.bonds,WfB M.atoms.length x
 rs:M.bonds.Pairwise Bel
theorem Z8J{bs:List Int}{p:Nat}{x:Fk.Atom}(e:atomM bs p=.ok x):p+6≤bs.length∧WfA x:=by
 unfold atomM at e
 split at e
 ·cases e
 ·rename_i h1;split at e
  ·cases e
  ·rename_i h2;split at e
   ·cases e
   ·rename_i h3;split at e
    ·cases e
    ·rename_i h4;split at e
     ·cases e
     ·rename_i h5
      cases e
      have a1:=Z2g h1
      have a2:=Z2g h2
      have a3:=Z2g h3
      have a4:=Z2g h4
      have a5:=Z2g h5
      refine⟨by omega,⟨?_,?_,?_,?_,?_⟩⟩<;>dsimp only<;>omega
theorem Z5J{bs:List Int}:∀ {k p:Nat}{l:List Fk.Atom},Z2J bs k p=.ok l→p≤bs.length→l.length=k∧p+6*k≤bs.length∧∀ x∈l,WfA x
 |0,p,l,e,hp=>by unfold Z2J at e;cases e;exact⟨rfl,by omega,fun x hx=>by simp at hx⟩
 |k+1,p,l,e,hp=>by
  unfold Z2J at e
  split at e
  ·cases e
  ·rename_i h1;split at e
   ·cases e
   ·rename_i h2
    cases e
    have a1:=Z8J h1
    have a2:=Z5J h2 (by omega)
    refine⟨by rw [Z0s,a2.1],by omega,fun x hx=>?_⟩
    rcases Z0d.mp hx with rfl |hx
    ·exact a1.2
    ·exact a2.2.2 x hx
theorem ZaD(x y a b:Int):lexLe [x,y] [a,b]=true↔x<a∨(x=a∧y≤b):=by
 rw [Z5B]
 split
 ·rename_i h
  rw [Z5B]
  split
  ·rename_i h2
   exact⟨fun _=>.inr ⟨h,by omega⟩,fun _=>rfl⟩
  ·rename_i h2
   rw [decide_eq_true_iff];omega
 ·rename_i h
  rw [decide_eq_true_iff];omega
theorem Z8E{bs:List Int}{n:Int}{p:Nat}{b:Int×Int}{x:Fk.Bond}(e:bondM bs n p b=.ok x):p+4≤bs.length∧WfB n.toNat x∧(b.1<x.a∨(b.1=x.a∧b.2<x.b)):=by
 unfold bondM at e
 split at e
 ·cases e
 ·rename_i h1;split at e
  ·cases e
  ·rename_i h2;split at e
   ·cases e
   ·rename_i h3;split at e
    ·cases e
    ·rename_i h4;split at e
     ·cases e
     ·rename_i h5
      cases e
      rw [ZaD]at h3
      have a1:=Z2g h1
      have a2:=Z2g h2
      have a4:=Z2g h4
      have a5:=Z2g h5
      refine⟨by omega,⟨?_,?_,?_,?_⟩,?_⟩<;>dsimp only<;>omega
theorem Z7M{bs:List Int}{n:Int}:∀ {k p:Nat}{b:Int×Int}{l:List Fk.Bond},Z2H bs n k p b=.ok l→p≤bs.length→l.length=k∧p+4*k≤bs.length∧(∀ x∈l,WfB n.toNat x)∧(∀ x∈l,b.1<x.a∨(b.1=x.a∧b.2<x.b))∧l.Pairwise Bel
 |0,p,b,l,e,hp=>by unfold Z2H at e;cases e;exact⟨rfl,by omega,fun x hx=>by simp at hx,fun x hx=>by simp at hx,List.Pairwise.nil⟩
 |k+1,p,b,l,e,hp=>by
  unfold Z2H at e
  split at e
  ·cases e
  ·rename_i h1;split at e
   ·cases e
   ·rename_i h2
    cases e
    obtain⟨a1,a2,a3⟩:=Z8E h1
    obtain⟨c1,c2,c3,c4,c5⟩:=Z7M h2 (by omega)
    refine⟨by rw [Z0s,c1],by omega,fun x hx=>?_,fun x hx=>?_,List.Pairwise.cons (fun y hy=>?_) c5⟩
    ·rcases Z0d.mp hx with rfl |hx
     ·exact a2
     ·exact c3 x hx
    ·rcases Z0d.mp hx with rfl |hx
     ·exact a3
     ·have:=c4 x hx
      dsimp only at this
      omega
    ·have:=c4 y hy
     dsimp only at this
     unfold Bel
     omega
theorem Z9Z{bs:List Int}{M:Fk.Mol}(e:Z3M bs=.ok M):Wf M:=by
 unfold Z3M at e
 split at e
 ·cases e
 ·rename_i h1;split at e
  ·cases e
  ·rename_i h2;split at e
   ·cases e
   ·rename_i h3;split at e
    ·cases e
    ·rename_i h4;split at e
     ·cases e
     ·rename_i h5;split at e
      ·cases e
      ·cases e
       have a1:=Z2g h2
       have a2:=Z2g h3
       have a3:=Z5J h4 (by omega)
       have a4:=Z7M h5 (by omega)
       refine⟨by dsimp only;omega,by dsimp only;omega,a3.2.2,?_,a4.2.2.2.2⟩
       dsimp only
       rw [a3.1]
       exact a4.2.2.1
end BK
end
section
namespace BK
open PySem PySem.Spec PyProof.Rows L2 EX RD LM
def atf(x:Fk.Atom):List (Str×V):=[("element",.int (x.element:Int)),("isotope",.int (x.isotope:Int)),("charge",.int x.charge),("hydrogens",.int (x.hydrogens:Int)),("hand",.int (x.hand:Int))]
def mof(a b:Addr):List (Str×V):=[("atoms",.ref a),("bonds",.ref b)]
theorem Z4o(x:Fk.Atom):(atf x).lookup ("hydrogens" : Str)=some (.int (x.hydrogens:Int)):=by
 unfold atf;rw [Z0b,show(("hydrogens" : Str)=="element")=false by decide,Z0b,show(("hydrogens" : Str)=="isotope")=false by decide,Z0b,show(("hydrogens" : Str)=="charge")=false by decide,Z0b,show(("hydrogens" : Str)=="hydrogens")=true by decide]
theorem atf_hand(x:Fk.Atom):(atf x).lookup ("hand" : Str)=some (.int (x.hand:Int)):=by
 unfold atf;rw [Z0b,show(("hand" : Str)=="element")=false by decide,Z0b,show(("hand" : Str)=="isotope")=false by decide,Z0b,show(("hand" : Str)=="charge")=false by decide,Z0b,show(("hand" : Str)=="hydrogens")=false by decide,Z0b,show(("hand" : Str)=="hand")=true by decide]
theorem Z4g(a b:Addr):(mof a b).lookup ("atoms" : Str)=some (.ref a):=by
 unfold mof;rw [Z0b,show(("atoms" : Str)=="atoms")=true by decide]
theorem Z4k(a b:Addr):(mof a b).lookup ("bonds" : Str)=some (.ref b):=by
 unfold mof;rw [Z0b,show(("bonds" : Str)=="atoms")=false by decide,Z0b,show(("bonds" : Str)=="bonds")=true by decide]
def AtomAt(CA:Addr)(H:Hp)(r:Addr)(x:Fk.Atom):Prop:=∃ dx,H r=some (.ins CA dx (atf x))
def BndAt(CB:Addr)(H:Hp)(r:Addr)(x:Fk.Bond):Prop:=BondAt CB H r x.a x.b (x.order:Int) (x.side:Int)
structure TA_(K:Z0a)(CA:Addr):Prop where
 cl:Cls K CA
 ne:NoAttr K CA "element"
 ni:NoAttr K CA "isotope"
 nc:NoAttr K CA "charge"
 nh:NoAttr K CA "hydrogens"
 nd:NoAttr K CA "hand"
structure TMo(K:Z0a)(CM:Addr):Prop where
 cl:Cls K CM
 na:NoAttr K CM "atoms"
 nb:NoAttr K CM "bonds"
structure TM(K:Z0a)(mg:Str→Option Value):Prop where
 range:mg "range" = none
 enum:mg "enumerate" = none
 mark:∃ a,mg "MARK_molecules" = some (.ref a)∧∀ H,SqT K H a (([70,75,77,49]:List Int).map V.int)
 before:∃ a,mg "BEFORE_ALL" = some (.ref a)∧∀ H,SqT K H a (([0,0]:List Int).map V.int)
 cE:∃ u,mg "MOST_ELEMENT" = some u∧RelV (.int 118) u
 cI:∃ u,mg "MOST_ISOTOPE" = some u∧RelV (.int 500) u
 cA:∃ u,mg "MOST_ATOMS" = some u∧RelV (.int 128) u
 cB:∃ u,mg "MOST_BONDS" = some u∧RelV (.int 192) u
 cC:∃ u,mg "MOST_CHARGE" = some u∧RelV (.int 4) u
 cH:∃ u,mg "MOST_HYDROGENS" = some u∧RelV (.int 7) u
 cD:∃ u,mg "MOST_HAND" = some u∧RelV (.int 2) u
 cO:∃ u,mg "MOST_ORDER" = some u∧RelV (.int 3) u
 cS:∃ u,mg "MOST_SIDE" = some u∧RelV (.int 2) u
 c3:∃ u,mg "NOT_BEHIND" = some u∧RelV (.int 3) u
 c4:∃ u,mg "WRONG_HAND" = some u∧RelV (.int 4) u
 c6:∃ u,mg "WRONG_SIDE" = some u∧RelV (.int 6) u
 z1:∃ u,mg "HEAD_SIZE" = some u∧RelV (.int 6) u
 z2:∃ u,mg "ATOM_SIZE" = some u∧RelV (.int 6) u
 z3:∃ u,mg "BOND_SIZE" = some u∧RelV (.int 4) u
section
variable{P:Program}{w:World}{K:Z0a}{mg:Str→Option Value}{base:Heap}{CF CR fF CA CB CM:Addr}
def spAI(CA:Addr):Sp:=fun vs H Q _=>∃ (r dx:Addr)(x:Fk.Atom),vs=[.ref r,.int (x.element:Int),.int (x.isotope:Int),.int x.charge,.int (x.hydrogens:Int),.int (x.hand:Int)]∧H r=some (.ins CA dx [])∧∀ H':Hp,AtomAt CA H' r x→Only r H H'→Q .non H'
theorem scAI:Z2e ["self","element","isotope","charge","hydrogens","hand"] ["self","element","isotope","charge","hydrogens","hand"] (Z2b Z4E):=⟨rfl,rfl,rfl,by decide +kernel,rfl,by decide +kernel,by decide +kernel⟩
theorem okAI{f:Addr}{fd:FuncData}(F:Fun K "__init__" "Atom.__init__" Z4E f fd)(T:TA_ K CA):FnOk P w K mg base CX0 1 f fd ["self","element","isotope","charge","hydrogens","hand"] (spAI CA):=by
 refine F.ok scAI (fun vs H Q E h=>?_) (fun cdv A outer s H vs Q E hr h=>?_)
 ·obtain⟨r,dx,x,rfl,_⟩:=h
  rfl
 ·obtain⟨r,dx,x,rfl,hp,k⟩:=h
  refine⟨_,Z1Y (Z2t (pv 0) (pv 1) rfl) (Z1Y (Z2t (pv 0) (pv 2) rfl) (Z1Y (Z2t (pv 0) (pv 3) rfl) (Z1Y (Z2t (pv 0) (pv 4) rfl) (Z2c (Z2t (pv 0) (pv 5) rfl))))),?_⟩
  refine⟨_,rfl,_,rfl,r,CA,dx,[],rfl,hp,T.cl,T.ne,(by show 0<1000;decide),?_⟩
  refine⟨_,rfl,_,rfl,r,CA,dx,_,rfl,Z1X,T.cl,T.ni,(by show 1<1000;decide),?_⟩
  refine⟨_,rfl,_,rfl,r,CA,dx,_,rfl,Z1X,T.cl,T.nc,(by show 2<1000;decide),?_⟩
  refine⟨_,rfl,_,rfl,r,CA,dx,_,rfl,Z1X,T.cl,T.nh,(by show 3<1000;decide),?_⟩
  refine⟨_,rfl,_,rfl,r,CA,dx,_,rfl,Z1X,T.cl,T.nd,(by show 4<1000;decide),?_⟩
  rw [Z2F,Z2F,Z2F,Z2F]
  exact k _ ⟨dx,by rw [Z1X];rfl⟩ (Only.upd _)
def spBI(CB:Addr):Sp:=fun vs H Q _=>∃ (r dx:Addr)(x:Fk.Bond),vs=[.ref r,.int (x.a:Int),.int (x.b:Int),.int (x.order:Int),.int (x.side:Int)]∧H r=some (.ins CB dx [])∧∀ H':Hp,BndAt CB H' r x→Only r H H'→Q .non H'
theorem scBI:Z2e ["self","a","b","order","side"] ["self","a","b","order","side"] (Z2b Z4D):=⟨rfl,rfl,rfl,by decide +kernel,rfl,by decide +kernel,by decide +kernel⟩
theorem okBI{f:Addr}{fd:FuncData}(F:Fun K "__init__" "Bond.__init__" Z4D f fd)(T:TBd K CB):FnOk P w K mg base CX0 1 f fd ["self","a","b","order","side"] (spBI CB):=by
 refine F.ok scBI (fun vs H Q E h=>?_) (fun cdv A outer s H vs Q E hr h=>?_)
 ·obtain⟨r,dx,x,rfl,_⟩:=h
  rfl
 ·obtain⟨r,dx,x,rfl,hp,k⟩:=h
  refine⟨_,Z1Y (Z2t (pv 0) (pv 1) rfl) (Z1Y (Z2t (pv 0) (pv 2) rfl) (Z1Y (Z2t (pv 0) (pv 3) rfl) (Z2c (Z2t (pv 0) (pv 4) rfl)))),?_⟩
  refine⟨_,rfl,_,rfl,r,CB,dx,[],rfl,hp,T.cl,T.na,(by show 0<1000;decide),?_⟩
  refine⟨_,rfl,_,rfl,r,CB,dx,_,rfl,Z1X,T.cl,T.nb,(by show 1<1000;decide),?_⟩
  refine⟨_,rfl,_,rfl,r,CB,dx,_,rfl,Z1X,T.cl,T.no,(by show 2<1000;decide),?_⟩
  refine⟨_,rfl,_,rfl,r,CB,dx,_,rfl,Z1X,T.cl,T.ns,(by show 3<1000;decide),?_⟩
  rw [Z2F,Z2F,Z2F]
  exact k _ ⟨dx,by rw [Z1X];rfl⟩ (Only.upd _)
def spMI(CM:Addr):Sp:=fun vs H Q _=>∃ (r dx a b:Addr),vs=[.ref r,.ref a,.ref b]∧H r=some (.ins CM dx [])∧∀ H':Hp,H' r=some (.ins CM dx (mof a b))→Only r H H'→Q .non H'
theorem scMI:Z2e ["self","atoms","bonds"] ["self","atoms","bonds"] (Z2b Z3C):=⟨rfl,rfl,rfl,by decide +kernel,rfl,by decide +kernel,by decide +kernel⟩
theorem okMI{f:Addr}{fd:FuncData}(F:Fun K "__init__" "Molecule.__init__" Z3C f fd)(T:TMo K CM):FnOk P w K mg base CX0 1 f fd ["self","atoms","bonds"] (spMI CM):=by
 refine F.ok scMI (fun vs H Q E h=>?_) (fun cdv A outer s H vs Q E hr h=>?_)
 ·obtain⟨r,dx,a,b,rfl,_⟩:=h
  rfl
 ·obtain⟨r,dx,a,b,rfl,hp,k⟩:=h
  refine⟨_,Z1Y (Z2t (pv 0) (pv 1) rfl) (Z2c (Z2t (pv 0) (pv 2) rfl)),?_⟩
  refine⟨_,rfl,_,rfl,r,CM,dx,[],rfl,hp,T.cl,T.na,(by show 0<1000;decide),?_⟩
  refine⟨_,rfl,_,rfl,r,CM,dx,_,rfl,Z1X,T.cl,T.nb,(by show 1<1000;decide),?_⟩
  rw [Z2F]
  exact k _ (by rw [Z1X];rfl) (Only.upd _)
theorem Z8i{r t:Addr}{H H1:Hp}{C dx:Addr}{fs:List (Str×V)}(o:Only r H H1)(g:H1 r=some (.ins C dx fs))(h:H1 t=none):H t=none:=by
 cases q:H t with
 |none=>rfl
 |some u =>
  by_cases e:t=r
  ·subst e;rw [g]at h;cases h
  ·rw [o _ _ q e]at h;cases h
def spAtom(K:Z0a)(CF CR CA:Addr):Sp:=fun vs H Q E=>∃ (r a:Addr)(p:Nat)(bs:List Int),vs=[.ref r]∧RdAt CR H r a p∧SqL K H a (bs.map V.int)∧p≤bs.length∧(∀ x∈bs,0≤x∧x≤255) ∧
 match atomM bs p with
 |.ok x=>∀ (H':Hp)(t:Addr),RdAt CR H' r a (p+6)→Only r H H'→H t=none→AtomAt CA H' t x→Q (.ref t) H'
 |.error e=>Flt CF E H r e.1 e.2
theorem scAtom:Z2e ["reader","element","isotope","charge","hydrogens","hand"] ["reader"] (Z2b Z4O):=⟨rfl,rfl,rfl,by decide +kernel,rfl,by decide +kernel,by decide +kernel⟩
theorem okAtom{f fN fI:Addr}{fd fdN fdI:FuncData}(F:Fun K "read_atom" "read_atom" Z4O f fd)(T:TR K mg CF CR fF)(B:TM K mg)(GN:FnOk P w K mg base (CXF P w) 3 fN fdN ["self","size","least","most"] (spNum K CF CR))(mN:Meth K CR "number" fN)
  (bN:Binds K fdN ["self","size","least","most"] [])(M:Mk K CA fI)(hC:mg "Atom" = some (.ref CA))(GI:FnOk P w K mg base CX0 1 fI fdI ["self","element","isotope","charge","hydrogens","hand"] (spAI CA))(bI:Binds K fdI ["self","element","isotope","charge","hydrogens","hand"] []) :
  FnOk P w K mg base (CXF P w) 4 f fd ["reader"] (spAtom K CF CR CA):=by
 refine okX F scAtom (fun vs H Q E h=>?_) (fun cdv A outer s H vs Q E hr h=>?_)
 ·obtain⟨r,a,p,bs,rfl,_⟩:=h
  rfl
 ·obtain⟨r,a,p,bs,rfl,hR,hS,hp,hb,k⟩:=h
  have hr2:Room 2 _:=hr.mono (by decide)
  refine⟨_,Z1Y (Z2h (i:=1) scAtom.nd rfl (Or.inl rfl) (Z2j (pv 0) T.cl mN GN hr bN .nil Z2i (Z1V Z2f (Z1V Z2f (Z1V (pe_gc rfl B.cE) Z2a)))))
   (Z1Y (Z2h (i:=2) scAtom.nd rfl (Or.inl rfl) (Z2j (pv 0) T.cl mN GN hr bN .nil Z2i (Z1V Z2f (Z1V Z2f (Z1V (pe_gc rfl B.cI) Z2a)))))
   (Z1Y (Z2h (i:=3) scAtom.nd rfl (Or.inl rfl) (pe_op Z4n (Z2j (pv 0) T.cl mN GN hr bN .nil Z2i (Z1V Z2f (Z1V Z2f (Z1V (pe_op Z4G Z2f (pe_gc rfl B.cC)) Z2a)))) (pe_gc rfl B.cC)))
   (Z1Y (Z2h (i:=4) scAtom.nd rfl (Or.inl rfl) (Z2j (pv 0) T.cl mN GN hr bN .nil Z2i (Z1V Z2f (Z1V Z2f (Z1V (pe_gc rfl B.cH) Z2a)))))
   (Z1Y (Z2h (i:=5) scAtom.nd rfl (Or.inl rfl) (Z2j (pv 0) T.cl mN GN hr bN .nil Z2i (Z1V Z2f (Z1V Z2f (Z1V (pe_gc rfl B.cD) Z2a)))))
   (Z2c (Z2k (Z3p M GI hr2 rfl hC bI .nil pass0 (Z1V (pv 1) (Z1V (pv 2) (Z1V (pv 3) (Z1V (pv 4) (Z1V (pv 5) Z2a)))))))))))),?_⟩
  obtain⟨dx,h1⟩:=id hR
  refine⟨_,rfl,r,dx,_,rfl,h1,rf_no _ _ (by decide) (by decide),r,a,p,1,bs,_,_,rfl,hR,hS,hp,hb,?_⟩
  unfold atomM at k
  cases e1:numM bs p 1 1 118 with
  |error e=>rw [e1]at k;exact k
  |ok x =>
   rw [e1]at k
   dsimp only at k
   intro H1 hR1 o1
   obtain⟨dx1,g1⟩:=id hR1
   have S1:=o1.sq h1 hS
   refine⟨_,rfl,r,dx1,_,rfl,g1,rf_no _ _ (by decide) (by decide),r,a,p+1,2,bs,_,_,rfl,hR1,S1,by have:=(Z2g e1).1;omega,hb,?_⟩
   cases e2:numM bs (p+1) 2 0 500 with
   |error e=>rw [e2]at k;exact k.only o1
   |ok y =>
    rw [e2]at k
    dsimp only at k
    intro H2 hR2 o2
    obtain⟨dx2,g2⟩:=id hR2
    have S2:=o2.sq g1 S1
    refine⟨_,rfl,r,dx2,_,rfl,g2,rf_no _ _ (by decide) (by decide),_,_,rfl,rfl,.inl (by constructor<;>decide),r,a,p+3,1,bs,0,8,rfl,hR2,S2,by have:=(Z2g e2).1;omega,hb,?_⟩
    cases e3:numM bs (p+3) 1 0 8 with
    |error e=>rw [e3]at k;exact k.only (o1.trans o2)
    |ok c =>
     rw [e3]at k
     dsimp only at k
     intro H3 hR3 o3
     obtain⟨dx3,g3⟩:=id hR3
     have S3:=o3.sq g2 S2
     refine⟨_,_,rfl,rfl,?_⟩
     refine⟨_,rfl,r,dx3,_,rfl,g3,rf_no _ _ (by decide) (by decide),r,a,p+4,1,bs,_,_,rfl,hR3,S3,by have:=(Z2g e3).1;omega,hb,?_⟩
     cases e4:numM bs (p+4) 1 0 7 with
     |error e=>rw [e4]at k;exact k.only ((o1.trans o2).trans o3)
     |ok h =>
      rw [e4]at k
      dsimp only at k
      intro H4 hR4 o4
      obtain⟨dx4,g4⟩:=id hR4
      have S4:=o4.sq g3 S3
      refine⟨_,rfl,r,dx4,_,rfl,g4,rf_no _ _ (by decide) (by decide),r,a,p+5,1,bs,_,_,rfl,hR4,S4,by have:=(Z2g e4).1;omega,hb,?_⟩
      cases e5:numM bs (p+5) 1 0 2 with
      |error e=>rw [e5]at k;exact k.only (((o1.trans o2).trans o3).trans o4)
      |ok t =>
       rw [e5]at k
       dsimp only at k
       intro H5 hR5 o5
       obtain⟨dx5,g5⟩:=id hR5
       have a1:=Z2g e1
       have a2:=Z2g e2
       have a3:=Z2g e3
       have a4:=Z2g e4
       have a5:=Z2g e5
       have oo:=(((o1.trans o2).trans o3).trans o4).trans o5
       refine⟨_,rfl,_,rfl,_,rfl,_,rfl,_,rfl,fun u ud nu nd ndu=>⟨u,ud,⟨x.toNat,y.toNat,c-4,h.toNat,t.toNat⟩,?_,Z1X,fun H6 hA o6=>⟨rfl,?_⟩⟩⟩
       ·rw [Z0F (by omega:0≤x),Z0F (by omega:0≤y),Z0F (by omega:0≤h),Z0F (by omega:0≤t)];rfl
       ·have ru:r≠u:=Z1Z g5 nu
        have rd:r≠ud:=Z1Z g5 nd
        refine k H6 u ⟨dx5,o6 _ _ (by rw [Z1W ru,Z1W rd];exact g5) ru⟩ (fun b o e hb=>o6 _ _ (by rw [Z1W (Z1Z (oo _ _ e hb) nu),Z1W (Z1Z (oo _ _ e hb) nd)];exact oo _ _ e hb) (Z1Z (oo _ _ e hb) nu)) (Z8i oo g5 nu) hA
end
def Objs{α:Type}(R:Hp→Addr→α→Prop)(H:Hp)(ts:List Addr)(l:List α):Prop:=ts.length=l.length∧∀ (j:Nat)(t:Addr)(x:α),ts[j]?=some t→l[j]?=some x→R H t x
theorem Objs.keep{α:Type}{R:Hp→Addr→α→Prop}{H H':Hp}{ts:List Addr}{l:List α}(h:Objs R H ts l)(k:∀ t x,t∈ts→R H t x→R H' t x):Objs R H' ts l:=⟨h.1,fun j t x a b=>k t x (Z0z a) (h.2 j t x a b)⟩
theorem Objs.nil{α:Type}{R:Hp→Addr→α→Prop}{H:Hp}:Objs R H [] []:=⟨rfl,fun j t m a b=>by simp at a⟩
theorem Objs.snoc{α:Type}{R:Hp→Addr→α→Prop}{H:Hp}{ts:List Addr}{l:List α}{t:Addr}{e:α}(h:Objs R H ts l)(ht:R H t e):Objs R H (ts++[t]) (l++[e]):=by
 refine⟨by simp [h.1],fun j t' e' a b=>?_⟩
 rw [List.getElem?_append]at a b
 rw [h.1]at a
 split at a
 ·rename_i hj
  rw [if_pos hj]at b
  exact h.2 j t' e' a b
 ·rename_i hj
  rw [if_neg hj]at b
  cases z:j-l.length with
  |zero =>
   rw [z]at a b
   cases a;cases b
   exact ht
  |succ n=>rw [z]at a;simp at a
theorem Objs.at{α:Type}{R:Hp→Addr→α→Prop}{H:Hp}{ts:List Addr}{l:List α}{i:Nat}{y:V}(h:Objs R H ts l)(hi:(ts.map V.ref)[i]?=some y):∃ t x,y=.ref t∧ts[i]?=some t∧l[i]?=some x∧R H t x:=by
 rw [Z0n]at hi
 cases e:ts[i]? with
 |none=>rw [e]at hi;cases hi
 |some t =>
  rw [e]at hi
  have lt:i<l.length:=by rw [←h.1];exact(Z0p.mp e).1
  have e2:l[i]?=some l[i]:=Z0l lt
  exact⟨t,l[i],(Option.some.inj hi).symm,rfl,e2,h.2 i t _ e e2⟩
theorem AtomAt.ref{CA:Addr}{H H':Hp}{t:Addr}{x:Fk.Atom}(h:AtomAt CA H t x)(k:∀ o,H t=some o→H' t=some o):AtomAt CA H' t x:=let ⟨dx,e⟩:=h;⟨dx,k _ e⟩
theorem BndAt.ref{CB:Addr}{H H':Hp}{t:Addr}{x:Fk.Bond}(h:BndAt CB H t x)(k:∀ o,H t=some o→H' t=some o):BndAt CB H' t x:=let ⟨dx,e⟩:=h;⟨dx,k _ e⟩
structure MolAt(CM CA CB:Addr)(H:Hp)(mr al bl:Addr)(as bs:List Addr)(M:Fk.Mol):Prop where
 top:∃ dx,H mr=some (.ins CM dx (mof al bl))
 atl:H al=some (.lst (as.map V.ref))
 ats:Objs (AtomAt CA) H as M.atoms
 bdl:H bl=some (.lst (bs.map V.ref))
 bds:Objs (BndAt CB) H bs M.bonds
theorem MolAt.same{CM CA CB:Addr}{H H':Hp}{mr al bl:Addr}{as bs:List Addr}{M:Fk.Mol}(h:MolAt CM CA CB H mr al bl as bs M)(s:L2.Same H H'):MolAt CM CA CB H' mr al bl as bs M :=
 ⟨let ⟨dx,e⟩:=h.top;⟨dx,s _ _ e⟩,s _ _ h.atl,h.ats.keep fun t x _ a=>a.ref fun o e=>s _ _ e,s _ _ h.bdl,h.bds.keep fun t x _ a=>a.ref fun o e=>s _ _ e⟩
def FltS(CF:Addr)(E:XK)(H:Hp)(rule place:Int):Prop:=∀ H' dx,Same H H'→H' dx=some (.xd (xf rule place 0))→E (.ref CF) (some dx) H'
theorem FltS.flt{CF:Addr}{E:XK}{H H1:Hp}{rule place:Int}{r:Addr}(f:FltS CF E H rule place)(s:Same H H1)(n:H r=none):Flt CF E H1 r rule place:=fun H' dx o h =>
 f H' dx (fun b ob e=>o b ob (s b ob e) (Z1Z e n)) h
theorem Same.only{r:Addr}{H H1 H2:Hp}(s:L2.Same H H1)(o:Only r H1 H2)(n:H r=none):L2.Same H H2:=fun b ob e=>o b ob (s b ob e) (Z1Z e n)
section
variable{P:Program}{w:World}{K:Z0a}{mg:Str→Option Value}{base:Heap}{CF CR fF CA CB CM:Addr}
def spBnd(K:Z0a)(CF CR CB:Addr):Sp:=fun vs H Q E=>∃ (r a b:Addr)(p:Nat)(n:Int)(bs:List Int)(be:Int×Int),vs=[.ref r,.int n,.ref b]∧RdAt CR H r a p∧SqL K H a (bs.map V.int)∧p≤bs.length∧(∀ x∈bs,0≤x∧x≤255) ∧
 SqT K H b (([be.1,be.2]:List Int).map V.int) ∧
 match bondM bs n p be with
 |.ok x=>∀ (H':Hp)(t:Addr),RdAt CR H' r a (p+4)→Only r H H'→H t=none→BndAt CB H' t x→Q (.ref t) H'
 |.error e=>Flt CF E H r e.1 e.2
theorem scBnd:Z2e ["reader","atom_count","before","start","a","b","order","side"] ["reader","atom_count","before"] (Z2b Z4H):=⟨rfl,rfl,rfl,by decide +kernel,rfl,by decide +kernel,by decide +kernel⟩
theorem okBnd{f fN fI:Addr}{fd fdN fdI:FuncData}(F:Fun K "read_bond" "read_bond" Z4H f fd)(T:TR K mg CF CR fF)(B:TM K mg)(GN:FnOk P w K mg base (CXF P w) 3 fN fdN ["self","size","least","most"] (spNum K CF CR))(mN:Meth K CR "number" fN)
  (bN:Binds K fdN ["self","size","least","most"] [])(M:Mk K CB fI)(hC:mg "Bond" = some (.ref CB))(GI:FnOk P w K mg base CX0 1 fI fdI ["self","a","b","order","side"] (spBI CB))(bI:Binds K fdI ["self","a","b","order","side"] []) :
  FnOk P w K mg base (CXF P w) 4 f fd ["reader","atom_count","before"] (spBnd K CF CR CB):=by
 refine okX F scBnd (fun vs H Q E h=>?_) (fun cdv A outer s H vs Q E hr h=>?_)
 ·obtain⟨r,a,b,p,n,bs,be,rfl,_⟩:=h
  rfl
 ·obtain⟨r,a,b,p,n,bs,be,rfl,hR,hS,hp,hb,hB,k⟩:=h
  have hr2:Room 2 _:=hr.mono (by decide)
  have hdp:=(show A.depth+1+1<recursionLimit from by have:=hr.dp;simp only [Around.deeper]at this;omega)
  refine⟨_,Z1Y (Z2h (i:=3) scBnd.nd rfl (Or.inl rfl) (Z2d (pv 0) rfl))
   (Z1Y (Z2h (i:=4) scBnd.nd rfl (Or.inl rfl) (Z2j (pv 0) T.cl mN GN hr bN .nil Z2i (Z1V Z2f (Z1V Z2f (Z1V (pe_op Z4n (pv 1) Z2f) Z2a)))))
   (Z1Y (Z2h (i:=5) scBnd.nd rfl (Or.inl rfl) (Z2j (pv 0) T.cl mN GN hr bN .nil Z2i (Z1V Z2f (Z1V (pe_op Z2X (pv 4) Z2f) (Z1V (pe_op Z4n (pv 1) Z2f) Z2a)))))
   (Z1Y (ps_if (Z2p (op_leT hr.units0) (Z4i (Z1V (pv 4) (Z1V (pv 5) Z2a))) (pv 2) (Z2n _))
     (Z2c (Z3m T.xi rfl rfl hdp rfl T.mgF Z2D (Z1V (pe_gc rfl B.c3) (Z1V (pv 3) Z2a)))) Z2w)
   (Z1Y (Z2h (i:=6) scBnd.nd rfl (Or.inl rfl) (Z2j (pv 0) T.cl mN GN hr bN .nil Z2i (Z1V Z2f (Z1V Z2f (Z1V (pe_gc rfl B.cO) Z2a)))))
   (Z1Y (Z2h (i:=7) scBnd.nd rfl (Or.inl rfl) (Z2j (pv 0) T.cl mN GN hr bN .nil Z2i (Z1V Z2f (Z1V Z2f (Z1V (pe_gc rfl B.cS) Z2a)))))
   (Z2c (Z2k (Z3p M GI hr2 rfl hC bI .nil pass0 (Z1V (pv 4) (Z1V (pv 5) (Z1V (pv 6) (Z1V (pv 7) Z2a)))))))))))),?_⟩
  obtain⟨dx,h1⟩:=id hR
  refine⟨_,rfl,r,CR,dx,_,_,rfl,h1,T.cl,T.np,Z2L _ _,?_⟩
  refine⟨_,rfl,r,dx,_,rfl,h1,rf_no _ _ (by decide) (by decide),_,rfl,_,_,rfl,rfl,r,a,p,1,bs,_,_,rfl,hR,hS,hp,hb,?_⟩
  unfold bondM at k
  cases e1:numM bs p 1 0 (n-1)with
  |error e=>rw [e1]at k;exact k
  |ok x =>
   rw [e1]at k
   dsimp only at k
   intro H1 hR1 o1
   obtain⟨dx1,g1⟩:=id hR1
   have S1:=o1.sq h1 hS
   refine⟨_,rfl,r,dx1,_,rfl,g1,rf_no _ _ (by decide) (by decide),_,rfl,_,_,rfl,rfl,_,rfl,_,_,rfl,rfl,r,a,p+1,1,bs,_,_,rfl,hR1,S1,by have:=(Z2g e1).1;omega,hb,?_⟩
   cases e2:numM bs (p+1) 1 (x+1) (n-1)with
   |error e=>rw [e2]at k;exact k.only o1
   |ok y =>
    rw [e2]at k
    dsimp only at k
    intro H2 hR2 o2
    obtain⟨dx2,g2⟩:=id hR2
    have S2:=o2.sq g1 S1
    have B2:=(o1.trans o2).sqT h1 hB
    refine⟨_,rfl,_,rfl,(by show 2≤sizeLine;decide),fun t ht=>⟨_,rfl,t,b,[x,y],[be.1,be.2],rfl,rfl,SqT.of Z1X,RD.Same.sqT (RD.Same.new ht) B2,_,rfl,ite2 (fun hc=>?_) (fun hc=>?_)⟩⟩
    ·rw [if_pos hc]at k
     refine⟨_,rfl,_,_,_,.inr ⟨rfl,rfl⟩,fun dx' hn=>?_⟩
     exact k _ dx' (((o1.trans o2).new ht).new hn) Z1X
    ·rw [if_neg hc]at k
     have hne:r≠t:=Z1Z g2 ht
     have hR3:RdAt CR (upd H2 t (.tup [.int x,.int y])) r a (p+1+1):=⟨dx2,by rw [Z1W hne];exact g2⟩
     have o3:Only r H (upd H2 t (.tup [.int x,.int y])):=(o1.trans o2).new ht
     have S3:SqL K (upd H2 t (.tup [.int x,.int y])) a (bs.map V.int):=o3.sq h1 hS
     obtain⟨dx3,g3⟩:=id hR3
     refine⟨_,rfl,r,dx3,_,rfl,g3,rf_no _ _ (by decide) (by decide),r,a,p+2,1,bs,_,_,rfl,hR3,S3,by have:=(Z2g e2).1;omega,hb,?_⟩
     cases e3:numM bs (p+2) 1 1 3 with
     |error e=>rw [e3]at k;exact k.only o3
     |ok o =>
      rw [e3]at k
      dsimp only at k
      intro H4 hR4 o4
      obtain⟨dx4,g4⟩:=id hR4
      have S4:=o4.sq g3 S3
      refine⟨_,rfl,r,dx4,_,rfl,g4,rf_no _ _ (by decide) (by decide),r,a,p+3,1,bs,_,_,rfl,hR4,S4,by have:=(Z2g e3).1;omega,hb,?_⟩
      cases e4:numM bs (p+3) 1 0 2 with
      |error e=>rw [e4]at k;exact k.only (o3.trans o4)
      |ok z =>
       rw [e4]at k
       dsimp only at k
       intro H5 hR5 o5
       obtain⟨dx5,g5⟩:=id hR5
       have a1:=Z2g e1
       have a2:=Z2g e2
       have a3:=Z2g e3
       have a4:=Z2g e4
       have oo:=(o3.trans o4).trans o5
       refine⟨_,rfl,_,rfl,_,rfl,_,rfl,fun u ud nu nd ndu=>⟨u,ud,⟨x.toNat,y.toNat,o.toNat,z.toNat⟩,?_,Z1X,fun H6 hA o6=>⟨rfl,?_⟩⟩⟩
       ·rw [Z0F (by omega:0≤x),Z0F (by omega:0≤y),Z0F (by omega:0≤o),Z0F (by omega:0≤z)];rfl
       ·have ru:r≠u:=Z1Z g5 nu
        have rd:r≠ud:=Z1Z g5 nd
        refine k H6 u ⟨dx5,o6 _ _ (by rw [Z1W ru,Z1W rd];exact g5) ru⟩ (fun b o e hb=>o6 _ _ (by rw [Z1W (Z1Z (oo _ _ e hb) nu),Z1W (Z1Z (oo _ _ e hb) nd)];exact oo _ _ e hb) (Z1Z (oo _ _ e hb) nu)) (Z8i oo g5 nu) hA
end
theorem Z4Y(bs:List Int)(k p:Nat):Z2J bs (k+1) p=match atomM bs p with
  |.error e=>.error e
  |.ok x=>match Z2J bs k (p+6)with
   |.error e=>.error e
   |.ok y=>.ok (x::y):=rfl
theorem Z8W(bs:List Int)(p:Nat):Z2J bs 0 p=.ok []:=rfl
theorem Z8Z(bs:List Int)(n:Int)(p:Nat)(b:Int×Int):Z2H bs n 0 p b=.ok []:=rfl
theorem Z4V(bs:List Int)(n:Int)(k p:Nat)(b:Int×Int):Z2H bs n (k+1) p b=match bondM bs n p b with
  |.error e=>.error e
  |.ok x=>match Z2H bs n k (p+4) (x.a,x.b)with
   |.error e=>.error e
   |.ok y=>.ok (x::y):=rfl
section
variable{P:Program}{w:World}{K:Z0a}{mg:Str→Option Value}{base:Heap}{CF CR fF CA CB CM:Addr}
def Z9G(K:Z0a)(CF CA CB CM:Addr):Sp:=fun vs H Q E=>∃ (a:Addr)(bs:List Int),vs=[.ref a]∧SqL K H a (bs.map V.int)∧(∀ x∈bs,0≤x∧x≤255) ∧
 match Z3M bs with
 |.ok M=>∀ (H':Hp)(mr al bl:Addr)(as ds:List Addr),Same H H'→H al=none→H bl=none→MolAt CM CA CB H' mr al bl as ds M→Q (.ref mr) H'
 |.error e=>FltS CF E H e.1 e.2
theorem scParts:Z2e ["form","reader","atom_count","bond_count","atoms","bonds","before","k","bond"] ["form"] (Z2b Z3k):=⟨rfl,rfl,rfl,by decide +kernel,rfl,by decide +kernel,by decide +kernel⟩
theorem blkParts:BlkOk ["form","reader","atom_count","bond_count","atoms","bonds","before","k","bond"] (Z2b Z3k) (Z7g (Z2o Z3k)) [("k",7)]:=⟨rfl,by decide +kernel,by decide +kernel,by decide +kernel,by decide +kernel⟩
theorem okParts{f fI fM fN fA fB fW fJ:Addr}{fd fdI fdM fdN fdA fdB fdW fdJ:FuncData}(F:Fun K "read_parts" "read_parts" Z3k f fd)(T:TR K mg CF CR fF)(B:TM K mg)(TB:TBd K CB)
  (M:Mk K CR fI)(GI:FnOk P w K mg base CX0 1 fI fdI ["self","form"] (spRI CR))(bI:Binds K fdI ["self","form"] [])
  (GM:FnOk P w K mg base (CXF P w) 2 fM fdM ["self","mark"] (Z8e K CF CR))(mM:Meth K CR "expect_mark" fM)(bM:Binds K fdM ["self","mark"] [])
  (GN:FnOk P w K mg base (CXF P w) 3 fN fdN ["self","size","least","most"] (spNum K CF CR))(mN:Meth K CR "number" fN)(bN:Binds K fdN ["self","size","least","most"] [])
  (GW:FnOk P w K mg base (CXF P w) 2 fW fdW ["self"] (spFin K CF CR))(mW:Meth K CR "finish" fW)(bW:Binds K fdW ["self"] [])
  (GA:FnOk P w K mg base (CXF P w) 4 fA fdA ["reader"] (spAtom K CF CR CA))(mA:mg "read_atom" = some (.ref fA))(kA:PySem.W.keepIn K (.ref fA)=true)(bA:Binds K fdA ["reader"] [])
  (GB:FnOk P w K mg base (CXF P w) 4 fB fdB ["reader","atom_count","before"] (spBnd K CF CR CB))(mB:mg "read_bond" = some (.ref fB))(kB:PySem.W.keepIn K (.ref fB)=true)(bB:Binds K fdB ["reader","atom_count","before"] [])
  (J:Mk K CM fJ)(hJ:mg "Molecule" = some (.ref CM))(GJ:FnOk P w K mg base CX0 1 fJ fdJ ["self","atoms","bonds"] (spMI CM))(bJ:Binds K fdJ ["self","atoms","bonds"] []) :
  FnOk P w K mg base (CXF P w) 5 f fd ["form"] (Z9G K CF CA CB CM):=by
 refine okX F scParts (fun vs H Q E h=>?_) (fun cdv A outer s H vs Q E hr h=>?_)
 ·obtain⟨a,bs,rfl,_⟩:=h
  rfl
 ·obtain⟨a,bs,rfl,hS,hb,k⟩:=h
  obtain⟨aM,eM,hM⟩:=B.mark
  obtain⟨aB,eB,hB⟩:=B.before
  have hr2:Room 2 _:=hr.mono (by decide)
  have hr3:Room 3 _:=hr.mono (by decide)
  refine⟨_,Z1Y (Z2h (i:=1) scParts.nd rfl (Or.inr rfl) (Z3p M GI hr2 rfl T.mgR bI .nil pass0 (Z1V (pv 0) Z2a)))
   (Z1Y (Z2r (Z2j (pv 1) T.cl mM GM hr2 bM .nil Z2i (Z1V (Z6c (v:=.ref aM) rfl eM rfl) Z2a)))
   (Z1Y (Z2h (i:=2) scParts.nd rfl (Or.inl rfl) (Z2j (pv 1) T.cl mN GN hr3 bN .nil Z2i (Z1V Z2f (Z1V Z2f (Z1V (pe_gc rfl B.cA) Z2a)))))
   (Z1Y (Z2h (i:=3) scParts.nd rfl (Or.inl rfl) (Z2j (pv 1) T.cl mN GN hr3 bN .nil Z2i (Z1V Z2f (Z1V Z2f (Z1V (pe_gc rfl B.cB) Z2a)))))
   (Z1Y (Z5S (E:=E) (i:=4) rfl rfl rfl (fun _ _ h=>h) rfl scParts.nd rfl rfl (Z5d rfl rfl rfl rfl) (Z4m rfl B.range (Z1V (pv 2) Z2a)) blkParts (fun s H C cl fp xe=>Z2x (i:=7) scParts.nd rfl (Or.inl rfl)) (fun s H C cl fp xe=>Z4x)
      (fun s H C cl fp xe hx=>Z2m GA hr rfl mA kA bA .nil hx (Z1V (pv 1) Z2a)))
   (Z1Y (Z2h (i:=5) scParts.nd rfl (Or.inl rfl) (Z3n Z2a))
   (Z1Y (Z2h (i:=6) scParts.nd rfl (Or.inl rfl) (Z6c (v:=.ref aB) rfl eB rfl))
   (Z1Y (Z3l Z4N rfl (Z4m rfl B.range (Z1V (pv 3) Z2a)) (Z2x (i:=7) scParts.nd rfl (Or.inl rfl))
     (Z1Y (Z2h (i:=8) scParts.nd rfl (Or.inl rfl) (Z2m GB hr rfl mB kB bB .nil Z2i (Z1V (pv 1) (Z1V (pv 2) (Z1V (pv 6) Z2a)))))
     (Z1Y (Z2r (pe_bm Z1g Z1F Z1G Z4R (pv 5) (Z1V (pv 8) Z2a)))
     (Z2c (Z2h (i:=6) scParts.nd rfl (Or.inl rfl) (Z4i (Z1V (Z2d (pv 8) rfl) (Z1V (Z2d (pv 8) rfl) Z2a))))))))
   (Z1Y (Z2r (Z6r (pv 1) T.cl mW GW hr2 bW .nil Z2i))
   (Z2c (Z2k (Z3p J GJ hr2 rfl hJ bJ .nil pass0 (Z1V (pv 4) (Z1V (pv 5) Z2a))))))))))))),?_⟩
  unfold Z3M at k
  refine⟨_,rfl,fun r dx nr nd ndr=>⟨r,dx,a,rfl,Z1X,fun H1 hR1 o1=>⟨rfl,?_⟩⟩⟩
  have s1:L2.Same H H1:=fun b o e=>o1 b o (by rw [Z1W (Z1Z e nr),Z1W (Z1Z e nd)];exact e) (Z1Z e nr)
  have S1:=s1.seq hS
  obtain⟨dx1,g1⟩:=id hR1
  refine⟨_,rfl,r,dx1,_,rfl,g1,rf_no _ _ (by decide) (by decide),r,a,aM,0,bs,_,rfl,hR1,S1,hM _,Z0q _,?_⟩
  cases e1:markM bs 0 [70,75,77,49]with
  |error e=>rw [e1]at k;exact FltS.flt k s1 nr
  |ok p =>
   rw [e1]at k
   dsimp only at k
   have hp:=Z4I (Z0q _) e1
   intro H2 hR2 o2
   have s2:=Same.only s1 o2 nr
   have S2:=s2.seq hS
   obtain⟨dx2,g2⟩:=id hR2
   refine⟨_,rfl,r,dx2,_,rfl,g2,rf_no _ _ (by decide) (by decide),r,a,p,1,bs,_,_,rfl,hR2,S2,hp,hb,?_⟩
   cases e2:numM bs p 1 0 128 with
   |error e=>rw [e2]at k;exact FltS.flt k s2 nr
   |ok n =>
    rw [e2]at k
    dsimp only at k
    obtain⟨q1,q2,q3,_⟩:=Z2g e2
    intro H3 hR3 o3
    have s3:=Same.only s2 o3 nr
    have S3:=s3.seq hS
    obtain⟨dx3,g3⟩:=id hR3
    refine⟨_,rfl,r,dx3,_,rfl,g3,rf_no _ _ (by decide) (by decide),r,a,p+1,1,bs,_,_,rfl,hR3,S3,by omega,hb,?_⟩
    cases e3:numM bs (p+1) 1 0 192 with
    |error e=>rw [e3]at k;exact FltS.flt k s3 nr
    |ok m =>
     rw [e3]at k
     dsimp only at k
     obtain⟨m1,m2,m3,_⟩:=Z2g e3
     intro H4 hR4 o4
     have s4:=Same.only s3 o4 nr
     obtain⟨dx4,g4⟩:=id hR4
     refine⟨_,rfl,n,rfl,by omega,by omega,fun al hal=>Z5t (lo:=0) (n:=n.toNat) (fun i H'=>∃ (as:List Addr)(l1:List Fk.Atom),L2.Same H H'∧RdAt CR H' r a (p+2+6*i)∧p+2+6*i≤bs.length∧H' al=some (.lst (as.map V.ref))∧l1.length=i∧Objs (AtomAt CA) H' as l1∧r∉as∧al∉as ∧
       Z2J bs n.toNat (p+2)=(match Z2J bs (n.toNat-i) (p+2+6*i)with |.error e=>.error e |.ok y=>.ok (l1++y)))
      ⟨[],[],s4.trans (RD.Same.new hal),⟨dx4,by rw [Z1W (Z1Z g4 hal)];exact g4⟩,by omega,Z1X,rfl,Objs.nil,by simp,by simp,?_⟩ ?_ ?_⟩
     ·rw [Z1f]
      show Z2J bs n.toNat (p+2)=_
      cases Z2J bs n.toNat (p+2)<;>rfl
     ·rintro i H' hi ⟨as,l1,s5,hR5,hq,hal5,hl1,hO,nra,naa,hk⟩
      obtain⟨dx5,g5⟩:=id hR5
      have nal:H al=none:=s4.free hal
      have S5:=s5.seq hS
      have hn:n.toNat-i=(n.toNat-(i+1))+1:=by omega
      rw [hn,Z4Y]at hk
      refine⟨rfl,_,rfl,r,a,p+2+6*i,bs,rfl,hR5,S5,hq,hb,?_⟩
      cases e4:atomM bs (p+2+6*i)with
      |error e =>
       rw [e4]at hk
       dsimp only at hk
       rw [hk]at k
       exact FltS.flt k s5 nr
      |ok x =>
       rw [e4]at hk
       dsimp only at hk
       intro H6 t hR6 o6 nt ht6
       have s6:=Same.only s5 o6 nr
       obtain⟨dx6,g6⟩:=id hR6
       obtain⟨dt,gt⟩:=id ht6
       have ral:r≠al:=ne_of g5 hal5 (by intro z;cases z)
       have hal6:H6 al=some (.lst (as.map V.ref)):=o6 _ _ hal5 ral.symm
       have htal:t≠al:=ne_of gt hal6 (by intro z;cases z)
       have htr:t≠r:=fun z=>by rw [z,g5]at nt;cases nt
       refine⟨_,hal6,by rw [Z0c,hO.1,hl1,sizeLine_eq];omega,as++[t],l1++[x],fun b o e=>?_,⟨dx6,?_⟩,?_,?_,by simp [hl1],?_,?_,?_,?_⟩
       ·rw [Z1W (Z1Z e nal)];exact s6 _ _ e
       ·rw [Z1W ral,show p+2+6*(i+1)=p+2+6*i+6 by omega];exact g6
       ·have:=(Z8J e4).1;omega
       ·rw [Z1X,Z0D];rfl
       ·refine Objs.snoc (hO.keep fun t' x' hm ha=>ha.ref fun o e=>?_) (ht6.ref fun o e=>?_)
        ·rw [Z1W (fun z=>naa (by rw [←z];exact hm))]
         exact o6 _ _ e (fun z=>nra (by rw [←z];exact hm))
        ·rw [Z1W htal];exact e
       ·rw [Z0k,not_or];exact⟨nra,by simpa using htr.symm⟩
       ·rw [Z0k,not_or];exact⟨naa,by simpa using htal.symm⟩
       ·rw [hk,show p+2+6*(i+1)=p+2+6*i+6 by omega]
        cases Z2J bs (n.toNat-(i+1)) (p+2+6*i+6)with
        |error e=>rfl
        |ok y=>simp
     ·rintro H5 ⟨as,l1,s5,hR5,hq,hal5,hl1,hO,nra,naa,hk⟩
      rw [Z0T,Z8W]at hk
      dsimp only at hk
      rw [hk]at k
      simp only [Z0G]at k
      obtain⟨dx5,g5⟩:=id hR5
      have nal:H al=none:=s4.free hal
      refine⟨Z0q _,fun le hle=>?_⟩
      have nle:H le=none:=s5.free hle
      have s6:L2.Same H (upd H5 le (.lst [])):=s5.trans (RD.Same.new hle)
      have rle:r≠le:=Z1Z g5 hle
      have ale:al≠le:=Z1Z hal5 hle
      generalize hP:p+2+6*n.toNat=P0 at hq k hR5 g5
      refine⟨_,rfl,m,rfl,by omega,by omega,Zaa (lo:=0) (n:=m.toNat) (fun i σ H'=>∃ (v7 v8:Option V)(b:Addr)(be:Int×Int)(l2:List Fk.Bond)(ts:List Addr),
       σ=[some (.ref a),some (.ref r),some (.int n),some (.int m),some (.ref al),some (.ref le),some (.ref b),v7,v8]∧L2.Same H H'∧RdAt CR H' r a (P0+4*i)∧P0+4*i≤bs.length∧H' al=some (.lst (as.map V.ref))∧Objs (AtomAt CA) H' as l1∧H' le=some (.lst (ts.map V.ref))∧Objs (BndAt CB) H' ts l2∧r∉ts∧l2.length=i ∧
       SqT K H' b (([be.1,be.2]:List Int).map V.int)∧Z2H bs n m.toNat P0 (0,0)=(match Z2H bs n (m.toNat-i) (P0+4*i) be with |.error e=>.error e |.ok y=>.ok (l2++y)))
       ⟨none,none,aB,(0,0),[],[],rfl,s6,⟨dx5,by rw [Z1W rle];exact g5⟩,hq,by rw [Z1W ale];exact hal5,hO.keep fun t x _ ha=>ha.ref fun o e=>by rw [Z1W (Z1Z e hle)];exact e,Z1X,Objs.nil,by simp,rfl,hB _,?_⟩ ?_ ?_⟩
      ·rw [Z1f]
       show Z2H bs n m.toNat P0 (0,0)=_
       cases Z2H bs n m.toNat P0 (0,0)<;>rfl
      ·rintro i σ H' hi ⟨v7,v8,b,be,l2,ts,rfl,s7,hR7,hq7,hal7,hA7,hle7,hE7,nrt,hl2,hB7,hk7⟩
       obtain⟨dx7,g7⟩:=id hR7
       have S7:=s7.seq hS
       have hn:m.toNat-i=(m.toNat-(i+1))+1:=by omega
       rw [hn,Z4V]at hk7
       refine⟨_,rfl,_,rfl,_,rfl,r,a,b,P0+4*i,n,bs,be,rfl,hR7,S7,hq7,hb,hB7,?_⟩
       cases e4:bondM bs n (P0+4*i) be with
       |error e =>
        rw [e4]at hk7
        dsimp only at hk7
        rw [hk7]at k
        exact FltS.flt k s7 nr
       |ok x =>
        rw [e4]at hk7
        dsimp only at hk7
        intro H8 t hR8 o8 nt ht8
        have s8:=Same.only s7 o8 nr
        obtain⟨dx8,g8⟩:=id hR8
        obtain⟨dt,gt⟩:=id ht8
        have hle8:H8 le=some (.lst (ts.map V.ref)):=o8 _ _ hle7 rle.symm
        have ral:r≠al:=ne_of g7 hal7 (by intro z;cases z)
        have hal8:H8 al=some (.lst (as.map V.ref)):=o8 _ _ hal7 ral.symm
        have htr:t≠r:=fun z=>by rw [z,g7]at nt;cases nt
        have htl:t≠le:=ne_of gt hle8 (by intro y;cases y)
        refine⟨_,rfl,.inl ⟨rfl,_,SqL.of hle8⟩,_,rfl,le,_,_,rfl,rfl,hle8,(by rw [Z0c,hE7.1,hl2];rw [sizeLine_eq];omega),?_⟩
        have ht9:upd H8 le (.lst (ts.map V.ref++[.ref t])) t=some (.ins CB dt (bf x.a x.b (x.order:Int) (x.side:Int))):=by rw [Z1W htl];exact gt
        refine⟨_,rfl,t,CB,dt,_,_,rfl,ht9,TB.cl,TB.na,bf_a _ _ _ _,_,rfl,t,CB,dt,_,_,rfl,ht9,TB.cl,TB.nb,bf_b _ _ _ _,(by show 2≤sizeLine;decide),fun u hu=>?_⟩
        have s9:L2.Same H (upd H8 le (.lst (ts.map V.ref++[.ref t]))):=fun b' o e=>by rw [Z1W (Z1Z e nle)];exact s8 _ _ e
        have r9:upd H8 le (.lst (ts.map V.ref++[.ref t])) r=some (.ins CR dx8 (rf a ((P0+4*i+4:Nat):Int))):=by rw [Z1W rle];exact g8
        have k9:∀ {b':Addr}{o:HO},H8 b'=some o→b'≠le→upd (upd H8 le (.lst (ts.map V.ref++[.ref t]))) u (.tup [.int (x.a:Int),.int (x.b:Int)]) b'=some o:=fun{b' o} e z=>by
         have e9:upd H8 le (.lst (ts.map V.ref++[.ref t])) b'=some o:=by rw [Z1W z];exact e
         rw [Z1W (Z1Z e9 hu)];exact e9
        refine⟨_,_,u,((x.a:Int),(x.b:Int)),l2++[x],ts++[t],rfl,s9.trans (RD.Same.new hu),⟨dx8,?_⟩,?_,k9 hal8 ale,?_,?_,?_,?_,by simp [hl2],SqT.of Z1X,?_⟩
        ·rw [Z1W (Z1Z r9 hu),show P0+4*(i+1)=P0+4*i+4 by omega];exact r9
        ·have:=(Z8E e4).1;omega
        ·exact hA7.keep fun t' x' hm ha=>by
          obtain⟨d',e'⟩:=ha
          exact⟨d',k9 (o8 _ _ e' (fun z=>nra (by rw [←z];exact hm))) (ne_of e' hle7 (by intro y;cases y))⟩
        ·rw [Z1W (Z1Z Z1X hu),Z1X,Z0D];rfl
        ·refine Objs.snoc (hE7.keep fun t' x' hm ha=>?_) ⟨dt,k9 gt htl⟩
         obtain⟨d',e'⟩:=ha
         exact⟨d',k9 (o8 _ _ e' (fun z=>nrt (by rw [←z];exact hm))) (ne_of e' hle7 (by intro y;cases y))⟩
        ·rw [Z0k,not_or];exact⟨nrt,by simpa using htr.symm⟩
        ·rw [hk7,show P0+4*(i+1)=P0+4*i+4 by omega]
         cases Z2H bs n (m.toNat-(i+1)) (P0+4*i+4) ((x.a:Int),(x.b:Int))with
         |error e=>rfl
         |ok y=>simp
      ·rintro σ H' ⟨v7,v8,b,be,l2,ts,rfl,s7,hR7,hq7,hal7,hA7,hle7,hE7,nrt,hl2,hB7,hk7⟩
       rw [Z0T,Z8Z]at hk7
       dsimp only at hk7
       rw [hk7]at k
       simp only [Z0G]at k
       obtain⟨dx7,g7⟩:=id hR7
       refine⟨_,rfl,r,dx7,_,rfl,g7,rf_no _ _ (by decide) (by decide),r,a,P0+4*m.toNat,bs,rfl,hR7,s7.seq hS,hq7,fun hqe H8 s8=>?_,fun hlt=>?_⟩
       ·rw [if_neg (by omega)]at k
        refine⟨_,rfl,_,rfl,fun u ud nu nd ndu=>⟨u,ud,al,le,rfl,Z1X,fun H9 hM9 o9=>⟨rfl,?_⟩⟩⟩
        have s9:L2.Same H8 H9:=fun b' o e=>o9 _ _ (by rw [Z1W (Z1Z e nu),Z1W (Z1Z e nd)];exact e) (Z1Z e nu)
        have s79:L2.Same H' H9:=s8.trans s9
        exact k H9 u al le as ts (s7.trans s79) nal nle ⟨⟨ud,hM9⟩,s79 _ _ hal7,hA7.keep fun t x _ ha=>ha.ref fun o e=>s79 _ _ e,s79 _ _ hle7,hE7.keep fun t x _ ha=>ha.ref fun o e=>s79 _ _ e⟩
       ·rw [if_pos hlt]at k
        exact FltS.flt k s7 nr
end
end BK
end
section
namespace BK
open Fk
def cbn:List Bond→List Nat→Nat→Nat
 |x::L,o::l,v=>(if x.at_ v=true then o else 0)+cbn L l v
 |_,_,_=>0
theorem Z5i(l:List Nat)(v:Nat):cbn [] l v=0:=by cases l<;>rfl
theorem Z4a(x:Bond)(L:List Bond)(o:Nat)(l:List Nat)(v:Nat):cbn (x::L) (o::l) v=(if x.at_ v=true then o else 0)+cbn L l v:=rfl
theorem Z7N:∀ (L:List Bond)(l:List Nat)(v:Nat),l.length=L.length→(∀ o∈l,1≤o∧o≤3)→(L.filter fun x=>x.at_ v).length≤cbn L l v∧cbn L l v≤3*(L.filter fun x=>x.at_ v).length
 |[],l,v,_,_=>by rw [Z5i];simp
 |x::L,[],v,h,_=>by simp at h
 |x::L,o::l,v,h,hb=>by
  have ih:=Z7N L l v (by simpa using h) fun o' ho=>hb o' (Z0f _ ho)
  have ho:=hb o (Z0g ..)
  rw [Z4a]
  by_cases q:x.at_ v=true
  ·rw [Z1s (p:=fun x:Bond=>x.at_ v) q,if_pos q,Z0s];omega
  ·rw [Z1t (p:=fun x:Bond=>x.at_ v) q,if_neg q];omega
theorem Z5x(l:List Nat)(v n i:Nat):(addTo l v n).getD i 0=if i<l.length then(if i=v then l.getD i 0+n else l.getD i 0)else 0:=by
 unfold addTo
 rw [Z0E,Z0n,List.getElem?_zipIdx]
 by_cases h:i<l.length
 ·rw [if_pos h,Z0l h]
  simp only [Z1e,Z1H,Nat.zero_add]
  rw [Z0E,Z0l h]
  rfl
 ·rw [if_neg h,Z1i.mpr (by omega)]
  rfl
theorem Z4M(l:List Nat)(v n:Nat):(addTo l v n).length=l.length:=by
 unfold addTo
 rw [Z0c,List.length_zipIdx]
theorem Zab{l:List Nat}{x:Bond}{o:Nat}(ha:x.a<l.length)(hb:x.b<l.length)(hn:x.a≠x.b)(v:Nat):(addTo (addTo l x.a o) x.b o).getD v 0=l.getD v 0+if x.at_ v=true then o else 0:=by
 rw [Z5x,Z4M]
 have hat:x.at_ v=true↔v=x.a∨v=x.b:=by
  unfold Bond.at_
  rw [Bool.or_eq_true,beq_iff_eq,beq_iff_eq]
  exact⟨fun h=>h.imp Eq.symm Eq.symm,fun h=>h.imp Eq.symm Eq.symm⟩
 by_cases hv:v<l.length
 ·rw [if_pos hv]
  by_cases q2:v=x.b
  ·rw [if_pos q2,Z5x,if_pos hv,if_neg (by omega),if_pos (hat.mpr (.inr q2))]
  ·rw [if_neg q2,Z5x,if_pos hv]
   by_cases q1:v=x.a
   ·rw [if_pos q1,if_pos (hat.mpr (.inl q1))]
   ·rw [if_neg q1,if_neg (fun h=>(hat.mp h).elim q1 q2)];rfl
 ·rw [if_neg hv,if_neg (fun h=>(hat.mp h).elim (by omega) (by omega)),Z0E,Z1i.mpr (by omega)]
  rfl
theorem Z9U{l m:List Nat}(h:l.length=m.length)(k:∀ v,l.getD v 0=m.getD v 0):l=m:=by
 apply List.ext_getElem h
 intro i h1 h2
 have:=k i
 rw [Z0E,Z0E,Z0l h1,Z0l h2]at this
 exact this
theorem Z5r(want:List Nat):∀ (L:List Bond)(part l:List Nat),part.length=want.length→(∀ x∈L,x.a<want.length∧x.b<want.length∧x.a≠x.b) →
  (l∈ordersFor want L part↔l.length=L.length∧(∀ o∈l,1≤o∧o≤3)∧∀ v,part.getD v 0+cbn L l v=want.getD v 0)
 |[],part,l,hl,_=>by
  unfold ordersFor
  constructor
  ·intro h
   split at h
   ·rename_i q
    have q:=beq_iff_eq.mp q
    have h:=Z0i.mp h
    subst h q
    exact⟨rfl,fun o ho=>by simp at ho,fun v=>by rw [Z5i];rfl⟩
   ·simp at h
  ·rintro⟨h1,_,h3⟩
   have:l=[]:=Z1E h1
   subst this
   have:part=want:=Z9U hl fun v=>by have:=h3 v;rw [Z5i]at this;exact this
   rw [if_pos (beq_iff_eq.mpr this)]
   exact Z0i.mpr rfl
 |x::L,part,l,hl,hw=>by
  have hx:=hw x (Z0g ..)
  have hL:∀ y∈L,y.a<want.length∧y.b<want.length∧y.a≠y.b:=fun y hy=>hw y (Z0f _ hy)
  have q2:∀ o,(addTo (addTo part x.a o) x.b o).length=want.length:=fun o=>by rw [Z4M,Z4M,hl]
  have gd:∀ o v,(addTo (addTo part x.a o) x.b o).getD v 0=part.getD v 0+if x.at_ v=true then o else 0:=fun o v=>Zab (by rw [hl];exact hx.1) (by rw [hl];exact hx.2.1) hx.2.2 v
  unfold ordersFor
  rw [List.mem_flatMap]
  constructor
  ·rintro⟨o,ho,h⟩
   dsimp only at h
   split at h
   ·obtain⟨r,hr,rfl⟩:=Z0N.mp h
    obtain⟨h1,h2,h3⟩:=(Z5r want L _ r (q2 o) hL).mp hr
    refine⟨by rw [Z0s,Z0s,h1],fun o' ho'=>?_,fun v=>?_⟩
    ·rcases Z0d.mp ho' with rfl |ho'
     ·simp at ho;omega
     ·exact h2 o' ho'
    ·rw [Z4a,←h3 v,gd o v];omega
   ·simp at h
  ·rintro⟨h1,h2,h3⟩
   cases l with
   |nil=>simp at h1
   |cons o r =>
    have ho:=h2 o (Z0g ..)
    have hr2:∀ o'∈r,1≤o'∧o'≤3:=fun o' h=>h2 o' (Z0f _ h)
    have hr1:r.length=L.length:=by simpa using h1
    have h3':∀ v,(addTo (addTo part x.a o) x.b o).getD v 0+cbn L r v=want.getD v 0:=fun v=>by
     rw [gd o v,←h3 v,Z4a];omega
    have can:∀ v,canStill (addTo (addTo part x.a o) x.b o) want L v=true:=fun v=>by
     unfold canStill
     have:=Z7N L r v hr1 hr2
     have:=h3' v
     rw [Z0y,decide_eq_true_iff,decide_eq_true_iff]
     omega
    refine⟨o,by simp;omega,?_⟩
    dsimp only
    rw [if_pos (by rw [can,can];rfl)]
    exact Z0N.mpr ⟨r,(Z5r want L _ r (q2 o) hL).mpr ⟨hr1,hr2,h3'⟩,rfl⟩
theorem Zal(l:List Nat)(a:Nat):l.foldl (· + ·) a=a+l.foldl (· + ·) 0:=by
 induction l generalizing a with
 |nil=>rfl
 |cons x l ih=>rw [Z1u,Z1u,ih (a+x),ih (0+x)];omega
theorem sum_cbn(L:List Bond)(v:Nat):((L.filter fun x=>x.at_ v).map Bond.order).foldl (· + ·) 0=cbn L (L.map Bond.order) v:=by
 induction L with
 |nil=>rfl
 |cons x L ih =>
  rw [Z0B,Z4a]
  by_cases q:x.at_ v=true
  ·rw [Z1s (p:=fun x:Bond=>x.at_ v) q,Z0B,Z1u,Zal,ih,if_pos q];omega
  ·rw [Z1t (p:=fun x:Bond=>x.at_ v) q,ih,if_neg q];omega
def Z2A:Bond:=⟨0,1,1,0⟩
def GM(M:Mol):MX.Gr:=⟨M.atoms.length,M.bonds.length,fun e=>⟨(M.bonds.getD e Z2A).a,(M.bonds.getD e Z2A).b,((M.bonds.getD e Z2A).order:Int)⟩⟩
theorem GM_bd{M:Mol}{e:Nat}{x:Bond}(h:M.bonds[e]?=some x):(GM M).bd e=⟨x.a,x.b,(x.order:Int)⟩:=by
 show(⟨(M.bonds.getD e Z2A).a,(M.bonds.getD e Z2A).b,((M.bonds.getD e Z2A).order:Int)⟩:MX.Bd)=_
 rw [Z0E,h];rfl
theorem GM_ok{M:Mol}(w:Wf M):(GM M).Ok:=by
 have key:∀ e,e<M.bonds.length→∃ x,M.bonds[e]?=some x∧WfB M.atoms.length x:=fun e he=>⟨M.bonds[e],Z0l he,w.bd _ (Z0Y he)⟩
 refine⟨fun e he=>?_,fun e he=>?_,fun e he=>?_,fun e he=>?_⟩<;>obtain⟨x,hx,wx⟩:=key e he<;>rw [GM_bd hx]
 ·exact Z0o wx.ab
 ·exact Z0O wx.ab wx.bn
 ·exact wx.bn
 ·have:=wx.od
  dsimp only
  omega
theorem sm_shift(m:Nat)(f:Nat→Int):MX.sm (m+1) f=f 0+MX.sm m fun i=>f (i+1):=by
 induction m with
 |zero=>show 0+f 0=f 0+0;omega
 |succ m ih =>
  show MX.sm (m+1) f+f (m+1)=f 0+(MX.sm m (fun i=>f (i+1))+f (m+1))
  rw [ih];omega
theorem inc_at{x:Bond}{v:Nat}{o:Int}(h:x.a≠x.b):MX.inc ⟨x.a,x.b,o⟩ v=if x.at_ v=true then 1 else 0:=by
 unfold MX.inc Bond.at_
 dsimp only
 by_cases q1:v=x.a
 ·rw [if_pos q1,if_neg (by omega),if_pos (by simp [q1])];rfl
 ·by_cases q2:v=x.b
  ·rw [if_neg q1,if_pos q2,if_pos (by simp [q2])];rfl
  ·rw [if_neg q1,if_neg q2,if_neg (by simp;omega)];rfl
theorem Z8N:∀ (L:List Bond)(l:List Nat)(v:Nat),l.length=L.length→(∀ x∈L,x.a≠x.b) →
  MX.sm L.length (fun e=>MX.inc ⟨(L.getD e Z2A).a,(L.getD e Z2A).b,((L.getD e Z2A).order:Int)⟩ v*(((l.getD e 0:Nat):Int)))=(cbn L l v:Int)
 |[],l,v,_,_=>by rw [Z5i];rfl
 |x::L,[],v,h,_=>by simp at h
 |x::L,o::l,v,h,hn=>by
  rw [Z0s,sm_shift,Z4a]
  have ih:=Z8N L l v (by simpa using h) fun y hy=>hn y (Z0f _ hy)
  have e0:MX.inc ⟨((x::L).getD 0 Z2A).a,((x::L).getD 0 Z2A).b,(((x::L).getD 0 Z2A).order:Int)⟩ v=if x.at_ v=true then 1 else 0:=inc_at (hn x (Z0g ..))
  have e1:(fun i=>MX.inc ⟨((x::L).getD (i+1) Z2A).a,((x::L).getD (i+1) Z2A).b,(((x::L).getD (i+1) Z2A).order:Int)⟩ v*((((o::l).getD (i+1) 0:Nat):Int)))=fun e=>MX.inc ⟨(L.getD e Z2A).a,(L.getD e Z2A).b,((L.getD e Z2A).order:Int)⟩ v*(((l.getD e 0:Nat):Int)):=rfl
  rw [e1,ih,e0]
  show(if x.at_ v=true then(1:Int)else 0)*(o:Int)+_=_
  split<;>push_cast<;>omega
theorem sm_minus(n:Nat)(f g:Nat→Int):MX.sm n (fun i=>f i-g i)=MX.sm n f-MX.sm n g:=by
 induction n with
 |zero=>rfl
 |succ n ih =>
  show MX.sm n (fun i=>f i-g i)+(f n-g n)=(MX.sm n f+f n)-(MX.sm n g+g n)
  rw [ih];omega
theorem cbn_far{L:List Bond}{v n:Nat}(h:∀ x∈L,x.a<n∧x.b<n)(hv:n≤v):∀ l,cbn L l v=0:=by
 induction L with
 |nil=>exact fun l=>Z5i l v
 |cons x L ih =>
  intro l
  cases l with
  |nil=>rfl
  |cons o l =>
   have hx:=h x (Z0g ..)
   rw [Z4a,ih (fun y hy=>h y (Z0f _ hy)) l,if_neg]
   unfold Bond.at_
   simp
   omega
theorem Z4K{M:Mol}(w:Wf M)(l:List Nat):l∈ordersFor M.sums M.bonds (M.sums.map fun _=>0)↔l.length=M.bonds.length∧(∀ o∈l,1≤o∧o≤3)∧∀ v,v<M.atoms.length→cbn M.bonds l v=cbn M.bonds M.orders v:=by
 have sl:M.sums.length=M.atoms.length:=by unfold Mol.sums Mol.n;rw [Z0c,Z0Z]
 have hb:∀ x∈M.bonds,x.a<M.atoms.length∧x.b<M.atoms.length:=fun x hx=>let h:=w.bd x hx;⟨Z0O h.ab h.bn,h.bn⟩
 have zl:∀ v,(M.sums.map fun _=>0).getD v 0=0:=fun v=>by
  rw [Z0E,Z0n]
  cases M.sums[v]?<;>rfl
 have sg:∀ v,M.sums.getD v 0=if v<M.atoms.length then cbn M.bonds M.orders v else 0:=fun v=>by
  unfold Mol.sums Mol.n
  rw [Z0E,Z0n]
  by_cases q:v<M.atoms.length
  ·rw [if_pos q,Z0l (by rw [Z0Z];exact q),List.getElem_range]
   show M.sum v=_
   unfold Mol.sum Mol.orders
   exact sum_cbn M.bonds v
  ·rw [if_neg q,Z1i.mpr (by rw [Z0Z];omega)];rfl
 rw [Z5r M.sums M.bonds _ l (by rw [Z0c]) fun x hx=>⟨by rw [sl];exact(hb x hx).1,by rw [sl];exact(hb x hx).2,Z0o (w.bd x hx).ab⟩]
 refine and_congr_right fun _=>and_congr_right fun _=>⟨fun h v hv=>?_,fun h v=>?_⟩
 ·have:=h v
  rw [zl,sg,if_pos hv]at this
  omega
 ·rw [zl,sg]
  by_cases q:v<M.atoms.length
  ·rw [if_pos q,h v q];omega
  ·rw [if_neg q,cbn_far hb (by omega)]
theorem Z3y{M:Mol}{e:Nat}{x:Bond}(h:M.bonds[e]?=some x):M.orders.getD e 0=x.order:=by
 unfold Mol.orders
 rw [Z0E,Z0n,h];rfl
theorem Z8T{M:Mol}(w:Wf M){l:List Nat}(hl:l.length=M.bonds.length)(v:Nat):(GM M).bdr (fun e=>((l.getD e 0:Nat):Int)-((M.orders.getD e 0:Nat):Int)) v=(cbn M.bonds l v:Int)-(cbn M.bonds M.orders v:Int):=by
 have hn:∀ x∈M.bonds,x.a≠x.b:=fun x hx=>Z0o (w.bd x hx).ab
 rw [←Z8N M.bonds l v hl hn,←Z8N M.bonds M.orders v (by unfold Mol.orders;rw [Z0c]) hn,←sm_minus]
 show MX.sm M.bonds.length _=_
 refine MX.Z4P fun i hi=>?_
 show MX.inc _ v*_=MX.inc _ v*_-MX.inc _ v*_
 rw [Int.mul_sub]
 rfl
theorem row_chg{M:Mol}(w:Wf M){l:List Nat}(h:l∈ordersFor M.sums M.bonds (M.sums.map fun _=>0)):(GM M).Chg fun e=>((l.getD e 0:Nat):Int)-((M.orders.getD e 0:Nat):Int):=by
 obtain⟨h1,h2,h3⟩:=(Z4K w l).mp h
 have key:∀ e,e<M.bonds.length→∃ x,M.bonds[e]?=some x∧1≤l.getD e 0∧l.getD e 0≤3:=fun e he=>by
  refine⟨M.bonds[e],Z0l he,?_⟩
  have le:e<l.length:=by omega
  rw [Z0E,Z0l le]
  exact h2 _ (Z0Y le)
 refine⟨fun e he=>?_,fun e he=>?_,fun v hv=>?_⟩
 ·obtain⟨x,hx,a,b⟩:=key e he
  rw [GM_bd hx,Z3y hx]
  dsimp only
  omega
 ·obtain⟨x,hx,a,b⟩:=key e he
  rw [GM_bd hx,Z3y hx]
  dsimp only
  omega
 ·rw [Z8T w h1,h3 v hv];omega
theorem chg_row{M:Mol}(w:Wf M){δ:Nat→Int}(h:(GM M).Chg δ):∃ l,l∈ordersFor M.sums M.bonds (M.sums.map fun _=>0)∧∀ e,e<M.bonds.length→((l.getD e 0:Nat):Int)=((M.orders.getD e 0:Nat):Int)+δ e:=by
 have key:∀ e,e<M.bonds.length→1≤((M.orders.getD e 0:Nat):Int)+δ e∧((M.orders.getD e 0:Nat):Int)+δ e≤3:=fun e he=>by
  have hx:M.bonds[e]?=some M.bonds[e]:=Z0l he
  have a:=h.up e he
  have b:=h.dn e he
  rw [GM_bd hx]at a b
  rw [Z3y hx]
  dsimp only at a b
  omega
 have gl:∀ e,e<M.bonds.length→(((((List.range M.bonds.length).map fun e=>(((M.orders.getD e 0:Nat):Int)+δ e).toNat)).getD e 0:Nat):Int)=((M.orders.getD e 0:Nat):Int)+δ e:=fun e he=>by
  rw [Z0E,Z0n,Z0l (by rw [Z0Z];exact he),List.getElem_range]
  show(((((M.orders.getD e 0:Nat):Int)+δ e).toNat:Nat):Int)=_
  have:=key e he
  omega
 have ll:((List.range M.bonds.length).map fun e=>(((M.orders.getD e 0:Nat):Int)+δ e).toNat).length=M.bonds.length:=by rw [Z0c,Z0Z]
 refine⟨_,(Z4K w _).mpr ⟨ll,fun o ho=>?_,fun v hv=>?_⟩,gl⟩
 ·obtain⟨e,he,rfl⟩:=Z0N.mp ho
  have:=key e (Z1j.mp he)
  omega
 ·have e1:=Z8T w ll v
  have e2:=h.sum v hv
  have e3:(GM M).bdr (fun e=>(((((List.range M.bonds.length).map fun e=>(((M.orders.getD e 0:Nat):Int)+δ e).toNat)).getD e 0:Nat):Int)-((M.orders.getD e 0:Nat):Int)) v=(GM M).bdr δ v:=MX.Z4P fun i hi=>by
   have:=gl i hi
   dsimp only
   rw [show(((((List.range M.bonds.length).map fun e=>(((M.orders.getD e 0:Nat):Int)+δ e).toNat)).getD i 0:Nat):Int)-((M.orders.getD i 0:Nat):Int)=δ i by omega]
  rw [e3,e2]at e1
  omega
theorem Z5h{M:Mol}{l:List Nat}(h:l.length=M.bonds.length):(M.ordered l).orders=l:=by
 unfold Mol.ordered Mol.orders
 dsimp only
 rw [List.map_map]
 have:(Bond.order ∘ fun x:Bond×Nat=>({ x.1 with order:=x.2 }:Bond))=Prod.snd:=rfl
 rw [this,List.map_snd_zip (by omega)]
theorem Zay{M:Mol}(w:Wf M){k:Nat}{x:Bond}(hk:M.bonds[k]?=some x):(M.fixedAt k==2)=true↔x.order=2∧∀ δ,(GM M).Chg δ→δ k=0:=by
 have km:=(Z0p.mp hk).1
 have e1:M.fixedAt k=if ((M.redrawings.map Mol.orders).all fun(r:List Nat)=>r[k]?==some x.order)=true then x.order else 0:=by
  unfold Mol.fixedAt Mol.fixed
  dsimp only
  rw [Z0E,Z0n,List.getElem?_zipIdx,hk]
  simp only [Z1e,Z1H,Nat.zero_add]
 have e2:((M.redrawings.map Mol.orders).all fun(r:List Nat)=>r[k]?==some x.order)=true↔∀ l∈ordersFor M.sums M.bonds (M.sums.map fun _=>0),l[k]?=some x.order:=by
  rw [Z0R]
  unfold Mol.redrawings
  constructor
  ·intro h l hl
   have:=h l (Z0N.mpr ⟨M.ordered l,Z0N.mpr ⟨l,hl,rfl⟩,Z5h ((Z4K w l).mp hl).1⟩)
   exact beq_iff_eq.mp this
  ·intro h r hr
   obtain⟨m,hm,rfl⟩:=Z0N.mp hr
   obtain⟨l,hl,rfl⟩:=Z0N.mp hm
   rw [Z5h ((Z4K w l).mp hl).1]
   exact beq_iff_eq.mpr (h l hl)
 have e3:(∀ l∈ordersFor M.sums M.bonds (M.sums.map fun _=>0),l[k]?=some x.order)↔∀ δ,(GM M).Chg δ→δ k=0:=by
  constructor
  ·intro h δ hδ
   obtain⟨l,hl,hg⟩:=chg_row w hδ
   have a:=h l hl
   have b:=hg k km
   rw [Z0E,a,Z3y hk]at b
   simp only [Z1H]at b
   omega
  ·intro h l hl
   have a:=h _ (row_chg w hl)
   rw [Z3y hk]at a
   have le:k<l.length:=by rw [((Z4K w l).mp hl).1];exact km
   rw [Z0E,Z0l le]at a
   simp only [Z1H]at a
   rw [Z0l le]
   congr 1
   omega
 have ox:=(w.bd x (Z0z hk)).od
 rw [beq_iff_eq,e1,←e3,←e2]
 constructor
 ·intro h
  split at h
  ·rename_i q;exact⟨h,q⟩
  ·omega
 ·rintro⟨h,q⟩
  rw [if_pos q];exact h
def deg(M:Mol)(v:Nat):Nat:=(M.bonds.filter fun x=>x.at_ v).length
theorem Z7p(n:Nat)(p:Nat→Bool):((List.range n).filter p).length=MX.cnt n fun w=>p w=true:=by
 induction n with
 |zero=>rfl
 |succ n ih =>
  have e:MX.cnt (n+1) (fun w=>p w=true)=MX.cnt n (fun w=>p w=true)+(if p n=true then 1 else 0):=by
   rw [MX.cnt]
   split<;>rfl
  rw [List.range_succ,List.filter_append,Z0A,ih,e]
  by_cases q:p n=true
  ·rw [Z1s q,if_pos q];rfl
  ·rw [Z1t q,if_neg q];rfl
theorem ZaG{x:Bond}{v w:Nat}:x.joins v w=true↔(x.a=v∧x.b=w)∨(x.a=w∧x.b=v):=by
 unfold Bond.joins
 simp
theorem ZaJ{x:Bond}{v:Nat}:x.at_ v=true↔x.a=v∨x.b=v:=by
 unfold Bond.at_
 simp
theorem Z4Q{L:List Bond}{v w:Nat}:(L.find? fun x=>x.joins v w).isSome=true↔∃ x∈L,x.joins v w=true:=by
 rw [List.find?_isSome]
theorem cnt_no(n:Nat):MX.cnt n (fun _=>False)=0:=by
 induction n with
 |zero=>rfl
 |succ n ih=>unfold MX.cnt;rw [ih,if_neg (fun h=>h)]
theorem Z9B{n v:Nat}:∀ {L:List Bond},(∀ x∈L,WfB n x)→L.Pairwise Bel→MX.cnt n (fun w=>(L.find? fun x=>x.joins v w).isSome=true)=(L.filter fun x=>x.at_ v).length
 |[],_,_=>by
  rw [MX.Z4f (q:=fun _=>False) fun x _=>by simp]
  exact cnt_no n
 |x::L,h,hp=>by
  have hL:=fun y hy=>h y (Z0f _ hy)
  have ih:=Z9B (v:=v) hL (List.pairwise_cons.mp hp).2
  have wx:=h x (Z0g ..)
  by_cases q:x.at_ v=true
  ·rw [Z1s (p:=fun x:Bond=>x.at_ v) q,Z0s,←ih]
   have hv:=ZaJ.mp q
   have ab:=wx.ab
   have bn:=wx.bn
   obtain⟨w0,hw0,hj,uniq⟩:∃ w0,w0<n∧x.joins v w0=true∧∀ w,x.joins v w=true→w=w0:=by
    rcases hv with hv |hv
    ·exact⟨x.b,bn,ZaG.mpr (.inl ⟨hv,rfl⟩),fun w hw=>by rcases ZaG.mp hw with⟨_,z⟩ |⟨_,z⟩<;>omega⟩
    ·exact⟨x.a,by omega,ZaG.mpr (.inr ⟨rfl,hv⟩),fun w hw=>by rcases ZaG.mp hw with⟨_,z⟩ |⟨z,_⟩<;>omega⟩
   refine MX.Z8t hw0 (Z4Q.mpr ⟨x,Z0g ..,hj⟩) fun w=>?_
   rw [Z4Q,Z4Q]
   constructor
   ·rintro⟨y,hy,hyj⟩
    refine⟨⟨y,Z0f _ hy,hyj⟩,fun z=>?_⟩
    subst z
    have wy:=hL y hy
    have yb:=wy.ab
    have bel:=(List.pairwise_cons.mp hp).1 y hy
    unfold Bel at bel
    rcases ZaG.mp hyj with⟨a,b⟩ |⟨a,b⟩<;>rcases ZaG.mp hj with⟨c,d⟩ |⟨c,d⟩<;>omega
   ·rintro⟨⟨y,hy,hyj⟩,hne⟩
    rcases Z0d.mp hy with rfl |hy
    ·exact absurd (uniq w hyj) hne
    ·exact⟨y,hy,hyj⟩
  ·rw [Z1t (p:=fun x:Bond=>x.at_ v) q,←ih]
   refine MX.Z4f fun w _=>?_
   rw [Z4Q,Z4Q]
   constructor
   ·rintro⟨y,hy,hyj⟩
    rcases Z0d.mp hy with rfl |hy
    ·refine absurd (ZaJ.mpr ?_) q
     rcases ZaG.mp hyj with⟨a,b⟩ |⟨a,b⟩
     ·exact .inl a
     ·exact .inr b
    ·exact⟨y,hy,hyj⟩
   ·rintro⟨y,hy,hyj⟩
    exact⟨y,Z0f _ hy,hyj⟩
theorem Z6K{M:Mol}(w:Wf M)(v:Nat):(M.beside v).length=deg M v:=by
 unfold Mol.beside Mol.n
 rw [Z7p]
 exact Z9B w.bd w.rs
theorem Z9b{M:Mol}(w:Wf M){v u:Nat}(hu:u<M.atoms.length)(hj:M.joined v u=true):(M.besides v u).length+1=deg M v:=by
 rw [←Z6K w v]
 unfold Mol.besides Mol.beside Mol.n
 rw [List.filter_filter,Z7p,Z7p]
 refine(MX.Z8t hu hj fun x=>?_).symm
 rw [Z0y,bne_iff_ne,and_comm]
def endOk(M:Mol)(v:Nat):Prop:=(1:Int)≤(deg M v:Int)-1∧(deg M v:Int)-1+((M.atom v).hydrogens:Int)≤2
theorem Z6F{M:Mol}(w:Wf M){v u:Nat}(hu:u<M.atoms.length)(hj:M.joined v u=true):M.endMay v u=true↔endOk M v:=by
 have:=Z9b w hu hj
 unfold Mol.endMay endOk
 rw [Z0y,decide_eq_true_iff,decide_eq_true_iff]
 omega
theorem Zaz{M:Mol}(w:Wf M){k:Nat}{x:Bond}(hk:M.bonds[k]?=some x):M.sided k=true↔x.order=2∧endOk M x.a∧endOk M x.b∧∀ δ,(GM M).Chg δ→δ k=0:=by
 have wx:=w.bd x (Z0z hk)
 have hx:=Z0z hk
 have j1:M.joined x.a x.b=true:=Z4Q.mpr ⟨x,hx,ZaG.mpr (.inl ⟨rfl,rfl⟩)⟩
 have j2:M.joined x.b x.a=true:=Z4Q.mpr ⟨x,hx,ZaG.mpr (.inr ⟨rfl,rfl⟩)⟩
 unfold Mol.sided
 rw [hk]
 dsimp only
 rw [Z0y,Z0y,Zay w hk,Z6F w wx.bn j1,Z6F w (Z0O wx.ab wx.bn) j2]
 constructor
 ·rintro⟨⟨a,b⟩,c,d⟩;exact⟨a,c,d,b⟩
 ·rintro⟨a,c,d,b⟩;exact⟨⟨a,b⟩,c,d⟩
theorem Zaw{M:Mol}(w:Wf M)(v:Nat):M.handed v=(decide (3≤deg M v)&&(decide ((M.atom v).hydrogens≤1)&&decide (deg M v+(M.atom v).hydrogens≤4))):=by
 unfold Mol.handed
 rw [Z6K w v]
end BK
end
section
namespace BK
open PySem PySem.Spec PyProof.Rows L2 EX RD LM
def cV(n:Nat)(c:Nat→Int):List V:=(List.range n).map fun v=>.int (c v)
theorem Z4B(n:Nat)(c:Nat→Int):(cV n c).length=n:=by unfold cV;rw [Z0c,Z0Z]
theorem Z5a{n v:Nat}(c:Nat→Int)(h:v<n):(cV n c)[v]?=some (.int (c v)):=by
 unfold cV
 rw [Z0n,Z0l (by rw [Z0Z];exact h),List.getElem_range];rfl
theorem cV_set(n a:Nat)(c:Nat→Int)(y:Int):(cV n c).set a (.int y)=cV n fun v=>if v=a then y else c v:=by
 apply List.ext_getElem?
 intro i
 rw [List.getElem?_set]
 by_cases hi:i<n
 ·rw [Z5a _ hi,Z5a _ hi,Z4B]
  by_cases q:a=i
  ·subst q;rw [if_pos rfl,if_pos hi,if_pos rfl]
  ·rw [if_neg q,if_neg (Ne.symm q)]
 ·have e1:(cV n c)[i]?=none:=Z1i.mpr (by rw [Z4B];omega)
  have e2:(cV n fun v=>if v=a then y else c v)[i]?=none:=Z1i.mpr (by rw [Z4B];omega)
  rw [e1,e2,Z4B]
  split
  ·split
   ·omega
   ·rfl
  ·rfl
theorem Z8I{n:Nat}{c d:Nat→Int}(h:∀ v,v<n→c v=d v):cV n c=cV n d:=by
 unfold cV
 exact Z1T fun v hv=>by rw [h v (Z1j.mp hv)]
def dg(M:Fk.Mol)(i v:Nat):Int:=(((M.bonds.take i).filter fun x=>x.at_ v).length:Int)
theorem dg_succ{M:Fk.Mol}{i:Nat}{x:Fk.Bond}(h:M.bonds[i]?=some x)(hn:x.a≠x.b)(v:Nat):dg M (i+1) v=(if v=x.b then(if v=x.a then dg M i v+1 else dg M i v)+1 else(if v=x.a then dg M i v+1 else dg M i v)):=by
 unfold dg
 rw [Z1q,h,List.filter_append,Z0A]
 show(((_:Nat)+((([x]:List Fk.Bond).filter fun x=>x.at_ v).length):Nat):Int)=_
 by_cases q:x.at_ v=true
 ·rw [Z1s (p:=fun x:Fk.Bond=>x.at_ v) q]
  rcases ZaJ.mp q with z |z
  ·rw [if_neg (by omega),if_pos z.symm];simp
  ·rw [if_pos z.symm,if_neg (by omega)];simp
 ·rw [Z1t (p:=fun x:Fk.Bond=>x.at_ v) q]
  have:=fun z=>q (ZaJ.mpr z)
  rw [if_neg (fun z=>this (.inr z.symm)),if_neg (fun z=>this (.inl z.symm))];simp
theorem Z9p{M:Fk.Mol}{i:Nat}{x:Fk.Atom}(h:M.atoms[i]?=some x):M.atom i=x:=by
 unfold Fk.Mol.atom
 rw [Z0E,h];rfl
section
variable{P:Program}{w:World}{K:Z0a}{mg:Str→Option Value}{base:Heap}{CF CR fF CA CB CM:Addr}
def spNb(CA CB CM:Addr):Sp:=fun vs H Q _=>∃ (mr al bl:Addr)(as ds:List Addr)(M:Fk.Mol),vs=[.ref mr]∧MolAt CM CA CB H mr al bl as ds M∧Wf M∧∀ H' cl,Same H H'→H' cl=some (.lst (cV M.atoms.length fun v=>(deg M v:Int)))→Q (.ref cl) H'
theorem scNb:Z2e ["molecule","counts","bond","atom"] ["molecule"] (Z2b Z2E):=⟨rfl,rfl,rfl,by decide +kernel,rfl,by decide +kernel,by decide +kernel⟩
theorem blkNb:BlkOk ["molecule","counts","bond","atom"] (Z2b Z2E) (Z7g (Z2o Z2E)) [("atom",3)]:=⟨rfl,by decide +kernel,by decide +kernel,by decide +kernel,by decide +kernel⟩
theorem okNb{f:Addr}{fd:FuncData}(F:Fun K "neighbour_counts" "neighbour_counts" Z2E f fd)(TM:TMo K CM)(TB:TBd K CB):FnOk P w K mg base CX0 1 f fd ["molecule"] (spNb CA CB CM):=by
 refine F.ok scNb (fun vs H Q E h=>?_) (fun cdv A outer s H vs Q E hr h=>?_)
 ·obtain⟨mr,al,bl,as,ds,M,rfl,_⟩:=h
  rfl
 ·obtain⟨mr,al,bl,as,ds,M,rfl,mo,wf,k⟩:=h
  refine⟨_,Z1Y (Z8G (i:=1) rfl scNb.nd rfl rfl (Z5d rfl rfl rfl rfl) (Z4v (Z2d (pv 0) rfl)) blkNb (fun s H C cl fp=>Z2x (i:=3) scNb.nd rfl (Or.inl rfl)) (fun s H C cl fp=>Z4x) (fun s H C cl fp=>Z2f))
   (Z1Y (Z3l PassesOwn.never rfl (Z4v (Z2d (pv 0) rfl)) (Z2x (i:=2) scNb.nd rfl (Or.inl rfl))
     (Z1Y (Z9u (pv 1) (Z2d (pv 2) rfl) Z8q Z2f ip_add Z8F) (Z2c (Z9u (pv 1) (Z2d (pv 2) rfl) Z8q Z2f ip_add Z8F))))
   (Z2c (Z2k (pv 1)))),?_⟩
  obtain⟨dm,hm⟩:=mo.top
  have la:as.length=M.atoms.length:=mo.ats.1
  have wn:=wf.n
  refine⟨_,rfl,mr,CM,dm,_,_,rfl,hm,TM.cl,TM.na,Z4g _ _,al,rfl,⟨_,SqL.of mo.atl⟩,fun cl hcl=>Z9q (K:=K) (a:=al) (xs:=as.map V.ref) (fun i H2=>L2.Same H H2∧H2 cl=some (.lst (cV i fun _=>0))) ⟨RD.Same.new hcl,Z1X⟩ (fun i H2 _ h=>SqL.of (h.1 _ _ mo.atl)) ?_ ?_⟩
  ·rintro i y H2 hi ⟨s2,h2⟩
   have li:i<(as.map V.ref).length:=(Z0p.mp hi).1
   rw [Z0c]at li
   refine⟨rfl,_,h2,by rw [Z4B,sizeLine_eq];omega,fun b o e=>?_,?_⟩
   ·rw [Z1W (fun z=>by rw [z,hcl]at e;cases e)];exact s2 _ _ e
   ·rw [Z1X]
    unfold cV
    rw [List.range_succ,Z0D];rfl
  ·rintro H2 ⟨s2,h2⟩
   rw [Z0c,la]at h2
   have mo2:=mo.same s2
   refine⟨_,rfl,mr,CM,dm,_,_,rfl,s2 _ _ hm,TM.cl,TM.nb,Z4k _ _,bl,rfl,⟨_,SqL.of mo2.bdl⟩,Z5s (K:=K) (a:=bl) (xs:=ds.map V.ref) (fun i σ H'=>∃ v2 v3:Option V,σ=[some (.ref mr),some (.ref cl),v2,v3]∧L2.Same H H'∧H' cl=some (.lst (cV M.atoms.length fun v=>dg M i v)))
    ⟨none,none,rfl,s2,h2⟩ (fun i σ H' _ ⟨_,_,_,s',_⟩=>SqL.of (s' _ _ mo.bdl)) ?_ ?_⟩
   ·rintro i y σ H3 hi ⟨v2,v3,rfl,s3,h3⟩
    have mo3:=mo.same s3
    obtain⟨t,x,rfl,ht,hx,hH⟩:=mo3.bds.at hi
    obtain⟨dt,gt⟩:=hH
    have wx:=wf.bd x (Z0z hx)
    have an:x.a<M.atoms.length:=Z0O wx.ab wx.bn
    refine⟨_,rfl,_,rfl,t,CB,dt,_,_,rfl,gt,TB.cl,TB.na,bf_a _ _ _ _,cl,_,x.a,_,rfl,rfl,SqL.of h3,Z5a _ an,_,_,rfl,rfl,cl,_,_,x.a,rfl,rfl,h3,Z9l (by rw [Z4B];exact an),?_⟩
    rw [cV_set]
    have ncl:H cl=none:=by
     cases q:H cl with
     |none=>rfl
     |some o=>rw [hcl]at q;cases q
    have gt4:upd H3 cl (.lst (cV M.atoms.length fun v=>if v=x.a then dg M i x.a+1 else dg M i v)) t=some (.ins CB dt (bf x.a x.b (x.order:Int) (x.side:Int))):=by rw [Z1W (ne_of gt h3 (by intro z;cases z))];exact gt
    refine⟨_,rfl,_,rfl,t,CB,dt,_,_,rfl,gt4,TB.cl,TB.nb,bf_b _ _ _ _,cl,_,x.b,_,rfl,rfl,SqL.of Z1X,Z5a _ wx.bn,_,_,rfl,rfl,cl,_,_,x.b,rfl,rfl,Z1X,Z9l (by rw [Z4B];exact wx.bn),?_⟩
    rw [cV_set,Z2F]
    refine⟨_,_,rfl,fun b o e=>?_,?_⟩
    ·rw [Z1W (fun z=>by rw [z,ncl]at e;cases e)];exact s3 _ _ e
    ·rw [Z1X]
     congr 2
     refine Z8I fun v hv=>?_
     rw [dg_succ hx (Z0o wx.ab)]
     by_cases q2:v=x.b
     ·subst q2;rw [if_pos rfl,if_pos rfl];split
      ·rename_i z;rw [z]
      ·rfl
     ·rw [if_neg q2,if_neg q2]
      by_cases q1:v=x.a
      ·subst q1;rfl
      ·rw [if_neg q1,if_neg q1]
   ·rintro σ H3 ⟨v2,v3,rfl,s3,h3⟩
    refine⟨_,rfl,k H3 cl s3 ?_⟩
    rw [h3,Z0c,mo.bds.1]
    congr 2
    refine Z8I fun v _=>?_
    unfold dg deg
    rw [Z1r]
def spHand(CA:Addr):Sp:=fun vs H Q _=>∃ (t:Addr)(x:Fk.Atom)(d:Nat),vs=[.ref t,.int (d:Int)]∧AtomAt CA H t x∧Q (.bl (decide (3≤d)&&(decide (x.hydrogens≤1)&&decide (d+x.hydrogens≤4)))) H
theorem scHand:Z2e ["atom","neighbours"] ["atom","neighbours"] (Z2b Z3H):=⟨rfl,rfl,rfl,by decide +kernel,rfl,by decide +kernel,by decide +kernel⟩
theorem okHand{f:Addr}{fd:FuncData}(F:Fun K "may_have_hand" "may_have_hand" Z3H f fd)(TA:TA_ K CA):FnOk P w K mg base CX0 1 f fd ["atom","neighbours"] (spHand CA):=by
 refine F.ok scHand (fun vs H Q E h=>?_) (fun cdv A outer s H vs Q E hr h=>?_)
 ·obtain⟨t,x,d,rfl,_⟩:=h
  rfl
 ·obtain⟨t,x,d,rfl,⟨dt,gt⟩,k⟩:=h
  refine⟨_,Z2c (Z2k (Z5N (Z4b op_ge (pv 1) Z2f (Z2n _)) (Z5N (Z4b op_le (Z2d (pv 0) rfl) Z2f (Z2n _)) (Z6E (Z4b op_le (pe_op Z2X (pv 1) (Z2d (pv 0) rfl)) Z2f (Z2n _)))))),?_⟩
  refine⟨_,rfl,_,_,rfl,rfl,_,rfl,ite2 (fun h1=>?_) (fun h1=>?_)⟩
  ·have g1:=of_decide_eq_true h1
   rw [show decide (3≤d)=true from decide_eq_true (by omega),Bool.true_and]at k
   refine⟨_,rfl,t,CA,dt,_,_,rfl,gt,TA.cl,TA.nh,Z4o _,_,_,rfl,rfl,_,rfl,ite2 (fun h2=>?_) (fun h2=>?_)⟩
   ·have g2:=of_decide_eq_true h2
    rw [show decide (x.hydrogens≤1)=true from decide_eq_true (by omega),Bool.true_and]at k
    refine⟨_,rfl,_,rfl,t,CA,dt,_,_,rfl,gt,TA.cl,TA.nh,Z4o _,_,_,rfl,rfl,_,_,rfl,rfl,?_⟩
    rw [show decide (d+x.hydrogens≤4)=decide ((d:Int)+(x.hydrogens:Int)≤4) by
     by_cases z:d+x.hydrogens≤4
     ·rw [decide_eq_true z,decide_eq_true (by omega)]
     ·rw [decide_eq_false z,decide_eq_false (by omega)]]at k
    exact k
   ·have g2:¬ ((x.hydrogens:Int)≤1):=fun z=>h2 (decide_eq_true z)
    rw [show decide (x.hydrogens≤1)=false from decide_eq_false (by omega)]at k
    exact k
  ·have g1:¬ ((3:Int)≤(d:Int)):=fun z=>h1 (decide_eq_true z)
   rw [show decide (3≤d)=false from decide_eq_false (by omega)]at k
   exact k
def Z9x(CF CA CB CM:Addr):Sp:=fun vs H Q E=>∃ (mr al bl cl:Addr)(as ds:List Addr)(M:Fk.Mol),vs=[.ref mr,.ref cl]∧MolAt CM CA CB H mr al bl as ds M∧Wf M∧H cl=some (.lst (cV M.atoms.length fun v=>(deg M v:Int))) ∧
 match (List.range M.n).find? fun v=>(M.atom v).hand != 0&&!M.handed v with
 |none=>∀ H',Same H H'→Q .non H'
 |some v=>FltS CF E H 4 ((6+6*v+5:Nat):Int)
theorem scHands:Z2e ["molecule","neighbours","k","atom"] ["molecule","neighbours"] (Z2b Z2Y):=⟨rfl,rfl,rfl,by decide +kernel,rfl,by decide +kernel,by decide +kernel⟩
theorem okHands{f fG:Addr}{fd fdG:FuncData}(F:Fun K "refuse_wrong_hands" "refuse_wrong_hands" Z2Y f fd)(T:TR K mg CF CR fF)(B:TM K mg)(TM':TMo K CM)(TA:TA_ K CA)
  (GG:FnOk P w K mg base CX0 1 fG fdG ["atom","neighbours"] (spHand CA))(mG:mg "may_have_hand" = some (.ref fG))(kG:PySem.W.keepIn K (.ref fG)=true)(bG:Binds K fdG ["atom","neighbours"] []) :
  FnOk P w K mg base (CXF P w) 3 f fd ["molecule","neighbours"] (Z9x CF CA CB CM):=by
 refine okX F scHands (fun vs H Q E h=>?_) (fun cdv A outer s H vs Q E hr h=>?_)
 ·obtain⟨mr,al,bl,cl,as,ds,M,rfl,_⟩:=h
  rfl
 ·obtain⟨mr,al,bl,cl,as,ds,M,rfl,mo,wf,hc,k⟩:=h
  have hdp:=(show A.depth+1+1<recursionLimit from by have:=hr.dp;simp only [Around.deeper]at this;omega)
  have hr1:Room 1 _:=hr.mono (by decide)
  refine⟨_,Z2c (Z3l Z4N rfl (Z7j rfl B.enum (Z1V (Z2d (pv 0) rfl) Z2a)) (Z8M rfl (Z3Y (Z2x (i:=2) scHands.nd rfl (Or.inl rfl)) (Z3Y (Z2x (i:=3) scHands.nd rfl (Or.inl rfl)) Z7t)))
   (Z2c (ps_if (PW.pt (Z5L (Z2p op_ne (Z2d (pv 3) rfl) Z2f (Z2n _)) (Z6h (Z8H (Z5g (Z2m GG hr1 rfl mG kG bG .nil pass0 (Z1V (pv 3) (Z1V (pe_ix Z2Z (pv 1) (pv 2) (fun _ _=>rfl)) Z2a))))))))
     (Z2c (Z3m T.xi rfl rfl hdp rfl T.mgF Z2D (Z1V (pe_gc rfl B.c4) (Z1V (pe_op Z4n (pe_op Z2X (pe_op Z2X (pe_gc rfl B.z1) (pe_op Z4G (pe_gc rfl B.z2) (pv 2))) (pe_gc rfl B.z2)) Z2f) Z2a)))) Z2w))),?_⟩
  obtain⟨dm,hm⟩:=mo.top
  have wn:=wf.n
  refine⟨_,rfl,mr,CM,dm,_,_,rfl,hm,TM'.cl,TM'.na,Z4g _ _,al,_,rfl,SqL.of mo.atl,Z6t (K:=K) (a:=al) (xs:=as.map V.ref) (fun i σ H'=>∃ v2 v3:Option V,σ=[some (.ref mr),some (.ref cl),v2,v3]∧L2.Same H H'∧∀ j,j<i→((M.atom j).hand != 0&&!M.handed j)=false)
   ⟨none,none,rfl,L2.Same.refl _,fun j hj=>absurd hj (Nat.not_lt_zero _)⟩ (fun i σ H' _ ⟨_,_,_,s',_⟩=>SqL.of (s' _ _ mo.atl)) ?_ ?_⟩
  ·rintro i y σ H1 U hi ⟨v2,v3,rfl,s1,hj⟩ hU
   have mo1:=mo.same s1
   obtain⟨t,x,rfl,ht,hx,hH⟩:=mo1.ats.at hi
   have s2:L2.Same H (upd H1 U (.tup [.int (i:Int),.ref t])):=s1.trans (RD.Same.new hU)
   obtain⟨dt,gt⟩:=hH
   have gt2:upd H1 U (.tup [.int (i:Int),.ref t]) t=some (.ins CA dt (atf x)):=RD.Same.new hU _ _ gt
   have li:i<M.atoms.length:=(Z0p.mp hx).1
   have ex:=Z9p hx
   have hp:((M.atom i).hand != 0&&!M.handed i)=(x.hand != 0&&!(decide (3≤deg M i)&&(decide (x.hydrogens≤1)&&decide (deg M i+x.hydrogens≤4)))):=by rw [Zaw wf,ex]
   have go:((M.atom i).hand != 0&&!M.handed i)=false→∀ j,j<i+1→((M.atom j).hand != 0&&!M.handed j)=false:=fun h j hj'=>by
    by_cases z:j=i
    ·rw [z];exact h
    ·exact hj j (by omega)
   refine⟨U,_,rfl,SqT.of Z1X,rfl,_,_,rfl,_,_,rfl,rfl,?_⟩
   refine⟨_,rfl,t,CA,dt,_,_,rfl,gt2,TA.cl,TA.nd,atf_hand _,rfl,_,rfl,ite2 (fun h1=>?_) (fun h1=>?_)⟩
   ·have hne:(x.hand != 0)=true:=by
     rw [bne_iff_ne]
     intro z
     rw [z]at h1
     simp at h1
    refine⟨_,rfl,_,rfl,_,rfl,cl,_,_,_,rfl,rfl,SqL.of (s2 _ _ hc),Z3a (Z5a _ li),t,x,deg M i,rfl,⟨dt,gt2⟩,_,rfl,ite2 (fun h2=>?_) (fun h2=>?_)⟩
    ·have hf:(List.range M.n).find? (fun v=>(M.atom v).hand != 0&&!M.handed v)=some i:=by
      rw [List.find?_range_eq_some]
      refine⟨by rw [hp,hne,h2];rfl,Z1j.mpr li,fun j hj'=>by rw [hj j hj'];rfl⟩
     rw [hf]at k
     refine⟨_,rfl,_,_,rfl,rfl,.inl (by constructor<;>omega),_,_,rfl,rfl,_,_,rfl,rfl,_,_,rfl,rfl,_,_,_,.inr ⟨rfl,rfl⟩,fun dx' hn=>?_⟩
     refine k _ dx' (s2.trans (RD.Same.new hn)) ?_
     rw [Z1X]
     show some (HO.xd (xf 4 (6+6*(i:Int)+6-1) 0))=_
     rw [show 6+6*(i:Int)+6-1=((6+6*i+5:Nat):Int) by omega]
    ·refine⟨_,_,rfl,s2,go ?_⟩
     rw [hp,hne]
     simpa using h2
   ·refine⟨_,_,rfl,s2,go ?_⟩
    have hne:(x.hand != 0)=false:=by
     rw [bne_eq_false_iff_eq]
     simp at h1
     omega
    rw [hp,hne];rfl
  ·rintro σ H1 ⟨v2,v3,rfl,s1,hj⟩
   rw [Z0c,mo.ats.1]at hj
   have hf:(List.range M.n).find? (fun v=>(M.atom v).hand != 0&&!M.handed v)=none:=by
    rw [List.find?_range_eq_none]
    intro j hj'
    rw [hj j hj'];rfl
   rw [hf]at k
   exact k H1 s1
end
theorem MolAt.bds'{CM CA CB:Addr}{H:Hp}{mr al bl:Addr}{as ds:List Addr}{M:Fk.Mol}(h:MolAt CM CA CB H mr al bl as ds M):Bds CB (GM M) H bl ds fun e=>((M.bonds.getD e Z2A).side:Int):=by
 refine⟨h.bdl,h.bds.1,fun e r hr=>?_⟩
 have le:e<M.bonds.length:=by rw [←h.bds.1];exact(Z0p.mp hr).1
 have hx:M.bonds[e]?=some M.bonds[e]:=Z0l le
 have hb:=h.bds.2 e r _ hr hx
 rw [GM_bd hx]
 unfold BndAt at hb
 dsimp only
 rw [Z0E,hx]
 exact hb
section
variable{P:Program}{w:World}{K:Z0a}{mg:Str→Option Value}{base:Heap}{CF CR fF CA CB CM CW CS:Addr}
def spEnd(CA:Addr):Sp:=fun vs H Q _=>∃ (t:Addr)(x:Fk.Atom)(o:Int),vs=[.ref t,.int o]∧AtomAt CA H t x∧Q (.bl (decide (1≤o)&&decide (o+(x.hydrogens:Int)≤2))) H
theorem scEnd:Z2e ["atom","others"] ["atom","others"] (Z2b Z3t):=⟨rfl,rfl,rfl,by decide +kernel,rfl,by decide +kernel,by decide +kernel⟩
theorem okEnd{f:Addr}{fd:FuncData}(F:Fun K "may_end_a_side" "may_end_a_side" Z3t f fd)(TA:TA_ K CA):FnOk P w K mg base CX0 1 f fd ["atom","others"] (spEnd CA):=by
 refine F.ok scEnd (fun vs H Q E h=>?_) (fun cdv A outer s H vs Q E hr h=>?_)
 ·obtain⟨t,x,d,rfl,_⟩:=h
  rfl
 ·obtain⟨t,x,d,rfl,⟨dt,gt⟩,k⟩:=h
  refine⟨_,Z2c (Z2k (Z5N (Z4b op_ge (pv 1) Z2f (Z2n _)) (Z6E (Z4b op_le (pe_op Z2X (pv 1) (Z2d (pv 0) rfl)) Z2f (Z2n _))))),?_⟩
  refine⟨_,rfl,_,_,rfl,rfl,_,rfl,ite2 (fun h1=>?_) (fun h1=>?_)⟩
  ·have g1:=of_decide_eq_true h1
   rw [show decide (1≤d)=true from decide_eq_true (by omega),Bool.true_and]at k
   exact⟨_,rfl,_,rfl,t,CA,dt,_,_,rfl,gt,TA.cl,TA.nh,Z4o _,_,_,rfl,rfl,_,_,rfl,rfl,k⟩
  ·have g1:¬ ((1:Int)≤d):=fun z=>h1 (decide_eq_true z)
   rw [show decide (1≤d)=false from decide_eq_false (by omega)]at k
   exact k
def spSide(CA CB CM CW:Addr):Sp:=fun vs H Q _=>∃ (mr al bl cl wl:Addr)(as ds:List Addr)(M:Fk.Mol)(k:Nat)(x:Fk.Bond)(ls:List Addr)(ws:Nat→List Addr)(E:Nat→List (Nat×Nat)),vs=[.ref mr,.int (k:Int),.ref cl,.ref wl]∧MolAt CM CA CB H mr al bl as ds M∧Wf M ∧
 H cl=some (.lst (cV M.atoms.length fun v=>(deg M v:Int)))∧Wys0 CW (GM M) H wl ls ws E∧M.bonds[k]?=some x∧∀ (b:Bool) H',Same H H'→(b=true↔M.sided k=true)→Q (.bl b) H'
theorem scSide:Z2e ["molecule","k","neighbours","ways","bond","end"] ["molecule","k","neighbours","ways"] (Z2b Z3D):=⟨rfl,rfl,rfl,by decide +kernel,rfl,by decide +kernel,by decide +kernel⟩
theorem okSide{f fG fH:Addr}{fd fdG fdH:FuncData}(F:Fun K "may_have_side" "may_have_side" Z3D f fd)(TM':TMo K CM)(TA:TA_ K CA)(TB:TBd K CB)
  (GG:FnOk P w K mg base CX0 1 fG fdG ["atom","others"] (spEnd CA))(mG:mg "may_end_a_side" = some (.ref fG))(kG:PySem.W.keepIn K (.ref fG)=true)(bG:Binds K fdG ["atom","others"] [])
  (GH:FnOk P w K mg base CX0 8 fH fdH ["ways","bonds","number"] (spFix CW CB))(mH:mg "is_fixed_double" = some (.ref fH))(kH:PySem.W.keepIn K (.ref fH)=true)(bH:Binds K fdH ["ways","bonds","number"] []) :
  FnOk P w K mg base CX0 9 f fd ["molecule","k","neighbours","ways"] (spSide CA CB CM CW):=by
 refine F.ok scSide (fun vs H Q E h=>?_) (fun cdv A outer s H vs Q E' hr h=>?_)
 ·obtain⟨mr,al,bl,cl,wl,as,ds,M,k,x,ls,ws,E,rfl,_⟩:=h
  rfl
 ·obtain⟨mr,al,bl,cl,wl,as,ds,M,k,x,ls,ws,E,rfl,mo,wf,hc,hW,hx,kk⟩:=h
  have hr1:Room 1 _:=hr.mono (by decide)
  refine⟨_,Z1Y (Z2h (i:=4) scSide.nd rfl (Or.inl rfl) (pe_ix Z2Z (Z2d (pv 0) rfl) (pv 1) (fun _ _=>rfl)))
   (Z1Y (ps_if (Z2p op_ne (Z2d (pv 4) rfl) Z2f (Z2n _)) (Z2c (Z2k pe_bl)) Z2w)
   (Z1Y (Z3l PassesOwn.never rfl (pi_tup (Z4i (Z1V (Z2d (pv 4) rfl) (Z1V (Z2d (pv 4) rfl) Z2a)))) (Z2x (i:=5) scSide.nd rfl (Or.inl rfl))
     (Z2c (ps_if (Z8H (Z5g (Z2m GG hr1 rfl mG kG bG .nil pass0 (Z1V (pe_ix Z2Z (Z2d (pv 0) rfl) (pv 5) (fun _ _=>rfl)) (Z1V (pe_op Z4n (pe_ix Z2Z (pv 2) (pv 5) (fun _ _=>rfl)) Z2f) Z2a))))) (Z2c (Z2k pe_bl)) Z2w)))
   (Z2c (Z2k (Z2m GH hr rfl mH kH bH .nil pass0 (Z1V (pv 3) (Z1V (Z2d (pv 0) rfl) (Z1V (pv 1) Z2a)))))))),?_⟩
  obtain⟨dm,hm⟩:=mo.top
  have km:k<M.bonds.length:=(Z0p.mp hx).1
  have lk:k<ds.length:=by rw [mo.bds.1];exact km
  have hd:ds[k]?=some ds[k]:=Z0l lk
  obtain⟨dt,gt⟩:=mo.bds.2 k _ x hd hx
  have wx:=wf.bd x (Z0z hx)
  have an:x.a<M.atoms.length:=Z0O wx.ab wx.bn
  have key:=Zaz wf hx
  refine⟨_,rfl,mr,CM,dm,_,_,rfl,hm,TM'.cl,TM'.nb,Z4k _ _,_,rfl,bl,_,_,.ref ds[k],rfl,rfl,SqL.of mo.bdl,Z3a (by rw [Z0n,hd];rfl),?_⟩
  refine⟨_,rfl,ds[k],CB,dt,_,_,rfl,gt,TB.cl,TB.no,Z6o _ _ _ _,rfl,_,rfl,ite2 (fun h1=>?_) (fun h1=>?_)⟩
  ·have ho:x.order≠2:=fun z=>by rw [z]at h1;simp at h1
   exact kk false H (L2.Same.refl _) ⟨fun z=>(by cases z),fun z=>absurd (key.mp z).1 ho⟩
  ·have ho:x.order=2:=by simp at h1;omega
   refine⟨_,rfl,ds[k],CB,dt,_,_,rfl,gt,TB.cl,TB.na,bf_a _ _ _ _,_,rfl,ds[k],CB,dt,_,_,rfl,gt,TB.cl,TB.nb,bf_b _ _ _ _,(by show 2≤sizeLine;decide),fun U hU=>?_⟩
   have sU:L2.Same H (upd H U (.tup [.int (x.a:Int),.int (x.b:Int)])):=RD.Same.new hU
   refine⟨U,rfl,⟨_,SqT.of Z1X⟩,Z9e (K:=K) (a:=U) (xs:=[.int (x.a:Int),.int (x.b:Int)]) (fun i σ H'=>∃ v5:Option V,σ=[some (.ref mr),some (.int (k:Int)),some (.ref cl),some (.ref wl),some (.ref ds[k]),v5]∧H'=upd H U (.tup [.int (x.a:Int),.int (x.b:Int)])∧(1≤i→endOk M x.a)∧(2≤i→endOk M x.b))
    ⟨none,rfl,rfl,fun z=>absurd z (by decide),fun z=>absurd z (by decide)⟩ (fun i σ H' _ ⟨_,_,e,_⟩=>by rw [e];exact SqT.of Z1X) ?_ ?_⟩
   ·rintro i y σ H' hi ⟨v5,rfl,rfl,p1,p2⟩
    obtain⟨v,rfl,hv,st⟩:∃ v:Nat,y=.int (v:Int)∧v<M.atoms.length∧(endOk M v→(1≤i+1→endOk M x.a)∧(2≤i+1→endOk M x.b))∧(M.sided k=true→endOk M v):=by
     match i,hi with
     |0,hi =>
      cases hi
      exact⟨x.a,rfl,an,fun z=>⟨fun _=>z,fun q=>absurd q (by decide)⟩,fun z=>(key.mp z).2.1⟩
     |1,hi =>
      cases hi
      exact⟨x.b,rfl,wx.bn,fun z=>⟨fun _=>p1 (by decide),fun _=>z⟩,fun z=>(key.mp z).2.2.1⟩
     |n+2,hi=>cases hi
    obtain⟨st,st2⟩:=st
    have mo2:=mo.same sU
    have la:v<as.length:=by rw [mo.ats.1];exact hv
    have ha:as[v]?=some as[v]:=Z0l la
    have hxa:M.atoms[v]?=some M.atoms[v]:=Z0l hv
    have hA:=mo2.ats.2 v _ _ ha hxa
    have ex:=Z9p hxa
    refine⟨_,rfl,mr,CM,dm,_,_,rfl,sU _ _ hm,TM'.cl,TM'.na,Z4g _ _,_,rfl,al,_,_,.ref as[v],rfl,rfl,SqL.of mo2.atl,Z3a (by rw [Z0n,ha];rfl),_,rfl,_,rfl,cl,_,_,_,rfl,rfl,SqL.of (sU _ _ hc),Z3a (Z5a _ hv),_,_,rfl,rfl,
     as[v],_,_,rfl,hA,_,rfl,ite2 (fun h2=>?_) (fun h2=>?_)⟩
    ·have no:¬ endOk M v:=fun z=>by
      unfold endOk at z
      rw [ex]at z
      rw [decide_eq_true z.1,decide_eq_true z.2]at h2
      cases h2
     exact kk false _ sU ⟨fun z=>(by cases z),fun z=>absurd (st2 z) no⟩
    ·have yes:endOk M v:=by
      unfold endOk
      rw [ex]
      have h3:(decide (1≤(deg M v:Int)-1)&&decide ((deg M v:Int)-1+(M.atoms[v].hydrogens:Int)≤2))=true:=by simpa using h2
      rw [Z0y]at h3
      exact⟨of_decide_eq_true h3.1,of_decide_eq_true h3.2⟩
     exact⟨_,rfl,rfl,(st yes).1,(st yes).2⟩
   ·rintro σ H' ⟨v5,rfl,rfl,p1,p2⟩
    have e1:=p1 (by show 1≤2;decide)
    have e2:=p2 (by show 2≤2;decide)
    have mo2:=mo.same sU
    refine⟨_,rfl,_,rfl,mr,CM,dm,_,_,rfl,sU _ _ hm,TM'.cl,TM'.nb,Z4k _ _,_,rfl,wl,bl,k,GM M,ls,ws,E,ds,_,rfl,hW.same sU,mo2.bds',GM_ok wf,wf.n,km,?_,fun b H2 s2 hb=>?_⟩
    ·rw [GM_bd hx,ho];rfl
    ·refine kk b H2 (sU.trans s2) ?_
     rw [hb,key]
     exact⟨fun z=>⟨ho,e1,e2,z⟩,fun z=>z.2.2.2⟩
def Z9j(CF CA CB CM:Addr):Sp:=fun vs H Q E=>∃ (mr al bl cl:Addr)(as ds:List Addr)(M:Fk.Mol),vs=[.ref mr,.ref cl]∧MolAt CM CA CB H mr al bl as ds M∧Wf M∧H cl=some (.lst (cV M.atoms.length fun v=>(deg M v:Int))) ∧
 match (List.range M.bonds.length).find? fun j=>(M.bonds[j]?.map Fk.Bond.side).getD 0 != 0&&!M.sided j with
 |none=>∀ H',Same H H'→Q .non H'
 |some j=>FltS CF E H 6 ((6+6*M.n+4*j+3:Nat):Int)
theorem scSides:Z2e ["molecule","neighbours","first_bond","ways","k","bond"] ["molecule","neighbours"] (Z2b Z3e):=⟨rfl,rfl,rfl,by decide +kernel,rfl,by decide +kernel,by decide +kernel⟩
theorem okSides{f fG fH:Addr}{fd fdG fdH:FuncData}(F:Fun K "refuse_wrong_sides" "refuse_wrong_sides" Z3e f fd)(T:TR K mg CF CR fF)(B:TM K mg)(TM':TMo K CM)(TB:TBd K CB)
  (GG:FnOk P w K mg base CX0 9 fG fdG ["molecule","k","neighbours","ways"] (spSide CA CB CM CW))(mG:mg "may_have_side" = some (.ref fG))(kG:PySem.W.keepIn K (.ref fG)=true)(bG:Binds K fdG ["molecule","k","neighbours","ways"] [])
  (GH:FnOk P w K mg base CX0 3 fH fdH ["count","bonds"] (spWays CW CB))(mH:mg "ways_at" = some (.ref fH))(kH:PySem.W.keepIn K (.ref fH)=true)(bH:Binds K fdH ["count","bonds"] []) :
  FnOk P w K mg base (CXF P w) 10 f fd ["molecule","neighbours"] (Z9j CF CA CB CM):=by
 refine okX F scSides (fun vs H Q E h=>?_) (fun cdv A outer s H vs Q E' hr h=>?_)
 ·obtain⟨mr,al,bl,cl,as,ds,M,rfl,_⟩:=h
  rfl
 ·obtain⟨mr,al,bl,cl,as,ds,M,rfl,mo,wf,hc,k⟩:=h
  have hdp:=(show A.depth+1+1<recursionLimit from by have:=hr.dp;simp only [Around.deeper]at this;omega)
  have hr3:Room 3 _:=hr.mono (by decide)
  refine⟨_,Z1Y (Z2h (i:=2) scSides.nd rfl (Or.inl rfl) (pe_op Z2X (pe_gc rfl B.z1) (pe_op Z4G (pe_gc rfl B.z2) (Z2M Z2v (by rfl) T.len PySem.boot_len (Z1V (Z2d (pv 0) rfl) Z2a)))))
   (Z1Y (Z2h (i:=3) scSides.nd rfl (Or.inl rfl) (Z2m GH hr3 rfl mH kH bH .nil pass0 (Z1V (Z2M Z2v (by rfl) T.len PySem.boot_len (Z1V (Z2d (pv 0) rfl) Z2a)) (Z1V (Z2d (pv 0) rfl) Z2a))))
   (Z2c (Z3l Z4N rfl (Z7j rfl B.enum (Z1V (Z2d (pv 0) rfl) Z2a)) (Z8M rfl (Z3Y (Z2x (i:=4) scSides.nd rfl (Or.inl rfl)) (Z3Y (Z2x (i:=5) scSides.nd rfl (Or.inl rfl)) Z7t)))
     (Z2c (ps_if (PW.pt (Z5L (Z2p op_ne (Z2d (pv 5) rfl) Z2f (Z2n _)) (Z6h (Z8H (Z5g (Z2m GG hr rfl mG kG bG .nil pass0 (Z1V (pv 0) (Z1V (pv 4) (Z1V (pv 1) (Z1V (pv 3) Z2a))))))))))
       (Z2c (Z3m T.xi rfl rfl hdp rfl T.mgF Z2D (Z1V (pe_gc rfl B.c6) (Z1V (pe_op Z4n (pe_op Z2X (pe_op Z2X (pv 2) (pe_op Z4G (pe_gc rfl B.z3) (pv 4))) (pe_gc rfl B.z3)) Z2f) Z2a)))) Z2w))))),?_⟩
  obtain⟨dm,hm⟩:=mo.top
  have wn:=wf.n
  have wm:=wf.m
  have la:(as.map V.ref).length=M.atoms.length:=by rw [Z0c,mo.ats.1]
  refine⟨_,rfl,mr,CM,dm,_,_,rfl,hm,TM'.cl,TM'.na,Z4g _ _,al,_,rfl,.inl (SqL.of mo.atl),_,_,rfl,rfl,.inl (by constructor<;>omega),_,_,rfl,rfl,?_⟩
  refine⟨_,rfl,mr,CM,dm,_,_,rfl,hm,TM'.cl,TM'.na,Z4g _ _,al,_,rfl,.inl (SqL.of mo.atl),_,rfl,mr,CM,dm,_,_,rfl,hm,TM'.cl,TM'.nb,Z4k _ _,bl,GM M,ds,_,by rw [la];rfl,mo.bds',GM_ok wf,wf.n,wf.m,fun H1 wl ls ws E s1 hW=>?_⟩
  have mo1:=mo.same s1
  refine⟨_,rfl,mr,CM,dm,_,_,rfl,s1 _ _ hm,TM'.cl,TM'.nb,Z4k _ _,bl,_,rfl,SqL.of mo1.bdl,Z6t (K:=K) (a:=bl) (xs:=ds.map V.ref) (fun i σ H'=>∃ v4 v5:Option V,σ=[some (.ref mr),some (.ref cl),some (.int (6+6*(M.atoms.length:Int))),some (.ref wl),v4,v5]∧L2.Same H1 H' ∧
    ∀ j,j<i→((M.bonds[j]?.map Fk.Bond.side).getD 0 != 0&&!M.sided j)=false)
   ⟨none,none,by rw [la];rfl,L2.Same.refl _,fun j hj=>absurd hj (Nat.not_lt_zero _)⟩ (fun i σ H' _ ⟨_,_,_,s',_⟩=>SqL.of (s' _ _ mo1.bdl)) ?_ ?_⟩
  ·rintro i y σ H2 U hi ⟨v4,v5,rfl,s2,hj⟩ hU
   have mo2:=mo1.same s2
   obtain⟨t,x,rfl,ht,hx,hH⟩:=mo2.bds.at hi
   have s3:L2.Same H1 (upd H2 U (.tup [.int (i:Int),.ref t])):=s2.trans (RD.Same.new hU)
   obtain⟨dt,gt⟩:=hH
   have gt2:upd H2 U (.tup [.int (i:Int),.ref t]) t=some (.ins CB dt (bf x.a x.b (x.order:Int) (x.side:Int))):=RD.Same.new hU _ _ gt
   have li:i<M.bonds.length:=(Z0p.mp hx).1
   have hp:((M.bonds[i]?.map Fk.Bond.side).getD 0 != 0&&!M.sided i)=(x.side != 0&&!M.sided i):=by rw [hx];rfl
   have go:((M.bonds[i]?.map Fk.Bond.side).getD 0 != 0&&!M.sided i)=false→∀ j,j<i+1→((M.bonds[j]?.map Fk.Bond.side).getD 0 != 0&&!M.sided j)=false:=fun h j hj'=>by
    by_cases z:j=i
    ·rw [z];exact h
    ·exact hj j (by omega)
   refine⟨U,_,rfl,SqT.of Z1X,rfl,_,_,rfl,_,_,rfl,rfl,?_⟩
   refine⟨_,rfl,t,CB,dt,_,_,rfl,gt2,TB.cl,TB.ns,bf_side _ _ _ _,rfl,_,rfl,ite2 (fun h1=>?_) (fun h1=>?_)⟩
   ·have hne:(x.side != 0)=true:=by
     rw [bne_iff_ne]
     intro z
     rw [z]at h1
     simp at h1
    refine⟨_,rfl,_,rfl,_,rfl,_,rfl,mr,al,bl,cl,wl,as,ds,M,i,x,ls,ws,E,rfl,mo1.same s3,wf,s3 _ _ (s1 _ _ hc),hW.same s3,hx,fun b H4 s4 hb=>⟨_,rfl,ite2 (fun h2=>?_) (fun h2=>?_)⟩⟩
    ·have hns:M.sided i=false:=by
      cases q:M.sided i with
      |false=>rfl
      |true=>rw [hb.mpr q]at h2;cases h2
     have hf:(List.range M.bonds.length).find? (fun j=>(M.bonds[j]?.map Fk.Bond.side).getD 0 != 0&&!M.sided j)=some i:=by
      rw [List.find?_range_eq_some]
      refine⟨by rw [hp,hne,hns];rfl,Z1j.mpr li,fun j hj'=>by rw [hj j hj'];rfl⟩
     rw [hf]at k
     refine⟨_,rfl,_,rfl,_,_,rfl,rfl,.inl (by constructor<;>omega),_,_,rfl,rfl,_,_,rfl,rfl,_,_,rfl,rfl,_,_,_,.inr ⟨rfl,rfl⟩,fun dx' hn=>?_⟩
     refine k _ dx' (s1.trans (s3.trans (s4.trans (RD.Same.new hn)))) ?_
     rw [Z1X]
     show some (HO.xd (xf 6 (6+6*(M.atoms.length:Int)+4*(i:Int)+4-1) 0))=_
     rw [show 6+6*(M.atoms.length:Int)+4*(i:Int)+4-1=((6+6*M.n+4*i+3:Nat):Int) by unfold Fk.Mol.n;omega]
    ·refine⟨_,_,rfl,s3.trans s4,go ?_⟩
     have hs:M.sided i=true:=hb.mp (by simpa using h2)
     rw [hp,hs];simp
   ·refine⟨_,_,rfl,s3,go ?_⟩
    have hne:(x.side != 0)=false:=by
     rw [bne_eq_false_iff_eq]
     simp at h1
     omega
    rw [hp,hne];rfl
  ·rintro σ H2 ⟨v4,v5,rfl,s2,hj⟩
   rw [Z0c,mo.bds.1]at hj
   have hf:(List.range M.bonds.length).find? (fun j=>(M.bonds[j]?.map Fk.Bond.side).getD 0 != 0&&!M.sided j)=none:=by
    rw [List.find?_range_eq_none]
    intro j hj'
    rw [hj j hj'];rfl
   rw [hf]at k
   exact k H2 (s1.trans s2)
def spMol(K:Z0a)(CF CA CB CM:Addr):Sp:=fun vs H Q E=>∃ (a:Addr)(bs:List Int),vs=[.ref a]∧SqL K H a (bs.map V.int)∧(∀ x∈bs,0≤x∧x≤255) ∧
 match molM bs with
 |.ok M=>∀ (H':Hp)(mr al bl:Addr)(as ds:List Addr),Same H H'→H al=none→H bl=none→MolAt CM CA CB H' mr al bl as ds M→Wf M→Q (.ref mr) H'
 |.error e=>FltS CF E H e.1 e.2
theorem FltS.same{CF:Addr}{E:XK}{H H1:Hp}{rule place:Int}(f:FltS CF E H rule place)(s:Same H H1):FltS CF E H1 rule place:=fun H' dx s' h=>f H' dx (s.trans s') h
theorem scMol:Z2e ["form","molecule","neighbours"] ["form"] (Z2b Z3A):=⟨rfl,rfl,rfl,by decide +kernel,rfl,by decide +kernel,by decide +kernel⟩
theorem okMol{f f1 f2 f3 f4:Addr}{fd fd1 fd2 fd3 fd4:FuncData}(F:Fun K "read_molecule" "read_molecule" Z3A f fd)
  (G1:FnOk P w K mg base (CXF P w) 5 f1 fd1 ["form"] (Z9G K CF CA CB CM))(m1:mg "read_parts" = some (.ref f1))(k1:PySem.W.keepIn K (.ref f1)=true)(b1:Binds K fd1 ["form"] [])
  (G2:FnOk P w K mg base CX0 1 f2 fd2 ["molecule"] (spNb CA CB CM))(m2:mg "neighbour_counts" = some (.ref f2))(k2:PySem.W.keepIn K (.ref f2)=true)(b2:Binds K fd2 ["molecule"] [])
  (G3:FnOk P w K mg base (CXF P w) 3 f3 fd3 ["molecule","neighbours"] (Z9x CF CA CB CM))(m3:mg "refuse_wrong_hands" = some (.ref f3))(k3:PySem.W.keepIn K (.ref f3)=true)(b3:Binds K fd3 ["molecule","neighbours"] [])
  (G4:FnOk P w K mg base (CXF P w) 10 f4 fd4 ["molecule","neighbours"] (Z9j CF CA CB CM))(m4:mg "refuse_wrong_sides" = some (.ref f4))(k4:PySem.W.keepIn K (.ref f4)=true)(b4:Binds K fd4 ["molecule","neighbours"] []) :
  FnOk P w K mg base (CXF P w) 11 f fd ["form"] (spMol K CF CA CB CM):=by
 refine okX F scMol (fun vs H Q E h=>?_) (fun cdv A outer s H vs Q E' hr h=>?_)
 ·obtain⟨a,bs,rfl,_⟩:=h
  rfl
 ·obtain⟨a,bs,rfl,hS,hb,k⟩:=h
  have hr5:Room 5 _:=hr.mono (by decide)
  have hr1:Room 1 _:=hr.mono (by decide)
  have hr3:Room 3 _:=hr.mono (by decide)
  refine⟨_,Z1Y (Z2h (i:=1) scMol.nd rfl (Or.inl rfl) (Z2m G1 hr5 rfl m1 k1 b1 .nil Z2i (Z1V (pv 0) Z2a)))
   (Z1Y (Z2h (i:=2) scMol.nd rfl (Or.inl rfl) (Z2m G2 hr1 rfl m2 k2 b2 .nil pass0 (Z1V (pv 1) Z2a)))
   (Z1Y (Z2r (Z2m G3 hr3 rfl m3 k3 b3 .nil Z2i (Z1V (pv 1) (Z1V (pv 2) Z2a))))
   (Z1Y (Z2r (Z2m G4 hr rfl m4 k4 b4 .nil Z2i (Z1V (pv 1) (Z1V (pv 2) Z2a))))
   (Z2c (Z2k (pv 1)))))),?_⟩
  unfold molM at k
  refine⟨_,rfl,a,bs,rfl,hS,hb,?_⟩
  cases e1:Z3M bs with
  |error e=>rw [e1]at k;exact k
  |ok M =>
   rw [e1]at k
   dsimp only at k
   have wf:=Z9Z e1
   intro H1 mr al bl as ds s1 na1 nb1 mo
   refine⟨_,rfl,mr,al,bl,as,ds,M,rfl,mo,wf,fun H2 cl s2 hc=>?_⟩
   refine⟨_,rfl,_,rfl,mr,al,bl,cl,as,ds,M,rfl,mo.same s2,wf,hc,?_⟩
   cases e2:(List.range M.n).find? (fun v=>(M.atom v).hand != 0&&!M.handed v)with
   |some v =>
    rw [e2]at k
    exact FltS.same k (s1.trans s2)
   |none =>
    rw [e2]at k
    dsimp only at k
    intro H3 s3
    refine⟨_,rfl,_,rfl,mr,al,bl,cl,as,ds,M,rfl,mo.same (s2.trans s3),wf,s3 _ _ hc,?_⟩
    cases e3:(List.range M.bonds.length).find? (fun j=>(M.bonds[j]?.map Fk.Bond.side).getD 0 != 0&&!M.sided j)with
    |some j =>
     rw [e3]at k
     exact FltS.same k ((s1.trans s2).trans s3)
    |none =>
     rw [e3]at k
     intro H4 s4
     exact⟨_,rfl,k H4 mr al bl as ds (((s1.trans s2).trans s3).trans s4) na1 nb1 (mo.same ((s2.trans s3).trans s4)) wf⟩
end
end BK
end
section
namespace SP
open RD BK
def toB(z:Int):UInt8:=UInt8.ofNat z.toNat
def Byt(bs:List Int):Prop:=∀ x∈bs,0≤x∧x≤255
def bts(bs:List Int):List UInt8:=bs.map toB
theorem Z7l{z:Int}(h:0≤z∧z≤255):((toB z).toNat:Int)=z:=by
 unfold toB
 rw [UInt8.toNat_ofNat']
 omega
theorem toB_inj{x y:Int}(hx:0≤x∧x≤255)(hy:0≤y∧y≤255)(h:toB x=toB y):x=y:=by
 rw [←Z7l hx,←Z7l hy,h]
theorem Byt.drop{bs:List Int}(h:Byt bs)(n:Nat):Byt (bs.drop n):=fun x hx=>h x (List.mem_of_mem_drop hx)
theorem Byt.take{bs:List Int}(h:Byt bs)(n:Nat):Byt (bs.take n):=fun x hx=>h x (List.mem_of_mem_take hx)
theorem Z3q(bs:List Int):(bts bs).length=bs.length:=Z0c ..
theorem Z6x(bs:List Int)(n:Nat):(bts bs).drop n=bts (bs.drop n):=(List.map_drop ..).symm
theorem Z8w(bs:List Int)(n:Nat):(bts bs).take n=bts (bs.take n):=(List.map_take ..).symm
theorem num_eq:∀ {l:List Int},Byt l→((Fk.num (bts l):Nat):Int)=numL l
 |[],_=>rfl
 |a::l,h=>by
  have ih:=num_eq (l:=l) fun x hx=>h x (Z0f _ hx)
  have ha:=Z7l (h a (Z0g ..))
  show(((toB a).toNat+256*Fk.num (bts l):Nat):Int)=a+256*numL l
  rw [←ih]
  omega
def tf(e:Int×Int):Fk.Fault:=⟨e.1.toNat,e.2.toNat⟩
theorem Z2B{bs:List Int}{p k:Nat}{lo hi:Int}{good:Nat→Bool}(hb:Byt bs)(hp:p≤bs.length)(hg:∀ v:Nat,good v=true↔lo≤(v:Int)∧(v:Int)≤hi) :
  Fk.numIn k good ((bts bs).drop p) p=match numM bs p k lo hi with
   |.error e=>.error (tf e)
   |.ok v=>.ok (v.toNat,(bts bs).drop (p+k),p+k):=by
 unfold Fk.numIn numM
 rw [Z1o,Z3q]
 by_cases h1:bs.length<p+k
 ·rw [if_pos h1,if_pos (by omega)]
  show _=Except.error (tf _)
  unfold tf
  simp only [Except.error.injEq,Fk.Fault.mk.injEq]
  omega
 ·rw [if_neg h1,if_neg (by omega)]
  have e:((Fk.num (((bts bs).drop p).take k):Nat):Int)=numL ((bs.drop p).take k):=by
   rw [Z6x,Z8w]
   exact num_eq ((hb.drop p).take k)
  by_cases h2:numL ((bs.drop p).take k)<lo∨hi<numL ((bs.drop p).take k)
  ·rw [if_pos h2,if_neg (by rw [hg,e];omega)]
   show _=Except.error (tf _)
   unfold tf
   simp only [Except.error.injEq,Fk.Fault.mk.injEq]
   omega
  ·rw [if_neg h2,if_pos (by rw [hg,e];omega)]
   have e3:Fk.num (((bts bs).drop p).take k)=(numL ((bs.drop p).take k)).toNat:=by omega
   rw [e3,List.drop_drop]
theorem Z7x{bs ms:List Int}(hb:Byt bs)(hm:Byt ms):∀ (i:Nat),i≤ms.length→i≤bs.length→(∀ j<i,bs[j]?=ms[j]?) →
  (match (List.range' i (ms.length-i)).find? fun j=>(bts bs)[j]? != (bts ms)[j]? with
    |some j=>(.error ⟨if j<(bts bs).length then 1 else 5,min j (bts bs).length⟩:Except Fk.Fault (Fk.Bytes×Nat))
    |none=>.ok ((bts bs).drop ms.length,ms.length))=match markM bs i (ms.drop i)with
    |.error e=>.error (tf e)
    |.ok q=>.ok ((bts bs).drop q,q):=by
 intro i hi hib hj
 by_cases hlt:i<ms.length
 ·have e1:ms.length-i=(ms.length-(i+1))+1:=by omega
  rw [e1,List.range'_succ,Z0X,Z1R hlt]
  unfold markM
  have em:(bts ms)[i]?=some (toB ms[i]):=by unfold bts;rw [Z0n,Z0l hlt];rfl
  by_cases hend:i=bs.length
  ·rw [if_pos hend]
   have eb:(bts bs)[i]?=none:=by rw [Z1i,Z3q];omega
   rw [eb,em]
   simp only [bne_iff_ne,ne_eq,reduceCtorEq,not_false_eq_true]
   rw [show(none != some (toB ms[i]))=true from rfl]
   simp only [Z3q]
   rw [if_neg (by omega)]
   unfold tf
   simp only [Except.error.injEq,Fk.Fault.mk.injEq]
   omega
  ·rw [if_neg hend]
   have hl2:i<bs.length:=by omega
   have eb:(bts bs)[i]?=some (toB bs[i]):=by unfold bts;rw [Z0n,Z0l hl2];rfl
   have q1:=hb _ (Z0Y hl2)
   have q2:=hm _ (Z0Y hlt)
   rw [eb,em,Z0l hl2]
   by_cases hne:bs[i]=ms[i]
   ·rw [hne,if_neg (by simp)]
    rw [show(some (toB ms[i]) != some (toB ms[i]))=false by simp]
    refine Z7x hb hm (i+1) (by omega) (by omega) fun j hj'=>?_
    by_cases hji:j=i
    ·subst hji;rw [Z0l hl2,Z0l hlt,hne]
    ·exact hj j (by omega)
   ·rw [if_pos (by simpa using hne)]
    have hne2:(some (toB bs[i]) != some (toB ms[i]))=true:=by
     rw [bne_iff_ne]
     intro h
     exact hne (toB_inj q1 q2 (Option.some.inj h))
    rw [hne2]
    simp only [Z3q]
    rw [if_pos hl2]
    unfold tf
    simp only [Except.error.injEq,Fk.Fault.mk.injEq]
    omega
 ·have e1:ms.length-i=0:=by omega
  have e2:i=ms.length:=by omega
  subst e2
  rw [e1,List.drop_length]
  rfl
 termination_by i=>ms.length-i
theorem Z9f{bs ms:List Int}(hb:Byt bs)(hm:Byt ms):Fk.mark (bts ms) (bts bs)=match markM bs 0 ms with
   |.error e=>.error (tf e)
   |.ok q=>.ok ((bts bs).drop q,q):=by
 have h:=Z7x hb hm 0 (Z0q _) (Z0q _) (fun j hj=>absurd hj (Nat.not_lt_zero _))
 rw [List.drop_zero,Z1f]at h
 rw [←h]
 unfold Fk.mark
 rw [Z3q,List.range_eq_range']
 rfl
end SP
end
section
namespace SP
open RD BK EX
theorem Z8C{bs:List Int}(hb:Byt bs):∀ (k p:Nat),p≤bs.length →
  Fk.atomsIn k ((bts bs).drop p) p=match Z2J bs k p with
   |.error e=>.error (tf e)
   |.ok l=>.ok (l,(bts bs).drop (p+6*k),p+6*k)
 |0,p,hp=>rfl
 |k+1,p,hp=>by
  rw [Z4Y]
  unfold atomM Fk.atomsIn
  rw [Z2B (lo:=1) (hi:=118) hb hp (fun v=>by rw [Z0y,decide_eq_true_iff,decide_eq_true_iff,show Fk.ELEMENTS=118 from rfl];omega)]
  cases e1:numM bs p 1 1 118 with
  |error e=>rfl
  |ok x =>
   obtain⟨q1,q2,q3,_⟩:=Z2g e1
   simp only [Fk.andThen]
   rw [Z2B (lo:=0) (hi:=500) hb q1 (fun v=>by rw [decide_eq_true_iff,show Fk.ISOTOPE=500 from rfl];omega)]
   cases e2:numM bs (p+1) 2 0 500 with
   |error e=>rfl
   |ok y =>
    obtain⟨r1,r2,r3,_⟩:=Z2g e2
    simp only []
    rw [Z2B (lo:=0) (hi:=8) hb r1 (fun v=>by rw [decide_eq_true_iff];omega),show p+1+2=p+3 from rfl]
    cases e3:numM bs (p+3) 1 0 8 with
    |error e=>rfl
    |ok c =>
     obtain⟨s1,s2,s3,_⟩:=Z2g e3
     simp only []
     rw [Z2B (lo:=0) (hi:=7) hb s1 (fun v=>by rw [decide_eq_true_iff];omega),show p+3+1=p+4 from rfl]
     cases e4:numM bs (p+4) 1 0 7 with
     |error e=>rfl
     |ok h =>
      obtain⟨t1,t2,t3,_⟩:=Z2g e4
      simp only []
      rw [Z2B (lo:=0) (hi:=2) hb t1 (fun v=>by rw [decide_eq_true_iff];omega),show p+4+1=p+5 from rfl]
      cases e5:numM bs (p+5) 1 0 2 with
      |error e=>rfl
      |ok s =>
       obtain⟨u1,u2,u3,_⟩:=Z2g e5
       simp only []
       rw [show p+5+1=p+6 from rfl,Z8C hb k (p+6) (by omega)]
       cases Z2J bs k (p+6)with
       |error e=>rfl
       |ok l =>
        simp only []
        rw [show p+6+6*k=p+6*(k+1) by omega,Z0F (by omega:0≤c)]
def Had(had:Option (Nat×Nat))(b:Int×Int):Prop:=(had=none∧b=(0,0))∨(had=some (b.1.toNat,b.2.toNat)∧0≤b.1∧0≤b.2)
theorem had_eq{had:Option (Nat×Nat)}{b:Int×Int}{x y:Int}:Had had b→0≤x→x+1≤y →
  (match had with |some (u,w)=>decide (u<x.toNat) ||(u==x.toNat&&decide (w<y.toNat)) |none=>true) = !lexLe [x,y] [b.1,b.2]:=by
 intro h hx hy
 rcases h with⟨rfl,rfl⟩ |⟨rfl,h1,h2⟩
 ·have:¬ lexLe [x,y] [0,0]=true:=by rw [BK.ZaD];omega
  simp only [Bool.not_eq_true]at this
  rw [this];rfl
 ·have e:(decide (b.1.toNat<x.toNat) ||(b.1.toNat==x.toNat&&decide (b.2.toNat<y.toNat)))=true↔b.1<x∨(b.1=x∧b.2<y):=by
   rw [Bool.or_eq_true,Z0y,decide_eq_true_iff,decide_eq_true_iff,beq_iff_eq];omega
  show(decide (b.1.toNat<x.toNat) ||(b.1.toNat==x.toNat&&decide (b.2.toNat<y.toNat)))=_
  cases h3:lexLe [x,y] [b.1,b.2]with
  |true =>
   rw [BK.ZaD]at h3
   have:¬ (decide (b.1.toNat<x.toNat) ||(b.1.toNat==x.toNat&&decide (b.2.toNat<y.toNat)))=true:=by rw [e];omega
   simpa using this
  |false =>
   have h4:¬ lexLe [x,y] [b.1,b.2]=true:=by rw [h3];decide
   rw [BK.ZaD]at h4
   show _=true
   rw [e];omega
theorem Z8R{bs:List Int}(hb:Byt bs)(n:Nat):∀ (k p:Nat)(had:Option (Nat×Nat))(b:Int×Int),p≤bs.length→Had had b →
  Fk.bondsIn n k had ((bts bs).drop p) p=match Z2H bs (n:Int) k p b with
   |.error e=>.error (tf e)
   |.ok l=>.ok (l,(bts bs).drop (p+4*k),p+4*k)
 |0,p,had,b,hp,hh=>rfl
 |k+1,p,had,b,hp,hh=>by
  rw [Z4V]
  unfold bondM Fk.bondsIn
  rw [Z2B (lo:=0) (hi:=(n:Int)-1) hb hp (fun v=>by rw [decide_eq_true_iff];omega)]
  cases e1:numM bs p 1 0 ((n:Int)-1)with
  |error e=>rfl
  |ok x =>
   obtain⟨q1,q2,q3,_⟩:=Z2g e1
   simp only [Fk.andThen]
   rw [Z2B (lo:=x+1) (hi:=(n:Int)-1) hb q1 (fun v=>by rw [Z0y,decide_eq_true_iff,decide_eq_true_iff];omega)]
   cases e2:numM bs (p+1) 1 (x+1) ((n:Int)-1)with
   |error e=>rfl
   |ok y =>
    obtain⟨r1,r2,r3,_⟩:=Z2g e2
    simp only []
    generalize hc:Fk.need _ 3 p=g
    have hg:g=Fk.need (!lexLe [x,y] [b.1,b.2]) 3 p:=by rw [←hc];exact congrArg (fun c=>Fk.need c 3 p) (had_eq hh q2 r2)
    rw [hg]
    unfold Fk.need
    cases e3:lexLe [x,y] [b.1,b.2]with
    |true =>
     rw [if_neg (by decide)]
     unfold tf
     simp
    |false =>
     rw [if_pos (by decide)]
     simp only []
     rw [Z2B (lo:=1) (hi:=3) hb r1 (fun v=>by rw [Z0y,decide_eq_true_iff,decide_eq_true_iff];omega),show p+1+1=p+2 from rfl]
     cases e4:numM bs (p+2) 1 1 3 with
     |error e=>rfl
     |ok o =>
      obtain⟨s1,s2,s3,_⟩:=Z2g e4
      simp only []
      rw [Z2B (lo:=0) (hi:=2) hb s1 (fun v=>by rw [decide_eq_true_iff];omega),show p+2+1=p+3 from rfl]
      cases e5:numM bs (p+3) 1 0 2 with
      |error e=>rfl
      |ok z =>
       obtain⟨t1,t2,t3,_⟩:=Z2g e5
       simp only []
       rw [show p+3+1=p+4 from rfl]
       rw [Z8R hb n k (p+4) (some (x.toNat,y.toNat)) ((x.toNat:Int),(y.toNat:Int)) (by omega) (.inr ⟨by simp;omega,by show 0≤((x.toNat:Nat):Int);omega,by show 0≤((y.toNat:Nat):Int);omega⟩)]
       simp only [if_neg (show ¬ (false=true) by decide)]
       cases Z2H bs (n:Int) k (p+4) ((x.toNat:Int),(y.toNat:Int))with
       |error e=>rfl
       |ok l =>
        simp only []
        rw [show p+4+4*k=p+4*(k+1) by omega]
theorem Z9c{bs:List Int}(hb:Byt bs):Fk.judgeMol (bts bs)=match molM bs with
   |.error e=>.error (tf e)
   |.ok M=>.ok M:=by
 unfold Fk.judgeMol molM Z3M
 rw [show Fk.MOLMARK=bts [70,75,77,49]from rfl,Z9f hb (by intro x hx;simp at hx;omega)]
 cases e1:markM bs 0 [70,75,77,49]with
 |error e=>rfl
 |ok p =>
  have hp:=Z4I (Z0q _) e1
  simp only [Fk.andThen]
  rw [Z2B (lo:=0) (hi:=128) hb hp (fun v=>by rw [decide_eq_true_iff,show Fk.ATOMS=128 from rfl];omega)]
  cases e2:numM bs p 1 0 128 with
  |error e=>rfl
  |ok n =>
   obtain⟨q1,q2,q3,_⟩:=Z2g e2
   simp only []
   rw [Z2B (lo:=0) (hi:=192) hb q1 (fun v=>by rw [decide_eq_true_iff,show Fk.BONDS=192 from rfl];omega)]
   cases e3:numM bs (p+1) 1 0 192 with
   |error e=>rfl
   |ok m =>
    obtain⟨r1,r2,r3,_⟩:=Z2g e3
    simp only []
    rw [show p+1+1=p+2 from rfl,Z8C hb n.toNat (p+2) (by omega)]
    cases e4:Z2J bs n.toNat (p+2)with
    |error e=>rfl
    |ok as =>
     simp only []
     have a4:=Z5J e4 (by omega)
     rw [Z8R hb n.toNat m.toNat (p+2+6*n.toNat) none (0,0) (by omega) (.inl ⟨rfl,rfl⟩),Z0F q2]
     cases e5:Z2H bs n m.toNat (p+2+6*n.toNat) (0,0)with
     |error e=>rfl
     |ok ds =>
      simp only [Fk.need]
      have hl:((bts bs).drop (p+2+6*n.toNat+4*m.toNat)).isEmpty=true↔¬ p+2+6*n.toNat+4*m.toNat<bs.length:=by
       rw [List.isEmpty_iff,List.drop_eq_nil_iff,Z3q];omega
      by_cases hlt:p+2+6*n.toNat+4*m.toNat<bs.length
      ·rw [if_pos hlt,if_neg (by rw [hl];omega)]
       unfold tf
       simp only [Except.error.injEq,Fk.Fault.mk.injEq]
       omega
      ·rw [if_neg hlt,if_pos (hl.mpr hlt)]
       simp only []
       cases e6:(List.range (Fk.Mol.n ⟨as,ds⟩)).find? (fun v=>(Fk.Mol.atom ⟨as,ds⟩ v).hand != 0&&!Fk.Mol.handed ⟨as,ds⟩ v)with
       |some v =>
        simp only []
        unfold tf
        simp only [Except.error.injEq,Fk.Fault.mk.injEq]
        omega
       |none =>
        simp only []
        cases e7:(List.range ds.length).find? (fun j=>(ds[j]?.map Fk.Bond.side).getD 0 != 0&&!Fk.Mol.sided ⟨as,ds⟩ j)with
        |some v =>
         simp only []
         unfold tf
         simp only [Except.error.injEq,Fk.Fault.mk.injEq]
         omega
        |none=>rfl
theorem Z9O{bs:List Int}(hb:Byt bs):SumNeutral.bytes bs=some (bts bs):=by
 unfold SumNeutral.bytes NeutralIO.bytes
 rw [if_pos]
 ·rfl
 ·rw [Z0R]
  intro x hx
  have:=hb x hx
  simp only [Z0y,decide_eq_true_iff]
  omega
theorem Z6B{bs:List Int}:∀ {ms:List Int}{p:Nat}{e:Int×Int},markM bs p ms=.error e→0≤e.1∧0≤e.2
 |[],p,e,h=>by unfold markM at h;cases h
 |m::ms,p,e,h=>by
  unfold markM at h
  split at h
  ·cases h;simp
  ·split at h
   ·cases h;simp
   ·exact Z6B h
theorem Z2K{bs:List Int}{p k:Nat}{lo hi:Int}{e:Int×Int}(h:numM bs p k lo hi=.error e):0≤e.1∧0≤e.2:=by
 unfold numM at h
 split at h
 ·cases h;simp
 ·split at h
  ·cases h;simp
  ·cases h
theorem atomM_nn{bs:List Int}{p:Nat}{e:Int×Int}(h:atomM bs p=.error e):0≤e.1∧0≤e.2:=by
 unfold atomM at h
 split at h
 ·cases h;rename_i h;exact Z2K h
 ·split at h
  ·cases h;rename_i h;exact Z2K h
  ·split at h
   ·cases h;rename_i h;exact Z2K h
   ·split at h
    ·cases h;rename_i h;exact Z2K h
    ·split at h
     ·cases h;rename_i h;exact Z2K h
     ·cases h
theorem Z7O{bs:List Int}:∀ {k p:Nat}{e:Int×Int},Z2J bs k p=.error e→0≤e.1∧0≤e.2
 |0,p,e,h=>by cases h
 |k+1,p,e,h=>by
  rw [Z4Y]at h
  split at h
  ·cases h;rename_i h;exact atomM_nn h
  ·split at h
   ·cases h;rename_i h;exact Z7O h
   ·cases h
theorem bondM_nn{bs:List Int}{n:Int}{p:Nat}{b:Int×Int}{e:Int×Int}(h:bondM bs n p b=.error e):0≤e.1∧0≤e.2:=by
 unfold bondM at h
 split at h
 ·cases h;rename_i h;exact Z2K h
 ·split at h
  ·cases h;rename_i h;exact Z2K h
  ·split at h
   ·cases h;simp
   ·split at h
    ·cases h;rename_i h;exact Z2K h
    ·split at h
     ·cases h;rename_i h;exact Z2K h
     ·cases h
theorem Z7K{bs:List Int}{n:Int}:∀ {k p:Nat}{b:Int×Int}{e:Int×Int},Z2H bs n k p b=.error e→0≤e.1∧0≤e.2
 |0,p,b,e,h=>by cases h
 |k+1,p,b,e,h=>by
  rw [Z4V]at h
  split at h
  ·cases h;rename_i h;exact bondM_nn h
  ·split at h
   ·cases h;rename_i h;exact Z7K h
   ·cases h
theorem Zaf{bs:List Int}{e:Int×Int}(h:Z3M bs=.error e):0≤e.1∧0≤e.2:=by
 unfold Z3M at h
 split at h
 ·cases h;rename_i h;exact Z6B h
 ·split at h
  ·cases h;rename_i h;exact Z2K h
  ·split at h
   ·cases h;rename_i h;exact Z2K h
   ·split at h
    ·cases h;rename_i h;exact Z7O h
    ·split at h
     ·cases h;rename_i h;exact Z7K h
     ·split at h
      ·cases h;simp;omega
      ·cases h
theorem Z9n{bs:List Int}{e:Int×Int}(h:molM bs=.error e):0≤e.1∧0≤e.2:=by
 unfold molM at h
 split at h
 ·cases h;rename_i h;exact Zaf h
 ·split at h
  ·cases h;simp;omega
  ·split at h
   ·cases h;simp;omega
   ·cases h
end SP
end
section
namespace BK
open PySem PySem.Spec PyProof.Rows L2 EX RD LM
def memM(bs:List Int)(p:Nat):Except (Int×Int) (Fk.Mol×Nat) :=
 match numM bs p 2 0 65535 with
 |.error e=>.error e
 |.ok n=>if bs.length<p+2+n.toNat then .error (5,bs.length)else match molM ((bs.drop (p+2)).take n.toNat)with
  |.error e=>.error (16+e.1,((p+2:Nat):Int)+e.2)
  |.ok M=>.ok (M,p+2+n.toNat)
section
variable{P:Program}{w:World}{K:Z0a}{mg:Str→Option Value}{base:Heap}{CF CR fF CA CB CM:Addr}
theorem fresh{r b:Addr}{H H1 H2:Hp}{o o':HO}(h:H r=some o)(o1:Only r H H1)(o2:Only r H1 H2)(g2:H2 r=some o')(n:H2 b=none):H b=none:=by
 cases e:H b with
 |none=>rfl
 |some x =>
  by_cases z:b=r
  ·rw [z,g2]at n;cases n
  ·rw [o2 _ _ (o1 _ _ e z) z]at n;cases n
def spMem(K:Z0a)(CF CR CA CB CM:Addr):Sp:=fun vs H Q E=>∃ (r a:Addr)(p:Nat)(bs:List Int),vs=[.ref r]∧RdAt CR H r a p∧SqL K H a (bs.map V.int)∧p≤bs.length∧(∀ x∈bs,0≤x∧x≤255) ∧
 match memM bs p with
 |.ok x=>∀ (H':Hp)(mr al bl:Addr)(as ds:List Addr),RdAt CR H' r a x.2→Only r H H'→H al=none→H bl=none→MolAt CM CA CB H' mr al bl as ds x.1→Wf x.1→Q (.ref mr) H'
 |.error e=>Flt CF E H r e.1 e.2
theorem scMem:Z2e ["reader","size","start","form","fault"] ["reader"] (Z2b Z3U):=⟨rfl,rfl,rfl,by decide +kernel,rfl,by decide +kernel,by decide +kernel⟩
theorem okMem{f fN fT f1:Addr}{fd fdN fdT fd1:FuncData}(F:Fun K "read_member" "read_member" Z3U f fd)(T:TR K mg CF CR fF)(xg:XG K CF)(nr:NoAttr K CF "rule")(np:NoAttr K CF "place")
  (cS:∃ u,mg "MOST_SIZE" = some u∧RelV (.int 65535) u)(cW:∃ u,mg "WITHIN_MOLECULE" = some u∧RelV (.int 16) u)
  (GN:FnOk P w K mg base (CXQ false P w) 3 fN fdN ["self","size","least","most"] (spNum K CF CR))(mN:Meth K CR "number" fN)(bN:Binds K fdN ["self","size","least","most"] [])
  (GT:FnOk P w K mg base (CXQ false P w) 2 fT fdT ["self","size"] (Z7W K CF CR))(mT:Meth K CR "take" fT)(bT:Binds K fdT ["self","size"] [])
  (G1:FnOk P w K mg base (CXF P w) 11 f1 fd1 ["form"] (spMol K CF CA CB CM))(m1:mg "read_molecule" = some (.ref f1))(k1:PySem.W.keepIn K (.ref f1)=true)(b1:Binds K fd1 ["form"] []) :
  FnOk P w K mg base (CXQ false P w) 12 f fd ["reader"] (spMem K CF CR CA CB CM):=by
 refine okX F scMem (fun vs H Q E h=>?_) (fun cdv A outer s H vs Q E hr h=>?_)
 ·obtain⟨r,a,p,bs,rfl,_⟩:=h
  rfl
 ·obtain⟨r,a,p,bs,rfl,hR,hS,hp,hb,k⟩:=h
  have hdp:=(show A.depth+1+1<recursionLimit from by have:=hr.dp;simp only [Around.deeper]at this;omega)
  have hr3:Room 3 _:=hr.mono (by decide)
  have hr2:Room 2 _:=hr.mono (by decide)
  refine⟨_,Z1Y (Z2h (i:=1) scMem.nd rfl (Or.inl rfl) (Z2j (pv 0) T.cl mN GN hr3 bN .nil Z2i (Z1V Z2f (Z1V Z2f (Z1V (pe_gc rfl cS) Z2a)))))
   (Z1Y (Z2h (i:=2) scMem.nd rfl (Or.inl rfl) (Z2d (pv 0) rfl))
   (Z1Y (Z2h (i:=3) scMem.nd rfl (Or.inl rfl) (Z2j (pv 0) T.cl mT GT hr2 bT .nil Z2i (Z1V (pv 1) Z2a)))
   (Z2c (ps_tryS (z:=true) (W:=fun D σ cls d H'=>cls=.ref CF∧∃ dx ru pl st,d=some dx∧σ[2]?=some (some (.int st))∧H' dx=some (.xd (xf ru pl 0))∧∀ H2 dx2,Same H' H2→H2 dx2=some (.xd (xf (16+ru) (st+pl) 0))→E (.ref CF) (some dx2) H2)
     G1 hr rfl m1 k1 b1 rfl rfl rfl (fun pins E1=>Z1V (pv 3) Z2a) (fun pins D σ H' s ea T1 C d a hW=>?_))))),?_⟩
  ·obtain⟨e,dx,ru,pl,st,rfl,hσ,hd,hE⟩:=hW
   cases e
   have hl:σ.length=5:=a.inv.len
   refine' hb_asR (i:=4) (E:=E) a T.xi rfl rfl rfl hdp rfl T.mgF scMem.nd rfl rfl Z9N ?hs0 ?hE0
   case hs0=>exact fun ea=>Z1V (pe_op Z2X (pe_gc rfl cW) (Z5Y K rfl (pv 4) rfl)) (Z1V (pe_op Z2X (pv 2) (Z5Y K rfl (pv 4) rfl)) Z2a)
   intro ea nea ned
   have h1:upd H' ea (XE true ea CF dx) dx=some (.xd (xf ru pl 0)):=by rw [Z1W ned.symm];exact hd
   have h4:(σ.set 4 (some (V.ref ea)))[4]?=some (some (V.ref ea)):=by rw [Z1m (by omega)]
   have h2:(σ.set 4 (some (V.ref ea)))[2]?=some (some (V.int st)):=by rw [Z1v (by decide)];exact hσ
   refine⟨_,h4,true,ea,CF,dx,_,_,rfl,Z1X,h1,xg,nr,Z9g _ _ _,_,_,rfl,rfl,_,h2,_,h4,true,ea,CF,dx,_,_,rfl,Z1X,h1,xg,np,Z8f _ _ _,_,_,rfl,rfl,Z1X,_,_,_,.inr ⟨rfl,rfl⟩,fun dx2 h2'=>?_⟩
   exact hE _ dx2 ((RD.Same.new nea).trans (RD.Same.new h2')) Z1X
  ·obtain⟨dx,g0⟩:=id hR
   unfold memM at k
   refine⟨_,rfl,r,dx,_,rfl,g0,rf_no _ _ (by decide) (by decide),r,a,p,2,bs,_,_,rfl,hR,hS,hp,hb,?_⟩
   cases e1:numM bs p 2 0 65535 with
   |error e=>rw [e1]at k;exact k
   |ok n =>
    rw [e1]at k
    dsimp only at k
    obtain⟨q1,q2,q3,_⟩:=Z2g e1
    intro H1 hR1 o1
    obtain⟨dx1,g1⟩:=id hR1
    have S1:=o1.sq g0 hS
    have hn:((n.toNat:Nat):Int)=n:=Z0F q2
    refine⟨_,rfl,r,CR,dx1,_,_,rfl,g1,T.cl,T.np,Z2L _ _,?_⟩
    refine⟨_,rfl,r,dx1,_,rfl,g1,rf_no _ _ (by decide) (by decide),_,rfl,r,a,p+2,n.toNat,bs,(by rw [hn];rfl),hR1,S1,q1,fun hle H2 l hR2 o2 nl hl2=>?_,fun hlt=>?_⟩
    ·rw [if_neg (by omega)]at k
     have hb2:∀ x∈(bs.drop (p+2)).take n.toNat,0≤x∧x≤255:=fun x hx=>hb x (List.mem_of_mem_drop (List.mem_of_mem_take hx))
     refine⟨_,rfl,l,_,rfl,SqL.of hl2,hb2,?_⟩
     cases e2:molM ((bs.drop (p+2)).take n.toNat)with
     |ok M =>
      rw [e2]at k
      dsimp only at k
      intro H3 mr al bl as ds s3 na nb mo wf
      obtain⟨dx2,g2⟩:=id hR2
      exact k H3 mr al bl as ds ⟨dx2,s3 _ _ g2⟩ (fun b o e ne=>s3 _ _ (o2 _ _ (o1 _ _ e ne) ne)) (fresh g0 o1 o2 g2 na) (fresh g0 o1 o2 g2 nb) mo wf
     |error e =>
      rw [e2]at k
      dsimp only at k
      intro H3 dx3 s3 hd3
      refine⟨rfl,dx3,e.1,e.2,_,rfl,rfl,hd3,fun H4 dx4 s4 hd4=>?_⟩
      exact k H4 dx4 (fun b o e ne=>s4 _ _ (s3 _ _ (o2 _ _ (o1 _ _ e ne) ne))) hd4
    ·rw [if_pos (by omega)]at k
     exact k.only o1
end
def memsM(bs:List Int):Nat→Nat→Except (Int×Int) (List Fk.Mol×Nat)
 |0,p=>.ok ([],p)
 |k+1,p=>match memM bs p with
  |.error e=>.error e
  |.ok x=>match memsM bs k x.2 with
   |.error e=>.error e
   |.ok y=>.ok (x.1::y.1,y.2)
theorem Z6X(bs:List Int)(p:Nat):memsM bs 0 p=.ok ([],p):=rfl
theorem Z3R(bs:List Int)(k p:Nat):memsM bs (k+1) p=match memM bs p with
  |.error e=>.error e
  |.ok x=>match memsM bs k x.2 with
   |.error e=>.error e
   |.ok y=>.ok (x.1::y.1,y.2):=rfl
def eqM(bs:List Int):Except (Int×Int) Fk.Equation :=
 match markM bs 0 [70,75,81,49]with
 |.error e=>.error e
 |.ok p=>match numM bs p 1 1 8 with
  |.error e=>.error e
  |.ok l=>match numM bs (p+1) 1 1 8 with
   |.error e=>.error e
   |.ok r=>match memsM bs l.toNat (p+2)with
    |.error e=>.error e
    |.ok x=>match memsM bs r.toNat x.2 with
     |.error e=>.error e
     |.ok y=>if y.2<bs.length then .error (7,y.2)else .ok ⟨x.1,y.1⟩
theorem Z6g{bs:List Int}{p:Nat}{x:Fk.Mol×Nat}(h:memM bs p=.ok x):x.2≤bs.length:=by
 unfold memM at h
 split at h
 ·cases h
 ·split at h
  ·cases h
  ·split at h
   ·cases h
   ·cases h
    show p+2+_≤_
    omega
theorem Z7Y{bs:List Int}:∀ {k p:Nat}{y:List Fk.Mol×Nat},p≤bs.length→memsM bs k p=.ok y→y.1.length=k∧y.2≤bs.length
 |0,p,y,hp,h=>by cases h;exact⟨rfl,hp⟩
 |k+1,p,y,hp,h=>by
  rw [Z3R]at h
  cases e:memM bs p with
  |error e'=>rw [e]at h;cases h
  |ok x =>
   rw [e]at h
   dsimp only at h
   cases e2:memsM bs k x.2 with
   |error e'=>rw [e2]at h;cases h
   |ok z =>
    rw [e2]at h
    cases h
    obtain⟨a,b⟩:=Z7Y (Z6g e) e2
    exact⟨by rw [Z0s,a],b⟩
def eqf(a b:Addr):List (Str×V):=[("left",.ref a),("right",.ref b)]
theorem Z7Z(a b:Addr):(eqf a b).lookup ("left" : Str)=some (.ref a):=by
 unfold eqf;rw [Z0b,show(("left" : Str)=="left")=true by decide]
theorem Z7C(a b:Addr):(eqf a b).lookup ("right" : Str)=some (.ref b):=by
 unfold eqf;rw [Z0b,show(("right" : Str)=="left")=false by decide,Z0b,show(("right" : Str)=="right")=true by decide]
def MolD(CM CA CB D:Addr)(H:Hp)(t:Addr)(M:Fk.Mol):Prop:=∃ (al bl:Addr)(as ds:List Addr),MolAt CM CA CB H t al bl as ds M∧Wf M∧al≠D∧bl≠D
def MolA(CM CA CB:Addr)(H:Hp)(t:Addr)(M:Fk.Mol):Prop:=∃ (al bl:Addr)(as ds:List Addr),MolAt CM CA CB H t al bl as ds M∧Wf M
theorem MolA.same{CM CA CB:Addr}{H H':Hp}{t:Addr}{M:Fk.Mol}(h:MolA CM CA CB H t M)(s:L2.Same H H'):MolA CM CA CB H' t M:=let ⟨al,bl,as,ds,a,b⟩:=h;⟨al,bl,as,ds,a.same s,b⟩
theorem MolD.toA{CM CA CB D:Addr}{H:Hp}{t:Addr}{M:Fk.Mol}(h:MolD CM CA CB D H t M):MolA CM CA CB H t M:=let ⟨al,bl,as,ds,a,b,_⟩:=h;⟨al,bl,as,ds,a,b⟩
theorem MolA.toD{CM CA CB D:Addr}{H:Hp}{t:Addr}{M:Fk.Mol}(h:MolA CM CA CB H t M)(n:H D=none):MolD CM CA CB D H t M:=by
 obtain⟨al,bl,as,ds,a,b⟩:=h
 exact⟨al,bl,as,ds,a,b,Z1Z a.atl n,Z1Z a.bdl n⟩
section
variable{P:Program}{w:World}{K:Z0a}{mg:Str→Option Value}{base:Heap}{CF CR fF CA CB CM CQ:Addr}
structure TQ(K:Z0a)(CQ:Addr):Prop where
 cl:Cls K CQ
 nl:NoAttr K CQ "left"
 nr:NoAttr K CQ "right"
def spQI(CQ:Addr):Sp:=fun vs H Q _=>∃ (r dx a b:Addr),vs=[.ref r,.ref a,.ref b]∧H r=some (.ins CQ dx [])∧∀ H':Hp,H' r=some (.ins CQ dx (eqf a b))→Only r H H'→Q .non H'
theorem scQI:Z2e ["self","left","right"] ["self","left","right"] (Z2b Z3E):=⟨rfl,rfl,rfl,by decide +kernel,rfl,by decide +kernel,by decide +kernel⟩
theorem okQI{f:Addr}{fd:FuncData}(F:Fun K "__init__" "Equation.__init__" Z3E f fd)(T:TQ K CQ):FnOk P w K mg base CX0 1 f fd ["self","left","right"] (spQI CQ):=by
 refine F.ok scQI (fun vs H Q E h=>?_) (fun cdv A outer s H vs Q E hr h=>?_)
 ·obtain⟨r,dx,a,b,rfl,_⟩:=h
  rfl
 ·obtain⟨r,dx,a,b,rfl,hp,k⟩:=h
  refine⟨_,Z1Y (Z2t (pv 0) (pv 1) rfl) (Z2c (Z2t (pv 0) (pv 2) rfl)),?_⟩
  refine⟨_,rfl,_,rfl,r,CQ,dx,[],rfl,hp,T.cl,T.nl,(by show 0<1000;decide),?_⟩
  refine⟨_,rfl,_,rfl,r,CQ,dx,_,rfl,Z1X,T.cl,T.nr,(by show 1<1000;decide),?_⟩
  rw [Z2F]
  exact k _ (by rw [Z1X];rfl) (Only.upd _)
end
theorem rf_ne{C C' d d' a:Addr}{p:Int}{fs:List (Str×V)}(h:fs.head?.map (·.1)≠some ("form" : Str)):(HO.ins C d fs)≠.ins C' d' (rf a p):=by
 intro z
 injection z with _ _ z
 rw [z]at h
 exact h rfl
theorem MolAt.onlyR{CM CA CB CR r dx a:Addr}{p:Int}{H H':Hp}{t al bl:Addr}{as ds:List Addr}{M:Fk.Mol}(m:MolAt CM CA CB H t al bl as ds M)(o:Only r H H')(hr:H r=some (.ins CR dx (rf a p))):MolAt CM CA CB H' t al bl as ds M:=by
 have nl:∀ {l:List V}{b:Addr},H b=some (.lst l)→b≠r:=fun e=>ne_of e hr (by intro z;cases z)
 refine⟨?_,o _ _ m.atl (nl m.atl),m.ats.keep fun t x _ h=>?_,o _ _ m.bdl (nl m.bdl),m.bds.keep fun t x _ h=>?_⟩
 ·obtain⟨dm,e⟩:=m.top
  exact⟨dm,o _ _ e (ne_of e hr (rf_ne (by show some ("atoms" : Str)≠some "form";decide)))⟩
 ·obtain⟨d,e⟩:=h
  exact⟨d,o _ _ e (ne_of e hr (rf_ne (by show some ("element" : Str)≠some "form";decide)))⟩
 ·obtain⟨d,e⟩:=h
  exact⟨d,o _ _ e (ne_of e hr (rf_ne (by show some ("a" : Str)≠some "form";decide)))⟩
theorem MolAt.updL{CM CA CB D:Addr}{H:Hp}{t al bl:Addr}{as ds:List Addr}{M:Fk.Mol}{l l':List V}(m:MolAt CM CA CB H t al bl as ds M)(hD:H D=some (.lst l))(na:al≠D)(nb:bl≠D):MolAt CM CA CB (upd H D (.lst l')) t al bl as ds M:=by
 have ni:∀ {C d b:Addr}{fs:List (Str×V)},H b=some (.ins C d fs)→b≠D:=fun e=>ne_of e hD (by intro z;cases z)
 refine⟨?_,by rw [Z1W na];exact m.atl,m.ats.keep fun t x _ h=>?_,by rw [Z1W nb];exact m.bdl,m.bds.keep fun t x _ h=>?_⟩
 ·obtain⟨dm,e⟩:=m.top
  exact⟨dm,by rw [Z1W (ni e)];exact e⟩
 ·obtain⟨d,e⟩:=h
  exact⟨d,by rw [Z1W (ni e)];exact e⟩
 ·obtain⟨d,e⟩:=h
  exact⟨d,by rw [Z1W (ni e)];exact e⟩
theorem MolD.onlyR{CM CA CB CR r dx a D:Addr}{p:Int}{H H':Hp}{t:Addr}{M:Fk.Mol}(h:MolD CM CA CB D H t M)(o:Only r H H')(hr:H r=some (.ins CR dx (rf a p))):MolD CM CA CB D H' t M :=
 let ⟨al,bl,as,ds,a,b,c⟩:=h;⟨al,bl,as,ds,a.onlyR o hr,b,c⟩
theorem MolD.updL{CM CA CB D:Addr}{H:Hp}{t:Addr}{M:Fk.Mol}{l l':List V}(h:MolD CM CA CB D H t M)(hD:H D=some (.lst l)):MolD CM CA CB D (upd H D (.lst l')) t M :=
 let ⟨al,bl,as,ds,a,b,c,d⟩:=h;⟨al,bl,as,ds,a.updL hD c d,b,c,d⟩
theorem Objs.to{α:Type}{R R':Hp→Addr→α→Prop}{H H':Hp}{ts:List Addr}{l:List α}(h:Objs R H ts l)(k:∀ t x,t∈ts→R H t x→R' H' t x):Objs R' H' ts l:=⟨h.1,fun j t x a b=>k t x (Z0z a) (h.2 j t x a b)⟩
structure EqAt(CQ CM CA CB:Addr)(H:Hp)(er ll rl:Addr)(ls rs:List Addr)(E:Fk.Equation):Prop where
 top:∃ dx,H er=some (.ins CQ dx (eqf ll rl))
 lel:H ll=some (.lst (ls.map V.ref))
 les:Objs (MolA CM CA CB) H ls E.left
 ril:H rl=some (.lst (rs.map V.ref))
 ris:Objs (MolA CM CA CB) H rs E.right
theorem EqAt.same{CQ CM CA CB:Addr}{H H':Hp}{er ll rl:Addr}{ls rs:List Addr}{E:Fk.Equation}(h:EqAt CQ CM CA CB H er ll rl ls rs E)(s:L2.Same H H'):EqAt CQ CM CA CB H' er ll rl ls rs E :=
 ⟨let ⟨dx,e⟩:=h.top;⟨dx,s _ _ e⟩,s _ _ h.lel,h.les.keep fun _ _ _ a=>a.same s,s _ _ h.ril,h.ris.keep fun _ _ _ a=>a.same s⟩
def lcAt(j:Nat)(b:List Stmt):Scope:=match b[j]? with
 |some x=>match x with
  |.Assign _ (.ListComp _ _ sc _) _=>sc
  |_=>{ kind:=.function,names:=[],isGenerator:=false,isCoroutine:=false }
 |none=>{ kind:=.function,names:=[],isGenerator:=false,isCoroutine:=false }
section
variable{P:Program}{w:World}{K:Z0a}{mg:Str→Option Value}{base:Heap}{CF CR fF CA CB CM CQ:Addr}
def spEq(K:Z0a)(CF CA CB CM CQ:Addr):Sp:=fun vs H Q E=>∃ (a:Addr)(bs:List Int),vs=[.ref a]∧SqL K H a (bs.map V.int)∧(∀ x∈bs,0≤x∧x≤255) ∧
 match eqM bs with
 |.ok E=>∀ (H':Hp)(er ll rl:Addr)(ls rs:List Addr),Same H H'→EqAt CQ CM CA CB H' er ll rl ls rs E→E.left.length≤8→E.right.length≤8→Q (.ref er) H'
 |.error e=>FltS CF E H e.1 e.2
theorem scEq:Z2e ["form","reader","left_count","right_count","left","right","k"] ["form"] (Z2b Z2y):=⟨rfl,rfl,rfl,by decide +kernel,rfl,by decide +kernel,by decide +kernel⟩
theorem blkL:BlkOk ["form","reader","left_count","right_count","left","right","k"] (Z2b Z2y) (lcAt 4 (Z2o Z2y)) [("k",6)]:=⟨rfl,by decide +kernel,by decide +kernel,by decide +kernel,by decide +kernel⟩
theorem blkR:BlkOk ["form","reader","left_count","right_count","left","right","k"] (Z2b Z2y) (lcAt 5 (Z2o Z2y)) [("k",6)]:=⟨rfl,by decide +kernel,by decide +kernel,by decide +kernel,by decide +kernel⟩
theorem okEq{f fI fM fN fE fW fJ:Addr}{fd fdI fdM fdN fdE fdW fdJ:FuncData}(F:Fun K "read_equation" "read_equation" Z2y f fd)(T:TR K mg CF CR fF)(hran:mg "range" = none)
  (mark:∃ a,mg "MARK_equations" = some (.ref a)∧∀ H,SqT K H a (([70,75,81,49]:List Int).map V.int))(cS:∃ u,mg "MOST_ON_A_SIDE" = some u∧RelV (.int 8) u)
  (M:Mk K CR fI)(GI:FnOk P w K mg base CX0 1 fI fdI ["self","form"] (spRI CR))(bI:Binds K fdI ["self","form"] [])
  (GM:FnOk P w K mg base (CXQ false P w) 2 fM fdM ["self","mark"] (Z8e K CF CR))(mM:Meth K CR "expect_mark" fM)(bM:Binds K fdM ["self","mark"] [])
  (GN:FnOk P w K mg base (CXQ false P w) 3 fN fdN ["self","size","least","most"] (spNum K CF CR))(mN:Meth K CR "number" fN)(bN:Binds K fdN ["self","size","least","most"] [])
  (GW:FnOk P w K mg base (CXQ false P w) 2 fW fdW ["self"] (spFin K CF CR))(mW:Meth K CR "finish" fW)(bW:Binds K fdW ["self"] [])
  (GE:FnOk P w K mg base (CXQ false P w) 12 fE fdE ["reader"] (spMem K CF CR CA CB CM))(mE:mg "read_member" = some (.ref fE))(kE:PySem.W.keepIn K (.ref fE)=true)(bE:Binds K fdE ["reader"] [])
  (J:Mk K CQ fJ)(hJ:mg "Equation" = some (.ref CQ))(GJ:FnOk P w K mg base CX0 1 fJ fdJ ["self","left","right"] (spQI CQ))(bJ:Binds K fdJ ["self","left","right"] []) :
  FnOk P w K mg base (CXQ false P w) 13 f fd ["form"] (spEq K CF CA CB CM CQ):=by
 refine okX F scEq (fun vs H Q E h=>?_) (fun cdv A outer s H vs Q E hr h=>?_)
 ·obtain⟨a,bs,rfl,_⟩:=h
  rfl
 ·obtain⟨a,bs,rfl,hS,hb,k⟩:=h
  obtain⟨aM,eM,hM⟩:=mark
  have hr2:Room 2 _:=hr.mono (by decide)
  have hr3:Room 3 _:=hr.mono (by decide)
  refine⟨_,Z1Y (Z2h (i:=1) scEq.nd rfl (Or.inr rfl) (Z3p M GI hr2 rfl T.mgR bI .nil pass0 (Z1V (pv 0) Z2a)))
   (Z1Y (Z2r (Z2j (pv 1) T.cl mM GM hr2 bM .nil Z2i (Z1V (Z6c (v:=.ref aM) rfl eM rfl) Z2a)))
   (Z1Y (Z2h (i:=2) scEq.nd rfl (Or.inl rfl) (Z2j (pv 1) T.cl mN GN hr3 bN .nil Z2i (Z1V Z2f (Z1V Z2f (Z1V (pe_gc rfl cS) Z2a)))))
   (Z1Y (Z2h (i:=3) scEq.nd rfl (Or.inl rfl) (Z2j (pv 1) T.cl mN GN hr3 bN .nil Z2i (Z1V Z2f (Z1V Z2f (Z1V (pe_gc rfl cS) Z2a)))))
   (Z1Y (Z5S (E:=E) (i:=4) rfl rfl rfl (fun _ _ h=>h) rfl scEq.nd rfl rfl (Z5d rfl rfl rfl rfl) (Z4m rfl hran (Z1V (pv 2) Z2a)) blkL (fun s H C cl fp xe=>Z2x (i:=6) scEq.nd rfl (Or.inl rfl)) (fun s H C cl fp xe=>Z4x)
      (fun s H C cl fp xe hx=>Z2m GE hr rfl mE kE bE .nil hx (Z1V (pv 1) Z2a)))
   (Z1Y (Z5S (E:=E) (i:=5) rfl rfl rfl (fun _ _ h=>h) rfl scEq.nd rfl rfl (Z5d rfl rfl rfl rfl) (Z4m rfl hran (Z1V (pv 3) Z2a)) blkR (fun s H C cl fp xe=>Z2x (i:=6) scEq.nd rfl (Or.inl rfl)) (fun s H C cl fp xe=>Z4x)
      (fun s H C cl fp xe hx=>Z2m GE hr rfl mE kE bE .nil hx (Z1V (pv 1) Z2a)))
   (Z1Y (Z2r (Z6r (pv 1) T.cl mW GW hr2 bW .nil Z2i))
   (Z2c (Z2k (Z3p J GJ hr2 rfl hJ bJ .nil pass0 (Z1V (pv 4) (Z1V (pv 5) Z2a))))))))))),?_⟩
  unfold eqM at k
  refine⟨_,rfl,fun r dx nr nd ndr=>⟨r,dx,a,rfl,Z1X,fun H1 hR1 o1=>⟨rfl,?_⟩⟩⟩
  have s1:L2.Same H H1:=fun b o e=>o1 b o (by rw [Z1W (Z1Z e nr),Z1W (Z1Z e nd)];exact e) (Z1Z e nr)
  have S1:=s1.seq hS
  obtain⟨dx1,g1⟩:=id hR1
  refine⟨_,rfl,r,dx1,_,rfl,g1,rf_no _ _ (by decide) (by decide),r,a,aM,0,bs,_,rfl,hR1,S1,hM _,Z0q _,?_⟩
  cases e1:markM bs 0 [70,75,81,49]with
  |error e=>rw [e1]at k;exact FltS.flt k s1 nr
  |ok p =>
   rw [e1]at k
   dsimp only at k
   have hp:=Z4I (Z0q _) e1
   intro H2 hR2 o2
   have s2:=Same.only s1 o2 nr
   have S2:=s2.seq hS
   obtain⟨dx2,g2⟩:=id hR2
   refine⟨_,rfl,r,dx2,_,rfl,g2,rf_no _ _ (by decide) (by decide),r,a,p,1,bs,_,_,rfl,hR2,S2,hp,hb,?_⟩
   cases e2:numM bs p 1 1 8 with
   |error e=>rw [e2]at k;exact FltS.flt k s2 nr
   |ok n =>
    rw [e2]at k
    dsimp only at k
    obtain⟨q1,q2,q3,_⟩:=Z2g e2
    intro H3 hR3 o3
    have s3:=Same.only s2 o3 nr
    have S3:=s3.seq hS
    obtain⟨dx3,g3⟩:=id hR3
    refine⟨_,rfl,r,dx3,_,rfl,g3,rf_no _ _ (by decide) (by decide),r,a,p+1,1,bs,_,_,rfl,hR3,S3,by omega,hb,?_⟩
    cases e3:numM bs (p+1) 1 1 8 with
    |error e=>rw [e3]at k;exact FltS.flt k s3 nr
    |ok m =>
     rw [e3]at k
     dsimp only at k
     obtain⟨m1,m2,m3,_⟩:=Z2g e3
     intro H4 hR4 o4
     have s4:=Same.only s3 o4 nr
     obtain⟨dx4,g4⟩:=id hR4
     refine⟨_,rfl,n,rfl,by omega,by omega,fun al hal=>Z5t (lo:=0) (n:=n.toNat) (fun i H'=>∃ (ts:List Addr)(l1:List Fk.Mol)(q:Nat),L2.Same H H'∧RdAt CR H' r a q∧q≤bs.length∧H' al=some (.lst (ts.map V.ref))∧l1.length=i∧Objs (MolD CM CA CB al) H' ts l1 ∧
       memsM bs n.toNat (p+2)=(match memsM bs (n.toNat-i) q with |.error e=>.error e |.ok y=>.ok (l1++y.1,y.2)))
      ⟨[],[],p+2,s4.trans (RD.Same.new hal),⟨dx4,by rw [Z1W (Z1Z g4 hal)];exact g4⟩,by omega,Z1X,rfl,Objs.nil,?_⟩ ?_ ?_⟩
     ·rw [Z1f]
      cases memsM bs n.toNat (p+2)<;>rfl
     ·rintro i H' hi ⟨ts,l1,q,s5,hR5,hq,hal5,hl1,hO,hk⟩
      obtain⟨dx5,g5⟩:=id hR5
      have nal:H al=none:=s4.free hal
      have hn:n.toNat-i=(n.toNat-(i+1))+1:=by omega
      rw [hn,Z3R]at hk
      refine⟨rfl,_,rfl,r,a,q,bs,rfl,hR5,s5.seq hS,hq,hb,?_⟩
      cases e4:memM bs q with
      |error e =>
       rw [e4]at hk
       dsimp only at hk
       rw [hk]at k
       exact FltS.flt k s5 nr
      |ok x =>
       rw [e4]at hk
       dsimp only at hk
       intro H6 t ta tb as ds hR6 o6 na nb mo wf
       have s6:=Same.only s5 o6 nr
       obtain⟨dx6,g6⟩:=id hR6
       have ral:r≠al:=ne_of g5 hal5 (by intro z;cases z)
       have hal6:H6 al=some (.lst (ts.map V.ref)):=o6 _ _ hal5 ral.symm
       have n1:ta≠al:=fun z=>by rw [z,hal5]at na;cases na
       have n2:tb≠al:=fun z=>by rw [z,hal5]at nb;cases nb
       refine⟨_,hal6,by rw [Z0c,hO.1,hl1,sizeLine_eq];omega,ts++[t],l1++[x.1],x.2,fun b o e=>?_,⟨dx6,by rw [Z1W ral];exact g6⟩,Z6g e4,by rw [Z1X,Z0D];rfl,by simp [hl1],Objs.snoc (hO.keep fun t' x' _ ha=>(ha.onlyR o6 g5).updL hal6) ⟨ta,tb,as,ds,mo.updL hal6 n1 n2,wf,n1,n2⟩,?_⟩
       ·rw [Z1W (Z1Z e nal)];exact s6 _ _ e
       ·rw [hk]
        cases memsM bs (n.toNat-(i+1)) x.2 with
        |error e=>rfl
        |ok y=>simp
     ·rintro H5 ⟨ls,l1,q,s5,hR5,hq,hal5,hl1,hO,hk⟩
      rw [Z0T,Z6X]at hk
      dsimp only at hk
      rw [hk]at k
      simp only [Z0G]at k
      obtain⟨dx5,g5⟩:=id hR5
      have nal:H al=none:=s4.free hal
      refine⟨_,rfl,m,rfl,by omega,by omega,fun rl hrl=>Z5t (lo:=0) (n:=m.toNat) (fun i H'=>∃ (ts:List Addr)(l2:List Fk.Mol)(q':Nat),L2.Same H H'∧RdAt CR H' r a q'∧q'≤bs.length∧H' rl=some (.lst (ts.map V.ref))∧l2.length=i∧Objs (MolD CM CA CB rl) H' ts l2 ∧
       H' al=some (.lst (ls.map V.ref))∧Objs (MolD CM CA CB rl) H' ls l1∧memsM bs m.toNat q=(match memsM bs (m.toNat-i) q' with |.error e=>.error e |.ok y=>.ok (l2++y.1,y.2)))
       ⟨[],[],q,s5.trans (RD.Same.new hrl),⟨dx5,by rw [Z1W (Z1Z g5 hrl)];exact g5⟩,hq,Z1X,rfl,Objs.nil,by rw [Z1W (Z1Z hal5 hrl)];exact hal5,hO.to fun t x _ ha=>?_,?_⟩ ?_ ?_⟩
      ·obtain⟨u1,u2,u3,u4,u5,u6,u7⟩:=ha.toA.toD (D:=rl) hrl
       exact⟨u1,u2,u3,u4,u5.same (RD.Same.new hrl),u6,u7⟩
      ·rw [Z1f]
       cases memsM bs m.toNat q<;>rfl
      ·rintro i H' hi ⟨ts,l2,q',s6,hR6,hq6,hrl6,hl2,hO2,hal6,hO6,hk2⟩
       obtain⟨dx6,g6⟩:=id hR6
       have nrl:H rl=none:=s5.free hrl
       have arl:al≠rl:=Z1Z hal5 hrl
       have hn:m.toNat-i=(m.toNat-(i+1))+1:=by omega
       rw [hn,Z3R]at hk2
       refine⟨rfl,_,rfl,r,a,q',bs,rfl,hR6,s6.seq hS,hq6,hb,?_⟩
       cases e4:memM bs q' with
       |error e =>
        rw [e4]at hk2
        dsimp only at hk2
        rw [hk2]at k
        exact FltS.flt k s6 nr
       |ok x =>
        rw [e4]at hk2
        dsimp only at hk2
        intro H7 t ta tb as ds hR7 o7 na nb mo wf
        have s7:=Same.only s6 o7 nr
        obtain⟨dx7,g7⟩:=id hR7
        have rrl:r≠rl:=ne_of g6 hrl6 (by intro z;cases z)
        have ral:r≠al:=ne_of g6 hal6 (by intro z;cases z)
        have hrl7:H7 rl=some (.lst (ts.map V.ref)):=o7 _ _ hrl6 rrl.symm
        have n1:ta≠rl:=fun z=>by rw [z,hrl6]at na;cases na
        have n2:tb≠rl:=fun z=>by rw [z,hrl6]at nb;cases nb
        refine⟨_,hrl7,by rw [Z0c,hO2.1,hl2,sizeLine_eq];omega,ts++[t],l2++[x.1],x.2,fun b o e=>?_,⟨dx7,by rw [Z1W rrl];exact g7⟩,Z6g e4,by rw [Z1X,Z0D];rfl,by simp [hl2],
         Objs.snoc (hO2.keep fun t' x' _ ha=>(ha.onlyR o7 g6).updL hrl7) ⟨ta,tb,as,ds,mo.updL hrl7 n1 n2,wf,n1,n2⟩,by rw [Z1W arl];exact o7 _ _ hal6 ral.symm,hO6.keep fun t' x' _ ha=>(ha.onlyR o7 g6).updL hrl7,?_⟩
        ·rw [Z1W (Z1Z e nrl)];exact s7 _ _ e
        ·rw [hk2]
         cases memsM bs (m.toNat-(i+1)) x.2 with
         |error e=>rfl
         |ok y=>simp
      ·rintro H6 ⟨rs,l2,q',s6,hR6,hq6,hrl6,hl2,hO2,hal6,hO6,hk2⟩
       rw [Z0T,Z6X]at hk2
       dsimp only at hk2
       rw [hk2]at k
       simp only [Z0G]at k
       obtain⟨dx6,g6⟩:=id hR6
       refine⟨_,rfl,r,dx6,_,rfl,g6,rf_no _ _ (by decide) (by decide),r,a,q',bs,rfl,hR6,s6.seq hS,hq6,fun hqe H7 s7=>?_,fun hlt=>?_⟩
       ·rw [if_neg (by omega)]at k
        refine⟨_,rfl,_,rfl,fun u ud nu nud und=>⟨u,ud,al,rl,rfl,Z1X,fun H8 hu8 o8=>⟨rfl,?_⟩⟩⟩
        have s8:L2.Same H7 H8:=fun b o e=>o8 b o (by rw [Z1W (Z1Z e nu),Z1W (Z1Z e nud)];exact e) (Z1Z e nu)
        have s78:=s7.trans s8
        exact k H8 u al rl ls rs (s6.trans s78) ⟨⟨ud,hu8⟩,s78 _ _ hal6,hO6.to fun _ _ _ ha=>ha.toA.same s78,s78 _ _ hrl6,hO2.to fun _ _ _ ha=>ha.toA.same s78⟩ (by show l1.length≤8;omega) (by show l2.length≤8;omega)
       ·rw [if_pos hlt]at k
        exact FltS.flt k s6 nr
end
end BK
end
section
namespace SP
open RD BK EX
theorem num2(b:Fk.Bytes)(p:Nat):Fk.numIn 2 (fun _=>true) b p=Fk.numIn 2 (fun v=>decide (v≤65535)) b p:=by
 unfold Fk.numIn
 by_cases h:b.length<2
 ·rw [if_pos h,if_pos h]
 ·rw [if_neg h,if_neg h]
  match b,h with
  |[],h=>simp at h
  |[_],h=>simp at h
  |x::y::l,_ =>
   have hx:=x.toNat_lt
   have hy:=y.toNat_lt
   have e:Fk.num (List.take 2 (x::y::l))=x.toNat+256*(y.toNat+256*0):=rfl
   rw [e,if_pos rfl,if_pos (decide_eq_true (by omega))]
theorem mem_eq{bs:List Int}(hb:Byt bs){p:Nat}(hp:p≤bs.length):Fk.molIn ((bts bs).drop p) p=match memM bs p with
   |.error e=>.error (tf e)
   |.ok x=>.ok (x.1,(bts bs).drop x.2,x.2):=by
 unfold Fk.molIn memM
 rw [num2,Z2B (lo:=0) (hi:=65535) hb hp (fun v=>by rw [decide_eq_true_iff];omega)]
 cases e1:numM bs p 2 0 65535 with
 |error e=>rfl
 |ok n =>
  obtain⟨q1,q2,q3,_⟩:=Z2g e1
  simp only [Fk.andThen,Fk.need]
  rw [Z1o,Z3q,Z1o,Z3q]
  by_cases hl:bs.length<p+2+n.toNat
  ·rw [if_pos hl,if_neg (by rw [decide_eq_true_iff];omega)]
   unfold tf
   simp only [Except.error.injEq,Fk.Fault.mk.injEq]
   omega
  ·rw [if_neg hl,if_pos (by rw [decide_eq_true_iff];omega)]
   simp only []
   rw [Z6x,Z8w,Z9c ((hb.drop _).take _)]
   cases e2:molM ((bs.drop (p+2)).take n.toNat)with
   |error e =>
    have:=Z9n e2
    simp only []
    unfold tf
    simp only [Except.error.injEq,Fk.Fault.mk.injEq]
    omega
   |ok M =>
    simp only []
    rw [←Z6x,List.drop_drop]
theorem Z7e{bs:List Int}(hb:Byt bs):∀ (k p:Nat),p≤bs.length→Fk.molsIn k ((bts bs).drop p) p=match memsM bs k p with
   |.error e=>.error (tf e)
   |.ok y=>.ok (y.1,(bts bs).drop y.2,y.2)
 |0,p,hp=>rfl
 |k+1,p,hp=>by
  rw [Z3R]
  unfold Fk.molsIn
  rw [mem_eq hb hp]
  cases e:memM bs p with
  |error e'=>rfl
  |ok x =>
   simp only [Fk.andThen]
   rw [Z7e hb k x.2 (Z6g e)]
   cases memsM bs k x.2 with
   |error e'=>rfl
   |ok y=>rfl
theorem Z9M{bs:List Int}(hb:Byt bs):Fk.judgeEq (bts bs)=match eqM bs with
   |.error e=>.error (tf e)
   |.ok E=>.ok E:=by
 unfold Fk.judgeEq eqM
 rw [show Fk.EQMARK=bts [70,75,81,49]from rfl,Z9f hb (by intro x hx;simp at hx;omega)]
 cases e1:markM bs 0 [70,75,81,49]with
 |error e=>rfl
 |ok p =>
  have hp:=Z4I (Z0q _) e1
  simp only [Fk.andThen]
  rw [Z2B (lo:=1) (hi:=8) hb hp (fun v=>by rw [Z0y,decide_eq_true_iff,decide_eq_true_iff,show Fk.SIDE=8 from rfl];omega)]
  cases e2:numM bs p 1 1 8 with
  |error e=>rfl
  |ok n =>
   obtain⟨q1,q2,q3,_⟩:=Z2g e2
   simp only []
   rw [Z2B (lo:=1) (hi:=8) hb q1 (fun v=>by rw [Z0y,decide_eq_true_iff,decide_eq_true_iff,show Fk.SIDE=8 from rfl];omega)]
   cases e3:numM bs (p+1) 1 1 8 with
   |error e=>rfl
   |ok m =>
    obtain⟨r1,r2,r3,_⟩:=Z2g e3
    simp only []
    rw [show p+1+1=p+2 from rfl,Z7e hb n.toNat (p+2) (by omega)]
    cases e4:memsM bs n.toNat (p+2)with
    |error e=>rfl
    |ok x =>
     have a4:=Z7Y (by omega) e4
     simp only []
     rw [Z7e hb m.toNat x.2 a4.2]
     cases e5:memsM bs m.toNat x.2 with
     |error e=>rfl
     |ok y =>
      simp only [Fk.need]
      have hl:((bts bs).drop y.2).isEmpty=true↔¬ y.2<bs.length:=by
       rw [List.isEmpty_iff,List.drop_eq_nil_iff,Z3q];omega
      by_cases hlt:y.2<bs.length
      ·rw [if_pos hlt,if_neg (by rw [hl];omega)]
       unfold tf
       simp
      ·rw [if_neg hlt,if_pos (hl.mpr hlt)]
theorem memM_nn{bs:List Int}{p:Nat}{e:Int×Int}(h:memM bs p=.error e):0≤e.1∧0≤e.2:=by
 unfold memM at h
 split at h
 ·cases h;rename_i h;exact Z2K h
 ·split at h
  ·cases h
   exact⟨by show(0:Int)≤5;decide,by show(0:Int)≤((bs.length:Nat):Int);omega⟩
  ·split at h
   ·rename_i e' he
    cases h
    have:=Z9n he
    exact⟨by show(0:Int)≤16+e'.1;omega,by show(0:Int)≤((p+2:Nat):Int)+e'.2;omega⟩
   ·cases h
theorem Z6q{bs:List Int}:∀ {k p:Nat}{e:Int×Int},memsM bs k p=.error e→0≤e.1∧0≤e.2
 |0,p,e,h=>by cases h
 |k+1,p,e,h=>by
  rw [Z3R]at h
  cases e1:memM bs p with
  |error e'=>rw [e1]at h;cases h;exact memM_nn e1
  |ok x =>
   rw [e1]at h
   dsimp only at h
   cases e2:memsM bs k x.2 with
   |error e'=>rw [e2]at h;cases h;exact Z6q e2
   |ok y=>rw [e2]at h;cases h
theorem eqM_nn{bs:List Int}{e:Int×Int}(h:eqM bs=.error e):0≤e.1∧0≤e.2:=by
 unfold eqM at h
 split at h
 ·cases h;rename_i h;exact Z6B h
 ·split at h
  ·cases h;rename_i h;exact Z2K h
  ·split at h
   ·cases h;rename_i h;exact Z2K h
   ·split at h
    ·cases h;rename_i h;exact Z6q h
    ·split at h
     ·cases h;rename_i h;exact Z6q h
     ·split at h
      ·cases h;simp
      ·cases h
end SP
namespace BK
open PySem PySem.Spec PyProof.Rows L2 EX RD LM
section
variable{P:Program}{w:World}{K:Z0a}{mg:Str→Option Value}{base:Heap}{CF CR CW CN CT fF CA CB CM CQ:Addr}
def spTl{ι:Type}(CF CW CN CT:Addr)(pre:ι→List V→Hp→Prop)(ans:ι→List Int)(n:Nat):Sp:=fun vs H Q E=>vs.length=n∧∃ x,pre x vs H ∧
 (∀ H' t xs,L2.Same H H'→H t=none→H' t=some (.lst (xs.map V.int))→ans x=0::xs→Q (.ref t) H')∧∀ cls d H',Z8r CF CW CN CT (ans x) cls d H'→E cls d H'
theorem sq_tbl{K:Z0a}{H:Hp}{PT a:Addr}{t1 t2:Array Value}{xs:List V}(hP:H PT=none)(h:SqL K H a xs):SqL K (upd (upd H PT (.tbl t1)) PT (.tbl t2)) a xs:=by
 have ne:∀ o,H a=some o→a≠PT:=fun o e z=>by rw [z,hP]at e;cases e
 rcases h with(h |⟨o,h⟩) |h
 ·exact .inl (.inl (by rw [Z1W (ne _ h),Z1W (ne _ h)];exact h))
 ·exact .inl (.inr ⟨o,by rw [Z1W (ne _ h),Z1W (ne _ h)];exact h⟩)
 ·exact .inr h
end
section
variable{X:Cx}
end
section
variable{P:Program}{w:World}{K:Z0a}{mg:Str→Option Value}{base:Heap}{CF CW CN CT fF:Addr}
def spGcd:Sp:=fun vs H Q _=>∃ a b:Nat,vs=[.int a,.int b]∧Q (.int (Nat.gcd a b:Nat)) H
theorem scGcd:Z2e ["a","b","remainder"] ["a","b"] (Z2b Z3r):=⟨rfl,rfl,rfl,by decide +kernel,rfl,by decide +kernel,by decide +kernel⟩
theorem okGcd{f:Addr}{fd:FuncData}(F:Fun K "common_divisor" "common_divisor" Z3r f fd):FnOk P w K mg base CX0 1 f fd ["a","b"] spGcd:=by
 refine F.ok scGcd (fun vs H Q E h=>?_) (fun cdv A outer s H vs Q E hr h=>?_)
 ·obtain⟨a,b,rfl,_⟩:=h
  rfl
 ·obtain⟨a,b,rfl,k⟩:=h
  refine⟨_,Z1Y (Z4y PassesOwn.never (Z2p op_ne (pv 1) Z2f (Z2n _))
    (Z1Y (Z2h (i:=2) scGcd.nd rfl (Or.inl rfl) (pe_op op_mod (pv 0) (pv 1)))
    (Z1Y (Z2h (i:=0) scGcd.nd rfl (Or.inl rfl) (pv 1))
    (Z2c (Z2h (i:=1) scGcd.nd rfl (Or.inl rfl) (pv 2))))))
   (Z2c (Z2k (pv 0))),?_⟩
  refine Z5u (fun σ H'=>∃ (a' b':Nat)(v:Option V),σ=[some (.int a'),some (.int b'),v]∧H'=H∧Nat.gcd a' b'=Nat.gcd a b) (fun σ _=>match σ with |[_,some (.int b'),_]=>b'.toNat |_=>0) ⟨a,b,none,rfl,rfl,rfl⟩ ?_ ?_
  ·rintro σ H' ⟨a',b',v,rfl,rfl,hg⟩
   refine⟨_,rfl,rfl,_,rfl,ite2 (fun hc=>?_) (fun hc=>?_)⟩
   ·have hb:b'≠0:=fun z=>by simp [z]at hc
    refine⟨_,rfl,_,rfl,_,_,rfl,rfl,(by omega),?_⟩
    refine⟨_,rfl,_,rfl,⟨b',a' % b',some (.int ((a' % b':Nat):Int)),?_,rfl,?_⟩,?_⟩
    ·show[some (V.int (b':Int)),some (V.int ((a':Int) % (b':Int))),some (V.int ((a':Int) % (b':Int)))]=_
     rw [Int.natCast_emod]
    ·rw [←hg,Nat.gcd_comm b' (a' % b'),←Nat.gcd_rec,Nat.gcd_comm]
    ·show((a':Int) % (b':Int)).toNat<(b':Int).toNat
     rw [←Int.natCast_emod]
     exact Nat.mod_lt _ (Z1I hb)
   ·have hb:b'=0:=by
     rcases Nat.eq_zero_or_pos b' with z |z
     ·exact z
     ·exact absurd (show _=true by simp;omega) hc
    subst hb
    refine⟨_,rfl,?_⟩
    rw [Nat.gcd_zero_right]at hg
    rw [hg]
    exact k
  ·rintro σ H' Q1 Q2 hq ⟨v,e,h1,b',e2,q⟩
   exact⟨v,e,h1,b',e2,hq _ _ q⟩
end
def nV(n:Nat):V:=.int (n:Int)
section
variable{P:Program}{w:World}{K:Z0a}{mg:Str→Option Value}{base:Heap}{CF CW CN CT fF:Addr}
def spLow:Sp:=fun vs H Q _=>∃ (n d k:Nat),vs=[.int n,.int d]∧0<d∧d<2 ^ k∧k≤9000∧∀ H' t,L2.Same H H'→H t=none→H' t=some (.tup (([((Fk.low (n,d)).1:Int),((Fk.low (n,d)).2:Int)]:List Int).map V.int))→Q (.ref t) H'
theorem scLow:Z2e ["numerator","denominator","divisor"] ["numerator","denominator"] (Z2b Z5W):=⟨rfl,rfl,rfl,by decide +kernel,rfl,by decide +kernel,by decide +kernel⟩
theorem okLow{f fG:Addr}{fd fdG:FuncData}(F:Fun K "lowest" "lowest" Z5W f fd)(GG:FnOk P w K mg base CX0 1 fG fdG ["a","b"] spGcd)(mG:mg "common_divisor" = some (.ref fG))(kG:PySem.W.keepIn K (.ref fG)=true)(bG:Binds K fdG ["a","b"] []) :
  FnOk P w K mg base CX0 2 f fd ["numerator","denominator"] spLow:=by
 refine F.ok scLow (fun vs H Q E h=>?_) (fun cdv A outer s H vs Q E hr h=>?_)
 ·obtain⟨n,d,k,rfl,_⟩:=h
  rfl
 ·obtain⟨n,d,k,rfl,hd,hk,hk9,q⟩:=h
  refine⟨_,Z1Y (Z2h (i:=2) scLow.nd rfl (Or.inl rfl) (Z2m GG hr rfl mG kG bG .nil pass0 (Z1V (pv 0) (Z1V (pv 1) Z2a))))
   (Z2c (Z2k (Z4i (Z1V (pe_op Z8O (pv 0) (pv 2)) (Z1V (pe_op Z8O (pv 1) (pv 2)) Z2a))))),?_⟩
  have g0:0<Nat.gcd n d:=Z1U _ hd
  have g1:Nat.gcd n d≤d:=Nat.le_of_dvd hd (Nat.gcd_dvd_right _ _)
  have cd:∀ i:Int,CDivL i ((Nat.gcd n d:Nat):Int):=fun i=>CDivL.of (k:=k) (by omega) (by simp only [Int.natAbs_natCast];omega) hk9
  refine⟨_,rfl,_,rfl,n,d,rfl,?_⟩
  refine⟨_,rfl,_,rfl,_,_,rfl,rfl,cd _,_,rfl,_,rfl,_,_,rfl,rfl,cd _,(by show 2≤sizeLine;decide),fun t ht=>?_⟩
  refine q _ t (RD.Same.new ht) ht ?_
  rw [Z1X]
  rfl
end
def lcScope(b:List Stmt):Scope:=match b.getLast? with
 |some (.Return (some (.ListComp _ _ sc _)) _)=>sc
 |_=>{ kind:=.function,names:=[],isGenerator:=false,isCoroutine:=false }
section
variable{P:Program}{w:World}{K:Z0a}{mg:Str→Option Value}{base:Heap}{CF CW CN CT fF:Addr}
def Z9t(K:Z0a)(CT:Addr):Sp:=fun vs H Q E=>∃ (m:Int)(a:Addr)(xs:List Int),vs=[.int m,.ref a]∧SqL K H a (xs.map V.int)∧((xs.any fun x=>decide (m<x))=false→Q .non H)∧((xs.any fun x=>decide (m<x))=true→E (.ref CT) none H)
theorem scAbove:Z2e ["most","numbers","number"] ["most","numbers"] (Z2b Z3L):=⟨rfl,rfl,rfl,by decide +kernel,rfl,by decide +kernel,by decide +kernel⟩
theorem okAbove{f:Addr}{fd:FuncData}(F:Fun K "refuse_above" "refuse_above" Z3L f fd)(xt:XP K CT)(mT:mg "TooGreat" = some (.ref CT)):FnOk P w K mg base (CXF P w) 2 f fd ["most","numbers"] (Z9t K CT):=by
 refine okX F scAbove (fun vs H Q E h=>?_) (fun cdv A outer s H vs Q E hr h=>?_)
 ·obtain⟨m,a,xs,rfl,_⟩:=h
  rfl
 ·obtain⟨m,a,xs,rfl,hS,k1,k2⟩:=h
  refine⟨_,Z2c (Z3l Z4N rfl (Z4v (pv 1)) (Z2x (i:=2) scAbove.nd rfl (Or.inl rfl))
   (Z2c (ps_if (Z2p op_gt (pv 2) (pv 0) (Z2n _)) (Z2c (Z4U xt rfl rfl rfl mT Z2D)) Z2w))),?_⟩
  refine⟨_,rfl,a,rfl,⟨_,hS⟩,Z5s (K:=K) (a:=a) (xs:=xs.map V.int) (fun i σ H'=>∃ v:Option V,σ=[some (.int m),some (.ref a),v]∧H'=H∧((xs.take i).any fun x=>decide (m<x))=false)
   ⟨none,rfl,rfl,rfl⟩ (fun i σ H' _ ⟨_,_,e,_⟩=>by rw [e];exact hS) ?_ ?_⟩
  ·rintro i y σ H' hi ⟨v,rfl,rfl,hf⟩
   rw [Z0n]at hi
   cases e:xs[i]? with
   |none=>rw [e]at hi;cases hi
   |some z =>
    rw [e]at hi
    cases hi
    refine⟨_,rfl,_,rfl,_,_,rfl,rfl,_,rfl,ite2 (fun hc=>?_) (fun hc=>?_)⟩
    ·exact k2 (List.any_eq_true.mpr ⟨z,Z0z e,hc⟩)
    ·refine⟨_,rfl,rfl,?_⟩
     have hlt:=(Z0p.mp e).1
     rw [Z1q,e,List.any_append,hf]
     simp only [Option.toList,Z1d,List.any_nil,Bool.or_false,Bool.false_or]
     exact Bool.eq_false_iff.mpr hc
  ·rintro σ H' ⟨v,rfl,rfl,hf⟩
   rw [Z0c,Z1r]at hf
   exact k1 hf
def spRow:Sp:=fun vs H Q _=>∃ (a:Addr)(xs:List V),vs=[.ref a]∧H a=some (.lst xs)∧1+xs.length≤sizeLine∧∀ H' t,L2.Same H H'→H t=none→H' t=some (.lst (.int (xs.length:Int)::xs))→Q (.ref t) H'
theorem scRow:Z2e ["numbers"] ["numbers"] (Z2b Z8Q):=⟨rfl,rfl,rfl,by decide +kernel,rfl,by decide +kernel,by decide +kernel⟩
theorem okRow{f:Addr}{fd:FuncData}(F:Fun K "row" "row" Z8Q f fd)(hlen:mg "len" = none):FnOk P w K mg base CX0 1 f fd ["numbers"] spRow:=by
 refine F.ok scRow (fun vs H Q E h=>?_) (fun cdv A outer s H vs Q E hr h=>?_)
 ·obtain⟨a,xs,rfl,_⟩:=h
  rfl
 ·obtain⟨a,xs,rfl,ha,hl,k⟩:=h
  refine⟨_,Z2c (Z2k (pe_op op_cat (Z3n (Z1V (Z2M Z2v (by rfl) hlen PySem.boot_len (Z1V (pv 0) Z2a)) Z2a)) (pv 0))),?_⟩
  refine⟨_,rfl,a,_,rfl,.inl (SqL.of ha),(by show 1≤sizeLine;decide),fun l hn=>?_⟩
  have s1:L2.Same H (upd H l (.lst [.int (xs.length:Int)])):=RD.Same.new hn
  refine⟨_,rfl,l,a,_,_,rfl,rfl,Z1X,s1 _ _ ha,hl,fun t ht=>?_⟩
  exact k _ t (s1.trans (RD.Same.new ht)) (s1.free ht) Z1X
end
section
variable{P:Program}{w:World}{K:Z0a}{mg:Str→Option Value}{base:Heap}{CF CW CN CT fF CA CB CM CQ:Addr}
def fV(x:Nat×Nat):List V:=[.int (x.1:Int),.int (x.2:Int)]
def spFr(K:Z0a)(g:Nat×Nat→Nat→Nat×Nat):Sp:=fun vs H Q _=>∃ (t:Addr)(x:Nat×Nat)(n k:Nat),vs=[.ref t,.int (n:Int)]∧SqT K H t (fV x)∧n<2 ^ 64∧0<n∧0<x.2∧x.2*n<2 ^ k∧k≤9000 ∧
 ∀ H' u,L2.Same H H'→H u=none→H' u=some (.tup (fV (g x n)))→Q (.ref u) H'
def Z5j(x:Nat×Nat)(n:Nat):Nat×Nat:=Fk.low (x.1*n,x.2)
def overN(x:Nat×Nat)(n:Nat):Nat×Nat:=Fk.low (x.1,x.2*n)
theorem scTimes:Z2e ["fraction","number"] ["fraction","number"] (Z2b Z6C):=⟨rfl,rfl,rfl,by decide +kernel,rfl,by decide +kernel,by decide +kernel⟩
theorem okTimes{f fL:Addr}{fd fdL:FuncData}(F:Fun K "times" "times" Z6C f fd)(GL:FnOk P w K mg base CX0 2 fL fdL ["numerator","denominator"] spLow)(mL:mg "lowest" = some (.ref fL))(kL:PySem.W.keepIn K (.ref fL)=true)(bL:Binds K fdL ["numerator","denominator"] []) :
  FnOk P w K mg base CX0 3 f fd ["fraction","number"] (spFr K Z5j):=by
 refine F.ok scTimes (fun vs H Q E h=>?_) (fun cdv A outer s H vs Q E hr h=>?_)
 ·obtain⟨t,x,n,k,rfl,_⟩:=h
  rfl
 ·obtain⟨t,x,n,k,rfl,ht,h1,h0,h2,h3,h4,q⟩:=h
  refine⟨_,Z2c (Z2k (Z2m GL hr rfl mL kL bL .nil pass0 (Z1V (pe_op Z4G (pe_ix Z4l (pv 0) Z2f (fun _ _=>rfl)) (pv 1)) (Z1V (pe_ix Z4l (pv 0) Z2f (fun _ _=>rfl)) Z2a)))),?_⟩
  have hx:x.2≤x.2*n:=Nat.le_mul_of_pos_right _ h0
  refine⟨_,rfl,t,_,_,_,rfl,rfl,ht,rfl,_,rfl,(x.1:Int),(n:Int),rfl,rfl,.inr ⟨by omega,by omega⟩,_,rfl,t,_,_,_,rfl,rfl,ht,rfl,x.1*n,x.2,k,by rw [Int.natCast_mul];rfl,h2,by omega,h4,fun H' u s nu hu=>?_⟩
  exact q H' u s nu hu
theorem scOver:Z2e ["fraction","number"] ["fraction","number"] (Z2b Z7n):=⟨rfl,rfl,rfl,by decide +kernel,rfl,by decide +kernel,by decide +kernel⟩
theorem okOver{f fL:Addr}{fd fdL:FuncData}(F:Fun K "over" "over" Z7n f fd)(GL:FnOk P w K mg base CX0 2 fL fdL ["numerator","denominator"] spLow)(mL:mg "lowest" = some (.ref fL))(kL:PySem.W.keepIn K (.ref fL)=true)(bL:Binds K fdL ["numerator","denominator"] []) :
  FnOk P w K mg base CX0 3 f fd ["fraction","number"] (spFr K overN):=by
 refine F.ok scOver (fun vs H Q E h=>?_) (fun cdv A outer s H vs Q E hr h=>?_)
 ·obtain⟨t,x,n,k,rfl,_⟩:=h
  rfl
 ·obtain⟨t,x,n,k,rfl,ht,h1,h0,h2,h3,h4,q⟩:=h
  refine⟨_,Z2c (Z2k (Z2m GL hr rfl mL kL bL .nil pass0 (Z1V (pe_ix Z4l (pv 0) Z2f (fun _ _=>rfl)) (Z1V (pe_op Z4G (pe_ix Z4l (pv 0) Z2f (fun _ _=>rfl)) (pv 1)) Z2a)))),?_⟩
  refine⟨_,rfl,t,_,_,_,rfl,rfl,ht,rfl,_,rfl,t,_,_,_,rfl,rfl,ht,rfl,_,rfl,(x.2:Int),(n:Int),rfl,rfl,.inr ⟨by omega,by omega⟩,x.1,x.2*n,k,by rw [Int.natCast_mul];rfl,Nat.mul_pos h2 h0,h3,h4,fun H' u s nu hu=>?_⟩
  exact q H' u s nu hu
def NumOk(E:Fk.Equation)(c:List Nat):Prop:=c.length=E.left.length+E.right.length∧∀ x∈c,x≠0
def Z8s(K:Z0a)(CW CA CB CM CQ:Addr):Sp:=fun vs H Q E=>∃ (er ll rl a:Addr)(ls rs:List Addr)(q:Fk.Equation)(c:List Nat),vs=[.ref er,.ref a]∧EqAt CQ CM CA CB H er ll rl ls rs q∧SqL K H a (c.map nV) ∧
 (NumOk q c→Q .non H)∧(¬ NumOk q c→E (.ref CW) none H)
theorem scRefuse:Z2e ["equation","numbers"] ["equation","numbers"] (Z2b Z3s):=⟨rfl,rfl,rfl,by decide +kernel,rfl,by decide +kernel,by decide +kernel⟩
theorem Z8x(c:List Nat):inV (.int 0) (c.map nV)=true↔¬ ∀ x∈c,x≠0:=by
 unfold inV
 rw [List.any_map,List.any_eq_true]
 constructor
 ·rintro⟨x,hx,e⟩ h
  have e':eqV (nV x) (.int 0)=true:=e
  unfold eqV nV at e'
  exact h x hx (by simpa using e')
 ·intro h
  by_cases z:∃ x∈c,x=0
  ·obtain⟨x,hx,rfl⟩:=z
   exact⟨0,hx,rfl⟩
  ·exact absurd (fun x hx e=>z ⟨x,hx,e⟩) h
theorem okRefuse{f:Addr}{fd:FuncData}(F:Fun K "refuse_numbers" "refuse_numbers" Z3s f fd)(T:TQ K CQ)(xw:XP K CW)(mW:mg "WrongNumbers" = some (.ref CW))(hlen:mg "len" = none) :
  FnOk P w K mg base (CXF P w) 2 f fd ["equation","numbers"] (Z8s K CW CA CB CM CQ):=by
 refine okX F scRefuse (fun vs H Q E h=>?_) (fun cdv A outer s H vs Q E hr h=>?_)
 ·obtain⟨er,ll,rl,a,ls,rs,q,c,rfl,_⟩:=h
  rfl
 ·obtain⟨er,ll,rl,a,ls,rs,q,c,rfl,hq,ha,k1,k2⟩:=h
  obtain⟨de,he⟩:=hq.top
  refine⟨_,Z2c (ps_if (PW.pt (pw_or (Z2p op_ne (Z2M Z2v (by rfl) hlen PySem.boot_len (Z1V (pv 1) Z2a)) (pe_op Z2X (Z2M Z2v (by rfl) hlen PySem.boot_len (Z1V (Z2d (pv 0) rfl) Z2a)) (Z2M Z2v (by rfl) hlen PySem.boot_len (Z1V (Z2d (pv 0) rfl) Z2a))) (Z2n _))
   (Z7c (Z2p Zax Z2f (pv 1) rfl)))) (Z2c (Z4U xw rfl rfl rfl mW Z2D)) Z2w),?_⟩
  refine⟨_,rfl,a,_,rfl,.inl ha,_,rfl,er,CQ,de,_,_,rfl,he,T.cl,T.nl,Z7Z _ _,ll,_,rfl,.inl (SqL.of hq.lel),_,rfl,er,CQ,de,_,_,rfl,he,T.cl,T.nr,Z7C _ _,rl,_,rfl,.inl (SqL.of hq.ril),_,_,rfl,rfl,rfl,_,rfl,ite2 (fun hc=>?_) (fun hc=>?_)⟩
  ·refine k2 fun z=>?_
   have h1:=z.1
   rw [←hq.les.1,←hq.ris.1]at h1
   rw [Z0c,Z0c,Z0c,h1]at hc
   simp at hc
  ·refine⟨_,rfl,a,_,rfl,.inl ha,rfl,by rw [List.all_map];exact Z0R.mpr fun _ _=>rfl,_,rfl,ite2 (fun hc2=>?_) (fun hc2=>?_)⟩
   ·exact k2 fun z=>(Z8x c).mp hc2 z.2
   ·refine k1 ⟨?_,?_⟩
    ·rw [←hq.les.1,←hq.ris.1]
     rw [Z0c,Z0c,Z0c]at hc
     by_cases z:c.length=ls.length+rs.length
     ·exact z
     ·exact absurd (by simp;omega) hc
    ·by_cases z:∀ x∈c,x≠0
     ·exact z
     ·exact absurd ((Z8x c).mpr z) hc2
end
def fr(x:Nat×Nat):List Int:=[(x.1:Int),(x.2:Int)]
section
variable{P:Program}{w:World}{K:Z0a}{mg:Str→Option Value}{base:Heap}{CF CW CN CT fF CA CB CM CQ:Addr}
def wantL(q:Fk.Equation)(c:List Nat)(j:Nat)(x:Nat×Nat):List (Nat×Nat):=c.map (Z5j (overN x (c.getD (q.left.length+j) 1)))
def spWant(K:Z0a)(CW CA CB CM CQ:Addr):Sp:=fun vs H Q E=>∃ (er ll rl a t:Addr)(ls rs:List Addr)(q:Fk.Equation)(c:List Nat)(j:Nat)(x:Nat×Nat),vs=[.ref er,.ref a,.int (j:Int),.ref t]∧EqAt CQ CM CA CB H er ll rl ls rs q∧SqL K H a (c.map nV) ∧
 SqT K H t (fV x)∧NumOk q c∧(∀ n∈c,n<2 ^ 64)∧c.length≤100∧0<x.2∧x.2<2 ^ 64 ∧
 (j<q.right.length→∀ H' l ts,L2.Same H H'→H l=none→H' l=some (.lst (ts.map V.ref))→Tups H' ts ((wantL q c j x).map fr)→Q (.ref l) H')∧(¬ j<q.right.length→E (.ref CW) none H)
theorem scWant:Z2e ["equation","numbers","j","amount","far","number"] ["equation","numbers","j","amount"] (Z2b Z3z):=⟨rfl,rfl,rfl,by decide +kernel,rfl,by decide +kernel,by decide +kernel⟩
theorem blkWant:BlkOk ["equation","numbers","j","amount","far","number"] (Z2b Z3z) (lcScope (Z2o Z3z)) [("number",5)]:=⟨rfl,by decide +kernel,by decide +kernel,by decide +kernel,by decide +kernel⟩
theorem Z9F{x:Nat×Nat}(h:0<x.2):0<(Fk.low x).2∧(Fk.low x).2≤x.2:=by
 unfold Fk.low
 have g0:0<Nat.gcd x.1 x.2:=Z1U _ h
 exact⟨Nat.div_pos (Nat.le_of_dvd h (Nat.gcd_dvd_right _ _)) g0,Nat.div_le_self _ _⟩
theorem okWant{f fO fT:Addr}{fd fdO fdT:FuncData}(F:Fun K "want_row" "want_row" Z3z f fd)(T:TQ K CQ)(xw:XP K CW)(mW:mg "WrongNumbers" = some (.ref CW))(hlen:mg "len" = none)
  (GO:FnOk P w K mg base CX0 3 fO fdO ["fraction","number"] (spFr K overN))(mO:mg "over" = some (.ref fO))(kO:PySem.W.keepIn K (.ref fO)=true)(bO:Binds K fdO ["fraction","number"] [])
  (GT:FnOk P w K mg base CX0 3 fT fdT ["fraction","number"] (spFr K Z5j))(mT:mg "times" = some (.ref fT))(kT:PySem.W.keepIn K (.ref fT)=true)(bT:Binds K fdT ["fraction","number"] []) :
  FnOk P w K mg base (CXF P w) 4 f fd ["equation","numbers","j","amount"] (spWant K CW CA CB CM CQ):=by
 refine okX F scWant (fun vs H Q E h=>?_) (fun cdv A outer s H vs Q E hr h=>?_)
 ·obtain⟨er,ll,rl,a,t,ls,rs,q,c,j,x,rfl,_⟩:=h
  rfl
 ·obtain⟨er,ll,rl,a,t,ls,rs,q,c,j,x,rfl,hq,ha,ht,hn,hc,hcl,hx0,hx1,k1,k2⟩:=h
  obtain⟨de,he⟩:=hq.top
  refine⟨_,Z1Y (ps_if (Z2p op_ge (pv 2) (Z2M Z2v (by rfl) hlen PySem.boot_len (Z1V (Z2d (pv 0) rfl) Z2a)) (Z2n _)) (Z2c (Z4U xw rfl rfl rfl mW Z2D)) Z2w)
   (Z1Y (Z2h (i:=4) scWant.nd rfl (Or.inr rfl) (Z2m GO hr rfl mO kO bO .nil pass0 (Z1V (pv 3) (Z1V (pe_ix Z2Z (pv 1) (pe_op Z2X (Z2M Z2v (by rfl) hlen PySem.boot_len (Z1V (Z2d (pv 0) rfl) Z2a)) (pv 2)) (fun _ _=>rfl)) Z2a))))
   (Z2c (Z2k (pe_lc rfl scWant.nd (Z4v (pv 1)) blkWant (fun s H C cl fp=>Z2x (i:=5) scWant.nd rfl (Or.inl rfl)) (fun s H C cl fp=>Z4x)
     (fun s H C cl fp=>Z2m GT hr rfl mT kT bT .nil pass0 (Z1V (pv 4) (Z1V (pv 5) Z2a))))))),?_⟩
  refine⟨_,rfl,_,rfl,er,CQ,de,_,_,rfl,he,T.cl,T.nr,Z7C _ _,rl,_,rfl,.inl (SqL.of hq.ril),_,_,rfl,rfl,_,rfl,ite2 (fun hc1=>?_) (fun hc1=>?_)⟩
  ·refine k2 fun z=>?_
   have:=of_decide_eq_true hc1
   rw [Z0c,hq.ris.1]at this
   omega
  ·have hj:j<q.right.length:=by
    have:¬ (((rs.map V.ref).length:Int)≤(j:Int)):=fun z=>hc1 (decide_eq_true z)
    rw [Z0c,hq.ris.1]at this
    omega
   have hi:q.left.length+j<c.length:=by rw [hn.1];omega
   have hcj:c[q.left.length+j]?=some c[q.left.length+j]:=Z0l hi
   have ed:c.getD (q.left.length+j) 1=c[q.left.length+j]:=by rw [Z0E,hcj];rfl
   have c0:=hn.2 _ (Z0Y hi)
   have c1:=hc _ (Z0Y hi)
   have hk:=k1 hj
   unfold wantL at hk
   rw [ed]at hk
   generalize hcc:c[q.left.length+j]=cj at *
   have b1:x.2*cj<2 ^ 128:=by
    have h1:x.2*cj≤x.2*2 ^ 64:=Nat.mul_le_mul_left _ (by omega)
    have h2:x.2*2 ^ 64<2 ^ 64*2 ^ 64:=Nat.mul_lt_mul_of_pos_right hx1 (by decide)
    have h3:(2:Nat) ^ 64*2 ^ 64=2 ^ 128:=by decide
    omega
   refine⟨_,rfl,_,rfl,_,rfl,er,CQ,de,_,_,rfl,he,T.cl,T.nl,Z7Z _ _,ll,_,rfl,.inl (SqL.of hq.lel),_,rfl,_,_,rfl,rfl,a,_,((q.left.length+j:Nat):Int),nV cj,rfl,?_,ha,?_,t,x,cj,128,rfl,ht,c1,by omega,hx0,b1,by decide,fun H1 u s1 nu hu=>?_⟩
   ·rw [Z0c,hq.les.1,Int.natCast_add]
   ·exact Z3a (by rw [Z0n,hcj];rfl)
   have u1:=Z9F (x:=(x.1,x.2*cj)) (Nat.mul_pos hx0 (by omega))
   refine⟨_,rfl,a,rfl,⟨_,s1.seq ha⟩,fun D hD=>Z9q (K:=K) (a:=a) (xs:=c.map nV) (fun i H2=>L2.Same H1 H2∧∃ ts,H2 D=some (.lst (ts.map V.ref))∧Tups H2 ts (((c.take i).map (Z5j (overN x cj))).map fr))
    ⟨RD.Same.new hD,[],Z1X,Tups.nil⟩ (fun i H2 _ h=>(s1.trans h.1).seq ha) ?_ ?_⟩
   ·rintro i y H2 hi2 ⟨s2,ts,hD2,hT⟩
    rw [Z0n]at hi2
    cases en:c[i]? with
    |none=>rw [en]at hi2;cases hi2
    |some n =>
     rw [en]at hi2
     cases hi2
     have n0:=hn.2 n (Z0z en)
     have n1:=hc n (Z0z en)
     have b2:(overN x cj).2*n<2 ^ 192:=by
      have h0:(overN x cj).2<2 ^ 128:=Nat.lt_of_le_of_lt u1.2 b1
      have h1:(overN x cj).2*n≤(overN x cj).2*2 ^ 64:=Nat.mul_le_mul_left _ (by omega)
      have h2:(overN x cj).2*2 ^ 64<2 ^ 128*2 ^ 64:=Nat.mul_lt_mul_of_pos_right h0 (by decide)
      have h3:(2:Nat) ^ 128*2 ^ 64=2 ^ 192:=by decide
      omega
     refine⟨rfl,_,rfl,_,rfl,u,overN x cj,n,192,rfl,SqT.of (s2 _ _ hu),n1,by omega,u1.1,b2,by decide,fun H3 v s3 nv hv=>?_⟩
     have hD3:=s3 _ _ hD2
     have lt:ts.length=i:=by
      have:=hT.1
      rw [Z0c,Z0c,Z1c]at this
      have:=(Z0p.mp en).1
      omega
     have vD:v≠D:=ne_of hv hD3 (by intro z;cases z)
     have nD:H1 D=none:=hD
     refine⟨_,hD3,by rw [Z0c,lt,sizeLine_eq];have:=(Z0p.mp en).1;omega,fun b o e=>?_,ts++[v],by rw [Z1X,Z0D];rfl,?_⟩
     ·rw [Z1W (Z1Z e nD)];exact s3 _ _ (s2 _ _ e)
     ·rw [Z1q,en,Z0D,Z0D]
      refine Tups.snoc (hT.same fun b xs e=>?_) ?_
      ·rw [Z1W (ne_of e hD2 (by intro z;cases z))];exact s3 _ _ e
      ·rw [Z1W vD];exact hv
   ·rintro H2 ⟨s2,ts,hD2,hT⟩
    rw [Z0c,Z1r]at hT
    exact hk H2 D ts (s1.trans s2) (s1.free hD) hD2 hT
end
section
variable{P:Program}{w:World}{K:Z0a}{mg:Str→Option Value}{base:Heap}{CF CW CN CT fF CA CB CM CQ:Addr}
def Z4F(l:List (Nat×Nat)):Bool:=(l.flatMap fr).any fun x=>decide ((18446744073709551615:Int)<x)
def spFrow(K:Z0a)(CT:Addr):Sp:=fun vs H Q E=>∃ (a:Addr)(ts:List Addr)(l:List (Nat×Nat)),vs=[.ref a]∧H a=some (.lst (ts.map V.ref))∧Tups H ts (l.map fr)∧l.length≤1000 ∧
 (Z4F l=false→∀ H' t,L2.Same H H'→H t=none→H' t=some (.lst (((((l.flatMap fr).length:Nat):Int)::l.flatMap fr).map V.int))→Q (.ref t) H')∧(Z4F l=true→∀ H',L2.Same H H'→E (.ref CT) none H')
theorem scFrow:Z2e ["fractions","numbers","fraction"] ["fractions"] (Z2b Z3J):=⟨rfl,rfl,rfl,by decide +kernel,rfl,by decide +kernel,by decide +kernel⟩
theorem Z5A:∀ l:List (Nat×Nat),(l.flatMap fr).length=2*l.length
 |[]=>rfl
 |x::l=>by rw [List.flatMap_cons,Z0A,Z5A l,Z0s];show 2+_=_;omega
theorem fr_at{H:Hp}{ts:List Addr}{am:List (Nat×Nat)}{i:Nat}{y:V}(hT:Tups H ts (am.map fr))(hi:(ts.map V.ref)[i]?=some y):∃ t x,y=.ref t∧ts[i]?=some t∧am[i]?=some x∧H t=some (.tup (fV x)):=by
 rw [Z0n]at hi
 cases e:ts[i]? with
 |none=>rw [e]at hi;cases hi
 |some t =>
  rw [e]at hi
  cases hi
  have hlt:=(Z0p.mp e).1
  have hla:i<am.length:=by have:=hT.1;rw [Z0c]at this;omega
  refine⟨t,am[i],rfl,rfl,Z0l hla,?_⟩
  exact hT.2 i t (fr am[i]) e (by rw [Z0n,Z0l hla];rfl)
theorem okFrow{f fA fR:Addr}{fd fdA fdR:FuncData}(F:Fun K "fraction_row" "fraction_row" Z3J f fd)(cM:∃ u,mg "MOST_TOLD" = some u∧RelV (.int 18446744073709551615) u)
  (GA:FnOk P w K mg base (CXF P w) 2 fA fdA ["most","numbers"] (Z9t K CT))(mA:mg "refuse_above" = some (.ref fA))(kA:PySem.W.keepIn K (.ref fA)=true)(bA:Binds K fdA ["most","numbers"] [])
  (GR:FnOk P w K mg base CX0 1 fR fdR ["numbers"] spRow)(mR:mg "row" = some (.ref fR))(kR:PySem.W.keepIn K (.ref fR)=true)(bR:Binds K fdR ["numbers"] []) :
  FnOk P w K mg base (CXF P w) 3 f fd ["fractions"] (spFrow K CT):=by
 refine okX F scFrow (fun vs H Q E h=>?_) (fun cdv A outer s H vs Q E hr h=>?_)
 ·obtain⟨a,ts,l,rfl,_⟩:=h
  rfl
 ·obtain⟨a,ts,l,rfl,ha,hT,hl,k1,k2⟩:=h
  have hr1:Room 1 _:=hr.mono (by decide)
  refine⟨_,Z1Y (Z2h (i:=1) scFrow.nd rfl (Or.inl rfl) (Z3n Z2a))
   (Z1Y (Z3l Z4N rfl (Z4v (pv 0)) (Z2x (i:=2) scFrow.nd rfl (Or.inl rfl))
     (Z2c (Z2r (pe_bm Z1g PySem.F.slot_list_extend PySem.F.type_list_extend Zae (pv 1)
       (Z1V (Z3n (Z1V (pe_ix Z4l (pv 2) Z2f (fun _ _=>rfl)) (Z1V (pe_ix Z4l (pv 2) Z2f (fun _ _=>rfl)) Z2a))) Z2a)))))
   (Z1Y (Z2r (Z2m GA hr rfl mA kA bA .nil Z2i (Z1V (pe_gc rfl cM) (Z1V (pv 1) Z2a))))
   (Z2c (Z2k (Z2m GR hr1 rfl mR kR bR .nil pass0 (Z1V (pv 1) Z2a)))))),?_⟩
  refine⟨Z0q _,fun n hn=>?_⟩
  have nn:H n=none:=hn
  have s0:L2.Same H (upd H n (.lst [])):=RD.Same.new hn
  refine⟨_,rfl,a,rfl,⟨_,SqL.of (s0 _ _ ha)⟩,Z5s (K:=K) (a:=a) (xs:=ts.map V.ref) (fun i σ H'=>∃ v:Option V,σ=[some (.ref a),some (.ref n),v]∧L2.Same H H'∧H' n=some (.lst (((l.take i).flatMap fr).map V.int)))
   ⟨none,rfl,s0,Z1X⟩ (fun i σ H' _ ⟨_,_,s,_⟩=>SqL.of (s _ _ ha)) ?_ ?_⟩
  ·rintro i y σ H' hi ⟨v,rfl,s1,h1⟩
   obtain⟨t,x,rfl,e1,e2,e3⟩:=fr_at hT hi
   have ht:=s1 _ _ e3
   have hil:=(Z0p.mp e2).1
   refine⟨_,rfl,.inl ⟨rfl,_,SqL.of h1⟩,_,rfl,t,_,_,_,rfl,rfl,SqT.of ht,rfl,_,rfl,t,_,_,_,rfl,rfl,SqT.of ht,rfl,(by show 2≤sizeLine;decide),fun u hu=>?_⟩
   have nu:H' u=none:=hu
   have s2:L2.Same H' (upd H' u (.lst [.int (x.1:Int),.int (x.2:Int)])):=RD.Same.new hu
   refine⟨n,u,_,_,rfl,rfl,s2 _ _ h1,Z1X,?_,?_⟩
   ·rw [Z0c,Z5A,Z1c,sizeLine_eq]
    show _+2≤_
    omega
   ·refine⟨_,rfl,fun b o e=>?_,?_⟩
    ·rw [Z1W (Z1Z e nn)];exact s2 _ _ (s1 _ _ e)
    ·rw [Z1X,Z1q,e2,List.flatMap_append,Z0D];rfl
  ·rintro σ H' ⟨v,rfl,s1,h1⟩
   rw [Z0c,hT.1,Z0c,Z1r]at h1
   refine⟨_,rfl,_,n,_,rfl,SqL.of h1,fun hf=>?_,fun hf=>k2 hf _ s1⟩
   refine⟨_,rfl,n,_,rfl,h1,?_,fun H2 t s2 nt ht=>?_⟩
   ·rw [Z0c,Z5A,sizeLine_eq];omega
   ·refine k1 hf H2 t (s1.trans s2) (s1.free nt) ?_
    rw [ht,Z0c];rfl
end
end BK
end
section
namespace SP
open RD BK EX
theorem mapN:∀ (c:List Nat),(c.map fun n:Nat=>(n:Int)).mapM (m:=Option) SumNeutral.nat=some c
 |[]=>rfl
 |a::c=>by
  rw [Z0B,List.mapM_cons,mapN c]
  have:SumNeutral.nat (a:Int)=some a:=by
   unfold SumNeutral.nat
   rw [if_neg (by omega)]
   simp
  rw [this]
  rfl
theorem Z6p{n:Nat}:SumNeutral.nat (n:Int)=some n:=by
 unfold SumNeutral.nat
 rw [if_neg (by omega)]
 simp
theorem ZaH{q:Fk.Equation}{c:List Nat}:q.numbers c=true↔NumOk q c:=by
 unfold Fk.Equation.numbers NumOk Fk.Equation.all
 rw [Z0y,beq_iff_eq,Z0A,Z0R]
 refine and_congr_right fun _=>forall_congr' fun x=>forall_congr' fun _=>?_
 rw [decide_eq_true_iff]
 omega
theorem Z5P:∀ l:List (Nat×Nat),SumNeutral.ints (Fk.flatFracs l)=l.flatMap fr
 |[]=>rfl
 |x::l=>by
  have:=Z5P l
  unfold SumNeutral.ints Fk.flatFracs at *
  rw [List.flatMap_cons,List.flatMap_cons,Z0D,this]
  rfl
theorem fit_told(l:List (Nat×Nat)):SumNeutral.told (FkS.fit 64 (Fk.flatFracs l))=if Z4F l=true then[-6]else 0::(((l.flatMap fr).length:Nat):Int)::l.flatMap fr:=by
 have e:((Fk.flatFracs l).any fun x=>decide (2 ^ 64≤x))=Z4F l:=by
  unfold Z4F
  rw [←Z5P]
  unfold SumNeutral.ints
  rw [List.any_map]
  congr 1
  funext x
  have:(2:Nat) ^ 64=18446744073709551616:=by decide
  rw [this]
  show _=decide ((18446744073709551615:Int)<(x:Int))
  exact decide_eq_decide.mpr (by omega)
 unfold FkS.fit
 rw [e]
 by_cases h:Z4F l=true
 ·rw [if_pos h,if_pos h];rfl
 ·rw [if_neg h,if_neg h]
  show 0::(((SumNeutral.ints (Fk.flatFracs l)).length:Nat):Int)::SumNeutral.ints (Fk.flatFracs l)=_
  rw [Z5P]
theorem over_low{a b:Nat}(hb:0<b)(n:Nat):overN (Fk.low (a,b)) n=Fk.low (a,b*n):=by
 unfold overN Fk.low
 have g0:0<Nat.gcd a b:=Z1U _ hb
 obtain⟨a',ha⟩:=Nat.gcd_dvd_left a b
 obtain⟨b',hb'⟩:=Nat.gcd_dvd_right a b
 generalize Nat.gcd a b=g at *
 subst ha
 subst hb'
 show(_ ,_)=(_ ,_)
 rw [Nat.mul_div_cancel_left _ g0,Nat.mul_div_cancel_left _ g0,Nat.mul_assoc,Nat.gcd_mul_left,Nat.mul_div_mul_left _ _ g0,Nat.mul_div_mul_left _ _ g0]
theorem made_eq(u:Nat×Nat):Fk.madeBy u=Z5j u:=by
 funext n
 unfold Fk.madeBy Z5j
 rw [Nat.mul_comm]
end SP
namespace BK
open PySem PySem.Spec PyProof.Rows L2 EX RD LM
abbrev Wx:=(Nat×Nat×Nat)×List Int×List Nat
section
variable{P:Program}{w:World}{K:Z0a}{mg:Str→Option Value}{base:Heap}{CF CR CW CN CT fF CA CB CM CQ:Addr}
def preW(K:Z0a)(x:Wx)(vs:List V)(H:Hp):Prop:=∃ a b,vs=[.int (x.1.1:Int),.int (x.1.2.1:Int),.int (x.1.2.2:Int),.ref a,.ref b]∧SqL K H a (x.2.1.map V.int)∧SqL K H b (x.2.2.map nV)∧(∀ z∈x.2.1,0≤z∧z≤255)∧(∀ n∈x.2.2,n<2 ^ 64)∧x.1.2.2<2 ^ 64
theorem Z9Y{x:Wx}{vs:List V}{H H':Hp}(s:L2.Same H H')(h:preW K x vs H):preW K x vs H':=by
 obtain⟨a,b,e,h1,h2,h3⟩:=h
 exact⟨a,b,e,s.seq h1,s.seq h2,h3⟩
open Classical in
noncomputable def wantA(x:Wx):List Int:=if x.1.2.2=0 then[-1]else match eqM x.2.1 with
 |.error e=>[-5,0,e.1,e.2]
 |.ok E=>if NumOk E x.2.2 then if x.1.1<E.right.length then
   if Z4F (wantL E x.2.2 x.1.1 (Fk.low (x.1.2.1,x.1.2.2)))=true then[-6]else 0::((((wantL E x.2.2 x.1.1 (Fk.low (x.1.2.1,x.1.2.2))).flatMap fr).length:Nat):Int)::(wantL E x.2.2 x.1.1 (Fk.low (x.1.2.1,x.1.2.2))).flatMap fr
  else[-1]else[-1]
theorem scTe:Z2e ["j","numerator","denominator","sides","numbers","read"] ["j","numerator","denominator","sides","numbers"] (Z2b Z4L):=⟨rfl,rfl,rfl,by decide +kernel,rfl,by decide +kernel,by decide +kernel⟩
theorem okTell{f f1 f2 f3 f4 f5:Addr}{fd fd1 fd2 fd3 fd4 fd5:FuncData}(F:Fun K "tell_want" "tell_want" Z4L f fd)(xw:XP K CW)(mW:mg "WrongNumbers" = some (.ref CW))
  (G1:FnOk P w K mg base (CXQ false P w) 13 f1 fd1 ["form"] (spEq K CF CA CB CM CQ))(m1:mg "read_equation" = some (.ref f1))(k1:PySem.W.keepIn K (.ref f1)=true)(b1:Binds K fd1 ["form"] [])
  (G2:FnOk P w K mg base (CXQ false P w) 2 f2 fd2 ["equation","numbers"] (Z8s K CW CA CB CM CQ))(m2:mg "refuse_numbers" = some (.ref f2))(k2:PySem.W.keepIn K (.ref f2)=true)(b2:Binds K fd2 ["equation","numbers"] [])
  (G3:FnOk P w K mg base CX0 2 f3 fd3 ["numerator","denominator"] spLow)(m3:mg "lowest" = some (.ref f3))(k3:PySem.W.keepIn K (.ref f3)=true)(b3:Binds K fd3 ["numerator","denominator"] [])
  (G4:FnOk P w K mg base (CXQ false P w) 4 f4 fd4 ["equation","numbers","j","amount"] (spWant K CW CA CB CM CQ))(m4:mg "want_row" = some (.ref f4))(k4:PySem.W.keepIn K (.ref f4)=true)(b4:Binds K fd4 ["equation","numbers","j","amount"] [])
  (G5:FnOk P w K mg base (CXQ false P w) 3 f5 fd5 ["fractions"] (spFrow K CT))(m5:mg "fraction_row" = some (.ref f5))(k5:PySem.W.keepIn K (.ref f5)=true)(b5:Binds K fd5 ["fractions"] []) :
  FnOk P w K mg base (CXQ false P w) 14 f fd ["j","numerator","denominator","sides","numbers"] (spTl CF CW CN CT (preW K) wantA 5):=by
 refine okX F scTe (fun vs H Q E h=>h.1) (fun cdv A outer s H vs Q E hr h=>?_)
 obtain⟨_,x,⟨a,b,rfl,hA,hB,hb,hc64,hd64⟩,kk1,kk2⟩:=h
 have hr2:Room 2 _:=hr.mono (by decide)
 have hr3:Room 3 _:=hr.mono (by decide)
 have hr4:Room 4 _:=hr.mono (by decide)
 refine⟨_,Z1Y (ps_if (Z2p op_eq (pv 2) Z2f (Z2n _)) (Z2c (Z4U xw rfl rfl rfl mW Z2D)) Z2w)
  (Z1Y (Z2h (i:=5) scTe.nd rfl (Or.inl rfl) (Z2m G1 hr rfl m1 k1 b1 .nil Z2i (Z1V (pv 3) Z2a)))
  (Z1Y (Z2r (Z2m G2 hr2 rfl m2 k2 b2 .nil Z2i (Z1V (pv 5) (Z1V (pv 4) Z2a))))
  (Z2c (Z2k (Z2m G5 hr3 rfl m5 k5 b5 .nil Z2i (Z1V (Z2m G4 hr4 rfl m4 k4 b4 .nil Z2i (Z1V (pv 5) (Z1V (pv 4) (Z1V (pv 0) (Z1V (Z2m G3 hr2 rfl m3 k3 b3 .nil pass0 (Z1V (pv 1) (Z1V (pv 2) Z2a))) Z2a))))) Z2a)))))),?_⟩
 unfold wantA at kk1 kk2
 refine⟨_,rfl,rfl,_,rfl,ite2 (fun hc=>?_) (fun hc=>?_)⟩
 ·have hz:x.1.2.2=0:=by simpa using hc
  rw [if_pos hz]at kk2
  exact kk2 _ _ _ (.inr (.inl ⟨rfl,rfl⟩))
 have hz:x.1.2.2≠0:=fun z=>hc (by simp [z])
 rw [if_neg hz]at kk1 kk2
 refine⟨_,rfl,a,x.2.1,rfl,hA,hb,?_⟩
 cases e1:eqM x.2.1 with
 |error e =>
  rw [e1]at kk2
  exact fun H' dx s1 hd=>kk2 _ _ _ (.inl ⟨rfl,dx,e.1,e.2,0,rfl,hd,rfl⟩)
 |ok E' =>
  rw [e1]at kk1 kk2
  dsimp only at kk1 kk2
  intro H1 er ll rl ls rs s1 q hl8 hr8
  refine⟨_,rfl,_,rfl,er,ll,rl,b,ls,rs,E',x.2.2,rfl,q,s1.seq hB,fun hn=>?_,fun hn=>?_⟩
  ·rw [if_pos hn]at kk1 kk2
   refine⟨_,rfl,_,rfl,_,rfl,_,rfl,_,rfl,x.1.2.1,x.1.2.2,64,rfl,Z1I hz,hd64,by decide,fun H2 t s2 nt ht=>?_⟩
   have lp:=Z9F (x:=(x.1.2.1,x.1.2.2)) (Z1I hz)
   refine⟨er,ll,rl,b,t,ls,rs,E',x.2.2,x.1.1,Fk.low (x.1.2.1,x.1.2.2),rfl,q.same s2,(s1.trans s2).seq hB,SqT.of ht,hn,hc64,by have:=hn.1;omega,lp.1,Nat.lt_of_le_of_lt lp.2 hd64,fun hj H3 l ts s3 nl hl hT=>?_,fun hj=>?_⟩
   ·rw [if_pos hj]at kk1 kk2
    refine⟨l,ts,_,rfl,hl,hT,?_,fun ho H4 v s4 nv hv=>?_,fun ho H4 s4=>?_⟩
    ·unfold wantL
     rw [Z0c,hn.1]
     omega
    ·rw [if_neg (by rw [ho];exact Z0t)]at kk1
     have s5:=(s1.trans s2).trans s3
     exact kk1 H4 v _ (s5.trans s4) (s5.free nv) hv rfl
    ·rw [if_pos ho]at kk2
     exact kk2 _ _ _ (.inr (.inr (.inr ⟨rfl,rfl⟩)))
   ·rw [if_neg hj]at kk2
    exact kk2 _ _ _ (.inr (.inl ⟨rfl,rfl⟩))
  ·rw [if_neg hn]at kk2
   exact kk2 _ _ _ (.inr (.inl ⟨rfl,rfl⟩))
theorem ZaF{x:Wx}(h:x.2.2.length≤100):(wantA x).length≤sizeLine:=by
 unfold wantA
 split
 ·show 1≤sizeLine;decide
 ·split
  ·show 4≤sizeLine;decide
  ·split
   ·split
    ·split
     ·show 1≤sizeLine;decide
     ·rw [Z0s,Z0s,Z5A]
      unfold wantL
      rw [Z0c,sizeLine_eq]
      omega
    ·show 1≤sizeLine;decide
   ·show 1≤sizeLine;decide
theorem nV_map{l:List Int}(h:∀ x∈l,0≤x):(l.map Int.toNat).map nV=l.map V.int:=by
 rw [List.map_map]
 refine Z1T fun x hx=>?_
 show V.int ((x.toNat:Nat):Int)=V.int x
 rw [Z0F (h x hx)]
theorem sq_num{H:Hp}{PT a:Addr}{t1 t2:Array Value}{l:List Int}(h:∀ x∈l,0≤x)(hP:H PT=none)(hs:SqL K H a (l.map V.int)):SqL K (upd (upd H PT (.tbl t1)) PT (.tbl t2)) a ((l.map Int.toNat).map nV):=by
 rw [nV_map h]
 exact sq_tbl hP hs
theorem nat_map{l:List Int}(h:∀ x∈l,0≤x):((l.map Int.toNat).map fun n:Nat=>(n:Int))=l:=by
 rw [List.map_map]
 refine(Z1T fun x hx=>?_).trans (List.map_id l)
 show((x.toNat:Nat):Int)=x
 exact Z0F (h x hx)
theorem toNat_lt{l:List Int}(h:∀ x∈l,0≤x∧x≤18446744073709551615):∀ n∈l.map Int.toNat,n<2 ^ 64:=by
 intro n hn
 obtain⟨x,hx,rfl⟩:=Z0N.mp hn
 have:=h x hx
 have e:(2:Nat) ^ 64=18446744073709551616:=by decide
 rw [e]
 omega
end
end BK
namespace SP
open RD BK EX
theorem ZaI{x:Wx}(h1:Byt x.2.1):PyYqfkea.want (x.1.1:Int) (x.1.2.1:Int) (x.1.2.2:Int) x.2.1 (x.2.2.map fun n:Nat=>(n:Int))=wantA x:=by
 unfold PyYqfkea.want SumNeutral.f
 have hc:SumNeutral.callOf [[11,(x.1.1:Int),(x.1.2.1:Int),(x.1.2.2:Int)],x.2.1,x.2.2.map fun n:Nat=>(n:Int)]=some (.want x.1.1 x.1.2.1 x.1.2.2 (bts x.2.1) x.2.2):=by
  show((SumNeutral.nat (x.1.1:Int)).bind fun j=>(SumNeutral.nat (x.1.2.1:Int)).bind fun a=>(SumNeutral.nat (x.1.2.2:Int)).bind fun b=>(SumNeutral.bytes x.2.1).bind fun p=>((x.2.2.map fun n:Nat=>(n:Int)).mapM SumNeutral.nat).bind fun c=>some (FkS.Call.want j a b p c))=_
  rw [Z9O h1,Z6p,Z6p,Z6p,mapN];rfl
 rw [hc]
 simp only [FkS.answer,FkS.numbered]
 rw [Z9M h1]
 unfold wantA
 by_cases hz:x.1.2.2=0
 ·rw [if_pos hz,if_pos hz];rfl
 rw [if_neg hz,if_neg hz]
 cases e:eqM x.2.1 with
 |error e' =>
  have:=eqM_nn e
  simp only [FkS.judged,SumNeutral.told,tf]
  simp only [List.cons.injEq,true_and,and_true]
  omega
 |ok E =>
  simp only [FkS.judged]
  by_cases hn:NumOk E x.2.2
  ·rw [if_pos hn,if_pos (ZaH.mpr hn)]
   by_cases hj:x.1.1<E.right.length
   ·rw [if_pos hj,if_pos hj,fit_told]
    have e:E.want x.2.2 x.1.1 (x.1.2.1,x.1.2.2)=wantL E x.2.2 x.1.1 (Fk.low (x.1.2.1,x.1.2.2)):=by
     unfold Fk.Equation.want wantL
     rw [over_low (Z1I hz),←made_eq]
    rw [e]
   ·rw [if_neg hj,if_neg hj];rfl
  ·rw [if_neg hn,if_neg (fun z=>hn (ZaH.mp z))];rfl
end SP
namespace BK
open PySem PySem.Spec PyProof.Rows L2 EX RD LM
section
variable{P:Program}{w:World}{K:Z0a}{mg:Str→Option Value}{base:Heap}{CF CR CW CN CT fF CA CB CM:Addr}
def wantF(x:Wx):List Int:=PyYqfkea.want (x.1.1:Int) (x.1.2.1:Int) (x.1.2.2:Int) x.2.1 (x.2.2.map fun n:Nat=>(n:Int))
theorem dsWant:Z8P Z3b ["j","numerator","denominator","sides","numbers"] ["j","numerator","denominator","sides","numbers"] [0,1,2,3,4]:=⟨⟨rfl,rfl,rfl,by decide +kernel,rfl,by decide +kernel,by decide +kernel⟩,⟨rfl,rfl,rfl,by decide +kernel,by decide +kernel⟩,⟨_,_,_,rfl⟩,fun _=>rfl,by decide +kernel,
 fun j y h=>match j,h with |0,h=>⟨0,rfl,h⟩ |1,h=>⟨1,rfl,h⟩ |2,h=>⟨2,rfl,h⟩ |3,h=>⟨3,rfl,h⟩ |4,h=>⟨4,rfl,h⟩ |j+5,h=>by simp at h,rfl,by decide +kernel,rfl,fun _ _ _ _ _=>rfl⟩
theorem okLam{f fB:Addr}{fd fdB:FuncData}{qual:Str}{cl:List (Str×Addr)}{cd:Value}{vs:List V}(L:Lam base f fd qual (Z4s Z3b) (Z5c Z3b) (Z3g Z3b) cl cd ["j","numerator","denominator","sides","numbers"] vs)
  (GB:FnOk P w K mg base (CXQ false P w) 14 fB fdB ["j","numerator","denominator","sides","numbers"] (spTl CF CW CN CT (preW K) wantA 5))(mB:mg "tell_want" = some (.ref fB))(kB:PySem.W.keepIn K (.ref fB)=true)(bB:Binds K fdB ["j","numerator","denominator","sides","numbers"] []) :
  FnOk P w K mg base (CXQ false P w) 15 f fd [] (spL CF CW CN CT (preW K) wantF vs):=by
 refine okL L dsWant.ls (fun vs H Q E h=>by rw [h.1];rfl) fun A outer s H Q E hr h=>?_
 obtain⟨_,x,⟨a,b,rfl,hx⟩,k1,k2⟩:=h
 have e:wantF x=wantA x:=SP.ZaI (x:=x) hx.2.2.1
 exact⟨_,Z2m GB hr rfl mB kB bB .nil Z9X (Z1V (pv 0) (Z1V (pv 1) (Z1V (pv 2) (Z1V (pv 3) (Z1V (pv 4) Z2a))))),⟨_,rfl,_,rfl,_,rfl,_,rfl,_,rfl,rfl,x,⟨a,b,rfl,hx⟩,fun H' t xs s n h q=>k1 H' t xs s n h (e.trans q),fun cls d H' r=>k2 cls d H' (by rw [e];exact r)⟩⟩
end
end BK
end
section
namespace BK
open PySem PySem.Spec PyProof.Rows L2 EX RD LM
open PySem.W (Codec)
abbrev XGf(K:Z0a)(x:Str)(st:Stmt):Prop:=∃ f fd,PySem.W.nsIn K mainGlobals x=some (some (.ref f))∧Fun K x x st f fd
abbrev XMf(K:Z0a)(C:Addr)(x q:Str)(st:Stmt):Prop:=∃ f fd,PySem.W.findIn K (.ref C) x=some (some (.ref f))∧PySem.W.isFn K (.ref f)=true∧Fun K x q st f fd
abbrev XCl(K:Z0a)(x:Str)(C:Addr):Prop:=PySem.W.nsIn K mainGlobals x=some (some (.ref C))∧(PySem.W.plainGet K C Str.empty=true∧PySem.W.hasDictIn K C=true∧PySem.W.plainOver K C=true∧PySem.W.findIn K (.ref C) "__setattr__" = some (some (.builtin "object.__setattr__")))∧PySem.W.makesIn K C=true∧PySem.W.keepIn K (.ref C)=true
abbrev XCi(K:Z0a)(x:Str)(n:Int):Prop:=∃ t,PySem.W.nsIn K mainGlobals x=some (some (.int n t))
theorem XCi.v{K:Z0a}{h:Heap}{mg:Str→Option Value}{x:Str}{n:Int}(X:K.In h)(G:h.Ns mainGlobals mg)(c:XCi K x n):∃ u,mg x=some u∧RelV (.int n) u:=let ⟨t,c⟩:=c;⟨_,Z0j X G c,t,rfl⟩
theorem gk{K:Z0a}{x:Str}{st:Stmt}(f:Addr)(m:Str)(t:Tok)(c:Addr)(h:(PySem.W.nsIn K mainGlobals x,K.lookup f,PySem.W.codeIn K (.ref c) x,PySem.W.keepIn K (.ref f))=(some (some (.ref f)),some ⟨.type "function",none,.func (PySem.W.fnOf x x (Z2P st) (Z2o st) (Z2b st) .none .none .none (.str m t) none (.ref c) .none),#[]⟩,true,true)):XGf K x st :=
 ⟨f,_,congrArg Prod.fst h,⟨⟨_,_,_,_,_,_,_,_,_,rfl,congrArg (·.2.1) h,congrArg (·.2.2.1) h⟩,congrArg (·.2.2.2) h⟩⟩
theorem mk{K:Z0a}{C:Addr}{x q:Str}{st:Stmt}(f:Addr)(m:Str)(t:Tok)(c:Addr)(h:(PySem.W.findIn K (.ref C) x,K.lookup f,PySem.W.codeIn K (.ref c) q,PySem.W.keepIn K (.ref f),PySem.W.isFn K (.ref f))=(some (some (.ref f)),some ⟨.type "function",none,.func (PySem.W.fnOf x q (Z2P st) (Z2o st) (Z2b st) .none .none .none (.str m t) none (.ref c) .none),#[]⟩,true,true,true)):XMf K C x q st :=
 ⟨f,_,congrArg Prod.fst h,congrArg (·.2.2.2.2) h,⟨⟨_,_,_,_,_,_,_,_,_,rfl,congrArg (·.2.1) h,congrArg (·.2.2.1) h⟩,congrArg (·.2.2.2.1) h⟩⟩
theorem ck{K:Z0a}{C:Addr}{x:Str}(h:(PySem.W.nsIn K mainGlobals x,(PySem.W.plainGet K C Str.empty&&PySem.W.hasDictIn K C&&PySem.W.plainOver K C&&PySem.W.makesIn K C&&PySem.W.keepIn K (.ref C)),PySem.W.findIn K (.ref C) "__setattr__")=(some (some (.ref C)),true,some (some (.builtin "object.__setattr__")))):XCl K x C:=by
 have a:=congrArg (fun x=>x.2.1) h
 simp only [Z0y]at a
 exact⟨congrArg Prod.fst h,⟨a.1.1.1.1,a.1.1.1.2,a.1.1.2,congrArg (·.2.2) h⟩,a.1.2,a.2⟩
theorem n1{α:Type}{p:List α→Prop}(h:∀ a,p [a])(us:List α)(e:us.length=1):p us:=match us,e with |[a],_=>h a
theorem n2{α:Type}{p:List α→Prop}(h:∀ a b,p [a,b])(us:List α)(e:us.length=2):p us:=match us,e with |[a,b],_=>h a b
theorem n3{α:Type}{p:List α→Prop}(h:∀ a b c,p [a,b,c])(us:List α)(e:us.length=3):p us:=match us,e with |[a,b,c],_=>h a b c
theorem n4{α:Type}{p:List α→Prop}(h:∀ a b c d,p [a,b,c,d])(us:List α)(e:us.length=4):p us:=match us,e with |[a,b,c,d],_=>h a b c d
theorem n5{α:Type}{p:List α→Prop}(h:∀ a b c d e,p [a,b,c,d,e])(us:List α)(e:us.length=5):p us:=match us,e with |[a,b,c,d,e],_=>h a b c d e
theorem n6{α:Type}{p:List α→Prop}(h:∀ a b c d e f,p [a,b,c,d,e,f])(us:List α)(e:us.length=6):p us:=match us,e with |[a,b,c,d,e,f],_=>h a b c d e f
theorem sw_all(env:Env)(p1 p2 p3 p4:Pos)(f:Str):swapsWith (.Name f p3) (some (.Attribute (.Name "self" p1) f p2)) p4.line env=pure false:=by rfl
theorem noX(f:Str)(h:f = "rule"∨f = "place"∨f = "which"):typeLookup (.type "Exception") f=pure none:=by
 rcases h with rfl |rfl |rfl
 ·rw [typeLookup_type,builtinLookup_eq_fast];kernel_rfl
 ·rw [typeLookup_type,builtinLookup_eq_fast];kernel_rfl
 ·rw [typeLookup_type,builtinLookup_eq_fast];kernel_rfl
theorem scFI:Z2e ["self","rule","place","which"] ["self","rule","place","which"] (Z2b Z2U):=⟨rfl,rfl,rfl,by decide +kernel,rfl,by decide +kernel,by decide +kernel⟩
theorem bodyFI:Z6u "rule" "place" "which" (Z2o Z2U):=⟨_,_,_,_,_,_,_,_,_,_,_,_,rfl⟩
set_option maxHeartbeats 0 in
theorem all_mk{P:Program}{w:World}{K:Z0a}{h:Heap}{mg:Str→Option Value}{fa c0 PT yab yai yaf yaj yac yak yaa yad yae yal yam yag yaL yaz yaA yaB yaC:Addr}(X:K.In h)(G:h.Ns mainGlobals mg)(hfa:mg "want" = some (.ref fa))
  {ybP ybQ:Str}{yah:Addr}{ybR:List Value}{ybS:List Str}{ybT:List Value}{ybU:Bool}{ybV:Option Bool}{ybW:Option Addr}{ybX ybY ybZ yca ycb:Option Value}
  {ycc ycd:Str}{yau:Addr}{yce:List Value}{ycf:List Str}{ycg:List Value}{ych:Bool}{yci:Option Bool}{ycj:Option Addr}{yck ycl ycm ycn yco:Option Value}
  {ycp ycq:Str}{yav:Addr}{ycr:List Value}{ycs:List Str}{yct:List Value}{ycu:Bool}{ycv:Option Bool}{ycw:Option Addr}{ycx ycy ycz ycA ycB:Option Value}
  {ycC ycD:Str}{yaw:Addr}{ycE:List Value}{ycF:List Str}{ycG:List Value}{ycH:Bool}{ycI:Option Bool}{ycJ:Option Addr}{ycK ycL ycM ycN ycO:Option Value}
  {ycP ycQ:Option Addr}{ycR:Array (Option Value)}{ycS ycT ycU ycV yaM ycW:Value}
  {ycX:Option Addr}{ycY:Nat}{ycZ:Array (Option Value)}{yaN:Tok}
  {yda yaO:Option Addr}{ydb:Array (Option Value)}{ydc yaP yaQ yaR yaD yaS:Value}
  {ydd:Option Addr}{yde:Nat}{ydf:Array (Option Value)}{ydg ydh ydi ydj:Tok}
  {ydk:Option Addr}{ydl:Nat}{ydm:Array (Option Value)}{ydn ydo:Tok}
  {ydp:Option Addr}{ydq:Nat}{ydr:Array (Option Value)}{yds ydt ydu ydv:Tok}
  (yet:PySem.W.nsIn K mainGlobals "Fault" = some (some (.ref yab)))
  (yeu:K.lookup yab=some (excClassObj ybP ybQ yab yah ybR bmX true ybS ybT ybU ybV ybW ybX ybY ybZ yca ycb "Exception.__new__"))
  (yev:PySem.W.nsOkIn K yah=true)
  (yew:PySem.W.keepIn K (.ref yab)=true)
  (yex:PySem.W.nsIn K yah "__init__" = some (some (.ref yag)))
  (yey:PySem.W.nsIn K yah "__setattr__" = some none)
  (yez:PySem.W.nsIn K yah "__getattribute__" = some none)
  (yeA:PySem.W.nsIn K yah "__getattr__" = some none)
  (yeB:PySem.W.nsIn K yah "rule" = some none)
  (ydw:PySem.W.findIn K (.ref yab) "rule" = some none)
  (yeC:PySem.W.nsIn K yah "place" = some none)
  (ydx:PySem.W.findIn K (.ref yab) "place" = some none)
  (yeD:PySem.W.nsIn K yah "which" = some none)
  (yeE:PySem.W.findIn K (.ref yab) "which" = some none)
  (yeF:PySem.W.findIn K (.ref yab) "__getattribute__" = some (some (.builtin "BaseException.__getattribute__")))
  (yeG:PySem.W.findIn K (.ref yab) "__getattr__" = some none)
  (yeH:PySem.W.hasDictIn K yab=true)
  (yeI:PySem.W.mroIn K yab (.type "BaseException")=some true)
  (yeJ:PySem.W.nsIn K mainGlobals "WrongNumbers" = some (some (.ref yai)))
  (yeK:K.lookup yai=some (excClassObj ycc ycd yai yau yce bmX true ycf ycg ych yci ycj yck ycl ycm ycn yco "Exception.__new__"))
  (yeL:PySem.W.nsOkIn K yau=true)
  (yeM:PySem.W.keepIn K (.ref yai)=true)
  (yeN:PySem.W.nsIn K yau "__init__" = some none)
  (yeO:PySem.W.nsIn K mainGlobals "NotThere" = some (some (.ref yaf)))
  (yeP:K.lookup yaf=some (excClassObj ycp ycq yaf yav ycr bmX true ycs yct ycu ycv ycw ycx ycy ycz ycA ycB "Exception.__new__"))
  (yeQ:PySem.W.nsOkIn K yav=true)
  (yeR:PySem.W.keepIn K (.ref yaf)=true)
  (yeS:PySem.W.nsIn K yav "__init__" = some none)
  (yeT:PySem.W.nsIn K mainGlobals "TooGreat" = some (some (.ref yaj)))
  (yeU:K.lookup yaj=some (excClassObj ycC ycD yaj yaw ycE bmX true ycF ycG ycH ycI ycJ ycK ycL ycM ycN ycO "Exception.__new__"))
  (yeV:PySem.W.nsOkIn K yaw=true)
  (yeW:PySem.W.keepIn K (.ref yaj)=true)
  (yeX:PySem.W.nsIn K yaw "__init__" = some none)
  (yeY:yai≠yab)
  (yeZ:yaf≠yab)
  (yfa:yaf≠yai)
  (yfb:yaj≠yab)
  (yfc:yaj≠yai)
  (yfd:yaj≠yaf)
  (yan:XCl K "Reader" yac)
  (yfe:NoAttr K yac "form")
  (yff:NoAttr K yac "place")
  (yao:XCl K "Way" yak)
  (yfg:NoAttr K yak "bond")
  (yfh:NoAttr K yak "other")
  (yfi:NoAttr K yak "rooms")
  (yap:XCl K "Search" yaa)
  (yfj:NoAttr K yaa "ways")
  (yfk:NoAttr K yaa "cut")
  (yfl:NoAttr K yaa "bases")
  (yfm:NoAttr K yaa "came_by")
  (yfn:NoAttr K yaa "came_from")
  (yfo:NoAttr K yaa "turns")
  (yfp:NoAttr K yaa "waiting")
  (yaq:XCl K "Atom" yad)
  (yfq:NoAttr K yad "element")
  (yfr:NoAttr K yad "isotope")
  (yfs:NoAttr K yad "charge")
  (yft:NoAttr K yad "hydrogens")
  (yfu:NoAttr K yad "hand")
  (yar:XCl K "Bond" yae)
  (yfv:NoAttr K yae "a")
  (yfw:NoAttr K yae "b")
  (yfx:NoAttr K yae "order")
  (yfy:NoAttr K yae "side")
  (yas:XCl K "Molecule" yal)
  (yfz:NoAttr K yal "atoms")
  (yfA:NoAttr K yal "bonds")
  (yat:XCl K "Equation" yam)
  (yfB:NoAttr K yam "left")
  (yfC:NoAttr K yam "right")
  (yfD:PySem.W.findIn K (.ref yab) "__init__" = some (some (.ref yag)))
  (ydy:PySem.W.isFn K (.ref yag)=true)
  (yfE:K.lookup yag=some ⟨ycS,ycP,.func (PySem.W.fnOf "__init__" "Fault.__init__" (Z2P Z2U) (Z2o Z2U) (Z2b Z2U) (.ref yaL) ycT ycU ycV ycQ yaM ycW),ycR⟩)
  (ydz:K.lookup yaL=some ⟨.type "tuple",ycX,.seq #[.int 0 yaN] ycY,ycZ⟩)
  (yfF:PySem.W.codeIn K yaM "Fault.__init__" = true)
  (yfG:PySem.W.keepIn K (.ref yag)=true)
  (yfH:XGf K "common_divisor" Z3r)
  (yfI:XGf K "lowest" Z5W)
  (yfJ:XGf K "times" Z6C)
  (yfK:XGf K "over" Z7n)
  (yfL:XGf K "refuse_above" Z3L)
  (yfM:XGf K "want_row" Z3z)
  (yfN:XGf K "refuse_numbers" Z3s)
  (yfO:XMf K yac "__init__" "Reader.__init__" Z4c)
  (yfP:XMf K yac "expect_mark" "Reader.expect_mark" Z3d)
  (yfQ:XMf K yac "take" "Reader.take" Z3V)
  (yfR:XMf K yac "number" "Reader.number" Z3F)
  (yfS:XMf K yac "finish" "Reader.finish" Z3B)
  (yfT:XMf K yak "__init__" "Way.__init__" Z4W)
  (yfU:XMf K yaa "__init__" "Search.__init__" Z3S)
  (yfV:XMf K yaa "reach" "Search.reach" Z3O)
  (yfW:XMf K yaa "allow" "Search.allow" Z3Q)
  (yfX:XMf K yaa "comes_back" "Search.comes_back" Z3j)
  (yfY:XMf K yaa "goes_on" "Search.goes_on" Z3v)
  (yfZ:XMf K yaa "closes" "Search.closes" Z3G)
  (yga:XMf K yaa "base_of" "Search.base_of" Z3u)
  (ygb:XMf K yaa "base_before" "Search.base_before" Z3c)
  (ygc:XMf K yaa "meeting_of" "Search.meeting_of" Z3i)
  (ygd:XMf K yaa "fold" "Search.fold" Z3Z)
  (yge:XMf K yaa "allow_both" "Search.allow_both" Z3f)
  (ygf:XGf K "ways_at" Z3N)
  (ygg:XGf K "is_fixed_double" Z3o)
  (ygh:XGf K "can_go" Z5Q)
  (ygi:XMf K yad "__init__" "Atom.__init__" Z4E)
  (ygj:XMf K yae "__init__" "Bond.__init__" Z4D)
  (ygk:XMf K yal "__init__" "Molecule.__init__" Z3C)
  (ygl:XGf K "read_molecule" Z3A)
  (ygm:XGf K "read_parts" Z3k)
  (ygn:XGf K "read_atom" Z4O)
  (ygo:XGf K "read_bond" Z4H)
  (ygp:XGf K "neighbour_counts" Z2E)
  (ygq:XGf K "refuse_wrong_hands" Z2Y)
  (ygr:XGf K "may_have_hand" Z3H)
  (ygs:XGf K "refuse_wrong_sides" Z3e)
  (ygt:XGf K "may_have_side" Z3D)
  (ygu:XGf K "may_end_a_side" Z3t)
  (ygv:XMf K yam "__init__" "Equation.__init__" Z3E)
  (ygw:XGf K "read_equation" Z2y)
  (ygx:XGf K "read_member" Z3U)
  (yaT:PySem.W.nsIn K mainGlobals "want" = some (some (.ref yaz)))
  (ydA:K.lookup yaz=some ⟨ydc,yda,.func (PySem.W.fnOf "want" "want" (Z2P Z3b) (Z2o Z3b) (Z2b Z3b) .none yaP yaQ yaR yaO yaD yaS),ydb⟩)
  (ygy:PySem.W.codeIn K yaD "want" = true)
  (ygz:PySem.W.keepIn K (.ref yaz)=true)
  (ygA:XGf K "tell_want" Z4L)
  (ygB:XGf K "answer" Z5G)
  (ygC:XGf K "row" Z8Q)
  (ygD:XGf K "fraction_row" Z3J)
  (ygE:XCi K "MOST_TOLD" 18446744073709551615)
  (ygF:XCi K "WRONG_MARK" 1)
  (ygG:XCi K "OUT_OF_BOUNDS" 2)
  (ygH:XCi K "NOT_BEHIND" 3)
  (ygI:XCi K "WRONG_HAND" 4)
  (ygJ:XCi K "ENDS_EARLY" 5)
  (ygK:XCi K "WRONG_SIDE" 6)
  (ygL:XCi K "LEFT_OVER" 7)
  (ygM:XCi K "MOST_ELEMENT" 118)
  (ygN:XCi K "MOST_ISOTOPE" 500)
  (ygO:XCi K "UP" 1)
  (ygP:XCi K "DOWN" (-1))
  (ygQ:XCi K "MIDDLE" (-1))
  (ygR:XCi K "MOST_ATOMS" 128)
  (ygS:XCi K "MOST_BONDS" 192)
  (ygT:XCi K "MOST_CHARGE" 4)
  (ygU:XCi K "MOST_HYDROGENS" 7)
  (ygV:XCi K "MOST_HAND" 2)
  (ygW:XCi K "MOST_ORDER" 3)
  (ygX:XCi K "MOST_SIDE" 2)
  (ygY:XCi K "HEAD_SIZE" 6)
  (ygZ:XCi K "ATOM_SIZE" 6)
  (yha:XCi K "BOND_SIZE" 4)
  (yhb:XCi K "MOST_ON_A_SIDE" 8)
  (yhc:XCi K "MOST_SIZE" 65535)
  (yhd:XCi K "WITHIN_MOLECULE" 16)
  (yhe:XCi K "ANSWERED" 0)
  (yhf:XCi K "WRONG_NUMBERS" (-1))
  (yhg:XCi K "NOT_THERE" (-2))
  (yhh:XCi K "FAULTY_FORM" (-5))
  (yhi:XCi K "TOO_GREAT" (-6))
  (yhj:PySem.W.nsIn K mainGlobals "MARK_molecules" = some (some (.ref yaA)))
  (yhk:K.lookup yaA=some ⟨.type "tuple",ydd,.seq #[.int 70 ydg,.int 75 ydh,.int 77 ydi,.int 49 ydj] yde,ydf⟩)
  (yhl:PySem.W.nsIn K mainGlobals "BEFORE_ALL" = some (some (.ref yaB)))
  (yhm:K.lookup yaB=some ⟨.type "tuple",ydk,.seq #[.int 0 ydn,.int 0 ydo] ydl,ydm⟩)
  (yhn:PySem.W.nsIn K mainGlobals "MARK_equations" = some (some (.ref yaC)))
  (yho:K.lookup yaC=some ⟨.type "tuple",ydp,.seq #[.int 70 yds,.int 75 ydt,.int 81 ydu,.int 49 ydv] ydq,ydr⟩)
  (yhp:PySem.W.nsIn K mainGlobals "enumerate" = some none)
  (yhq:PySem.W.nsIn K mainGlobals "len" = some none)
  (yhr:PySem.W.nsIn K mainGlobals "range" = some none)
  (yhs:PySem.W.nsIn K mainGlobals "reversed" = some none)
  (ht:PySem.W.tabIn K "want" = some (c0,PT))
  : ∃ (fd:FuncData)(c PT:Addr),PySem.W.tabIn K "want" = some (c,PT)∧(∀ (s:Shared)(us:List Value),us.length=(["j","numerator","denominator","sides","numbers"]:List Str).length→BindsTo s fd ⟨us,[]⟩ ((["j","numerator","denominator","sides","numbers"]:List Str).zip us)) ∧
   ∀ base:Heap,K.In base→base.Ns mainGlobals mg→PySem.W.CodeHd base c PT→base.BuiltinsAt mg PT→FnOk P w K mg base CX0 17 fa fd ["j","numerator","denominator","sides","numbers"] (spD PT [0,1,2,3,4] (preW K) wantF):=by
 have e:=hfa.symm.trans (Z0j X G yaT)
 cases e
 have ylV:Meth K yab "__init__" yag:=⟨yfD,ydy,yfG⟩
 obtain⟨ylW,ylX,yht,yaU⟩:=yfH
 have yhu:=yaU.kp
 have yhv:=yaU.binds (ps:=["a","b"]) fun _ _ _ _ _ _=>n2 fun _ _=>rfl
 have yhw:=Z0j X G yht
 obtain⟨ylY,ylZ,yhx,yaV⟩:=yfI
 have yaW:=yaV.kp
 have yaX:=yaV.binds (ps:=["numerator","denominator"]) fun _ _ _ _ _ _=>n2 fun _ _=>rfl
 have yaY:=Z0j X G yhx
 obtain⟨yma,ymb,yhy,yaZ⟩:=yfJ
 have yhz:=yaZ.kp
 have yhA:=yaZ.binds (ps:=["fraction","number"]) fun _ _ _ _ _ _=>n2 fun _ _=>rfl
 have yhB:=Z0j X G yhy
 obtain⟨ymc,ymd,yhC,yba⟩:=yfK
 have yhD:=yba.kp
 have yhE:=yba.binds (ps:=["fraction","number"]) fun _ _ _ _ _ _=>n2 fun _ _=>rfl
 have yhF:=Z0j X G yhC
 obtain⟨yme,ymf,yhG,ybb⟩:=yfL
 have yhH:=ybb.kp
 have yhI:=ybb.binds (ps:=["most","numbers"]) fun _ _ _ _ _ _=>n2 fun _ _=>rfl
 have yhJ:=Z0j X G yhG
 obtain⟨ymg,ymh,yhK,ybc⟩:=yfM
 have yhL:=ybc.kp
 have yhM:=ybc.binds (ps:=["equation","numbers","j","amount"]) fun _ _ _ _ _ _=>n4 fun _ _ _ _=>rfl
 have yhN:=Z0j X G yhK
 obtain⟨ymi,ymj,yhO,ybd⟩:=yfN
 have yhP:=ybd.kp
 have yhQ:=ybd.binds (ps:=["equation","numbers"]) fun _ _ _ _ _ _=>n2 fun _ _=>rfl
 have yhR:=Z0j X G yhO
 obtain⟨ydB,ymk,ydC,ydD,yaE⟩:=yfO
 have yhS:=yaE.kp
 have ydE:=yaE.binds (ps:=["self","form"]) fun _ _ _ _ _ _=>n2 fun _ _=>rfl
 have yml:Meth K yac "__init__" ydB:=⟨ydC,ydD,yhS⟩
 obtain⟨yhT,ymm,yhU,yhV,yaF⟩:=yfP
 have yhW:=yaF.kp
 have ydF:=yaF.binds (ps:=["self","mark"]) fun _ _ _ _ _ _=>n2 fun _ _=>rfl
 have ydG:Meth K yac "expect_mark" yhT:=⟨yhU,yhV,yhW⟩
 obtain⟨yhX,ymn,yhY,yhZ,yaG⟩:=yfQ
 have yia:=yaG.kp
 have ydH:=yaG.binds (ps:=["self","size"]) fun _ _ _ _ _ _=>n2 fun _ _=>rfl
 have ydI:Meth K yac "take" yhX:=⟨yhY,yhZ,yia⟩
 obtain⟨yib,ymo,yic,yid,ybe⟩:=yfR
 have yie:=ybe.kp
 have yax:=ybe.binds (ps:=["self","size","least","most"]) fun _ _ _ _ _ _=>n4 fun _ _ _ _=>rfl
 have yay:Meth K yac "number" yib:=⟨yic,yid,yie⟩
 obtain⟨yif,ymp,yig,yih,yaH⟩:=yfS
 have yii:=yaH.kp
 have ydJ:=yaH.binds (ps:=["self"]) fun _ _ _ _ _ _=>n1 fun _=>rfl
 have ydK:Meth K yac "finish" yif:=⟨yig,yih,yii⟩
 obtain⟨ydL,ymq,ydM,ydN,ybf⟩:=yfT
 have yij:=ybf.kp
 have yik:=ybf.binds (ps:=["self","bond","other","order"]) fun _ _ _ _ _ _=>n4 fun _ _ _ _=>rfl
 have ymr:Meth K yak "__init__" ydL:=⟨ydM,ydN,yij⟩
 obtain⟨ydO,yms,ydP,ydQ,ybg⟩:=yfU
 have yil:=ybg.kp
 have yim:=ybg.binds (ps:=["self","ways","cut"]) fun _ _ _ _ _ _=>n3 fun _ _ _=>rfl
 have ymt:Meth K yaa "__init__" ydO:=⟨ydP,ydQ,yil⟩
 obtain⟨yin,ymu,yio,yip,ybh⟩:=yfV
 have yiq:=ybh.kp
 have ydR:=ybh.binds (ps:=["self","atom","before","bond","turn"]) fun _ _ _ _ _ _=>n5 fun _ _ _ _ _=>rfl
 have ydS:Meth K yaa "reach" yin:=⟨yio,yip,yiq⟩
 obtain⟨yir,ymv,yis,yit,ybi⟩:=yfW
 have yiu:=ybi.kp
 have ydT:=ybi.binds (ps:=["self","atom","turn"]) fun _ _ _ _ _ _=>n3 fun _ _ _=>rfl
 have ydU:Meth K yaa "allow" yir:=⟨yis,yit,yiu⟩
 obtain⟨yiv,ymw,yiw,yix,ybj⟩:=yfX
 have yiy:=ybj.kp
 have yiz:=ybj.binds (ps:=["self"]) fun _ _ _ _ _ _=>n1 fun _=>rfl
 have yiA:Meth K yaa "comes_back" yiv:=⟨yiw,yix,yiy⟩
 obtain⟨yiB,ymx,yiC,yiD,ybk⟩:=yfY
 have yiE:=ybk.kp
 have yiF:=ybk.binds (ps:=["self","atom","turn"]) fun _ _ _ _ _ _=>n3 fun _ _ _=>rfl
 have yiG:Meth K yaa "goes_on" yiB:=⟨yiC,yiD,yiE⟩
 obtain⟨yiH,ymy,yiI,yiJ,ybl⟩:=yfZ
 have yiK:=ybl.kp
 have yiL:=ybl.binds (ps:=["self","atom","turn","way"]) fun _ _ _ _ _ _=>n4 fun _ _ _ _=>rfl
 have yiM:Meth K yaa "closes" yiH:=⟨yiI,yiJ,yiK⟩
 obtain⟨yiN,ymz,yiO,yiP,ybm⟩:=yga
 have yiQ:=ybm.kp
 have ydV:=ybm.binds (ps:=["self","atom"]) fun _ _ _ _ _ _=>n2 fun _ _=>rfl
 have ydW:Meth K yaa "base_of" yiN:=⟨yiO,yiP,yiQ⟩
 obtain⟨yiR,ymA,yiS,yiT,ybn⟩:=ygb
 have yiU:=ybn.kp
 have ydX:=ybn.binds (ps:=["self","base"]) fun _ _ _ _ _ _=>n2 fun _ _=>rfl
 have ydY:Meth K yaa "base_before" yiR:=⟨yiS,yiT,yiU⟩
 obtain⟨yiV,ymB,yiW,yiX,ybo⟩:=ygc
 have yiY:=ybo.kp
 have yiZ:=ybo.binds (ps:=["self","base","other"]) fun _ _ _ _ _ _=>n3 fun _ _ _=>rfl
 have yja:Meth K yaa "meeting_of" yiV:=⟨yiW,yiX,yiY⟩
 obtain⟨yjb,ymC,yjc,yjd,ybp⟩:=ygd
 have yje:=ybp.kp
 have yjf:=ybp.binds (ps:=["self","base","meeting"]) fun _ _ _ _ _ _=>n3 fun _ _ _=>rfl
 have yjg:Meth K yaa "fold" yjb:=⟨yjc,yjd,yje⟩
 obtain⟨yjh,ymD,yji,yjj,ybq⟩:=yge
 have yjk:=ybq.kp
 have ydZ:=ybq.binds (ps:=["self","atom"]) fun _ _ _ _ _ _=>n2 fun _ _=>rfl
 have yea:Meth K yaa "allow_both" yjh:=⟨yji,yjj,yjk⟩
 obtain⟨ymE,ymF,yjl,ybr⟩:=ygf
 have yjm:=ybr.kp
 have yjn:=ybr.binds (ps:=["count","bonds"]) fun _ _ _ _ _ _=>n2 fun _ _=>rfl
 have yjo:=Z0j X G yjl
 obtain⟨ymG,ymH,yjp,ybs⟩:=ygg
 have yjq:=ybs.kp
 have yjr:=ybs.binds (ps:=["ways","bonds","number"]) fun _ _ _ _ _ _=>n3 fun _ _ _=>rfl
 have yjs:=Z0j X G yjp
 obtain⟨ymI,ymJ,yjt,ybt⟩:=ygh
 have yju:=ybt.kp
 have yjv:=ybt.binds (ps:=["ways","bonds","number","turn"]) fun _ _ _ _ _ _=>n4 fun _ _ _ _=>rfl
 have yjw:=Z0j X G yjt
 obtain⟨yeb,ymK,yec,yed,ybu⟩:=ygi
 have yjx:=ybu.kp
 have yjy:=ybu.binds (ps:=["self","element","isotope","charge","hydrogens","hand"]) fun _ _ _ _ _ _=>n6 fun _ _ _ _ _ _=>rfl
 have ymL:Meth K yad "__init__" yeb:=⟨yec,yed,yjx⟩
 obtain⟨yee,ymM,yef,yeg,ybv⟩:=ygj
 have yjz:=ybv.kp
 have yjA:=ybv.binds (ps:=["self","a","b","order","side"]) fun _ _ _ _ _ _=>n5 fun _ _ _ _ _=>rfl
 have ymN:Meth K yae "__init__" yee:=⟨yef,yeg,yjz⟩
 obtain⟨yeh,ymO,yei,yej,ybw⟩:=ygk
 have yjB:=ybw.kp
 have yjC:=ybw.binds (ps:=["self","atoms","bonds"]) fun _ _ _ _ _ _=>n3 fun _ _ _=>rfl
 have ymP:Meth K yal "__init__" yeh:=⟨yei,yej,yjB⟩
 obtain⟨ymQ,ymR,yjD,ybx⟩:=ygl
 have yjE:=ybx.kp
 have yjF:=ybx.binds (ps:=["form"]) fun _ _ _ _ _ _=>n1 fun _=>rfl
 have yjG:=Z0j X G yjD
 obtain⟨ymS,ymT,yjH,yby⟩:=ygm
 have yjI:=yby.kp
 have yjJ:=yby.binds (ps:=["form"]) fun _ _ _ _ _ _=>n1 fun _=>rfl
 have yjK:=Z0j X G yjH
 obtain⟨ymU,ymV,yjL,ybz⟩:=ygn
 have yjM:=ybz.kp
 have yjN:=ybz.binds (ps:=["reader"]) fun _ _ _ _ _ _=>n1 fun _=>rfl
 have yjO:=Z0j X G yjL
 obtain⟨ymW,ymX,yjP,ybA⟩:=ygo
 have yjQ:=ybA.kp
 have yjR:=ybA.binds (ps:=["reader","atom_count","before"]) fun _ _ _ _ _ _=>n3 fun _ _ _=>rfl
 have yjS:=Z0j X G yjP
 obtain⟨ymY,ymZ,yjT,ybB⟩:=ygp
 have yjU:=ybB.kp
 have yjV:=ybB.binds (ps:=["molecule"]) fun _ _ _ _ _ _=>n1 fun _=>rfl
 have yjW:=Z0j X G yjT
 obtain⟨yna,ynb,yjX,ybC⟩:=ygq
 have yjY:=ybC.kp
 have yjZ:=ybC.binds (ps:=["molecule","neighbours"]) fun _ _ _ _ _ _=>n2 fun _ _=>rfl
 have yka:=Z0j X G yjX
 obtain⟨ync,ynd,ykb,ybD⟩:=ygr
 have ykc:=ybD.kp
 have ykd:=ybD.binds (ps:=["atom","neighbours"]) fun _ _ _ _ _ _=>n2 fun _ _=>rfl
 have yke:=Z0j X G ykb
 obtain⟨yne,ynf,ykf,ybE⟩:=ygs
 have ykg:=ybE.kp
 have ykh:=ybE.binds (ps:=["molecule","neighbours"]) fun _ _ _ _ _ _=>n2 fun _ _=>rfl
 have yki:=Z0j X G ykf
 obtain⟨yng,ynh,ykj,ybF⟩:=ygt
 have ykk:=ybF.kp
 have ykl:=ybF.binds (ps:=["molecule","k","neighbours","ways"]) fun _ _ _ _ _ _=>n4 fun _ _ _ _=>rfl
 have ykm:=Z0j X G ykj
 obtain⟨yni,ynj,ykn,ybG⟩:=ygu
 have yko:=ybG.kp
 have ykp:=ybG.binds (ps:=["atom","others"]) fun _ _ _ _ _ _=>n2 fun _ _=>rfl
 have ykq:=Z0j X G ykn
 obtain⟨yek,ynk,yel,yem,ybH⟩:=ygv
 have ykr:=ybH.kp
 have yks:=ybH.binds (ps:=["self","left","right"]) fun _ _ _ _ _ _=>n3 fun _ _ _=>rfl
 have ynl:Meth K yam "__init__" yek:=⟨yel,yem,ykr⟩
 obtain⟨ynm,ynn,ykt,ybI⟩:=ygw
 have yku:=ybI.kp
 have ykv:=ybI.binds (ps:=["form"]) fun _ _ _ _ _ _=>n1 fun _=>rfl
 have ykw:=Z0j X G ykt
 obtain⟨yno,ynp,ykx,ybJ⟩:=ygx
 have yky:=ybJ.kp
 have ykz:=ybJ.binds (ps:=["reader"]) fun _ _ _ _ _ _=>n1 fun _=>rfl
 have ykA:=Z0j X G ykx
 have yen:=fun_mk (st:=Z3b) ydA ygy ygz
 have ynq:=yen.binds (ps:=["j","numerator","denominator","sides","numbers"]) fun _ _ _ _ _ _=>n5 fun _ _ _ _ _=>rfl
 have ynr:=Z0j X G yaT
 obtain⟨yns,ynt,ykB,ybK⟩:=ygA
 have ykC:=ybK.kp
 have ykD:=ybK.binds (ps:=["j","numerator","denominator","sides","numbers"]) fun _ _ _ _ _ _=>n5 fun _ _ _ _ _=>rfl
 have ykE:=Z0j X G ykB
 obtain⟨ynu,ynv,ykF,ybL⟩:=ygB
 have ykG:=ybL.kp
 have ykH:=ybL.binds (ps:=["tell"]) fun _ _ _ _ _ _=>n1 fun _=>rfl
 have ykI:=Z0j X G ykF
 obtain⟨ynw,ynx,ykJ,ybM⟩:=ygC
 have ykK:=ybM.kp
 have ykL:=ybM.binds (ps:=["numbers"]) fun _ _ _ _ _ _=>n1 fun _=>rfl
 have ykM:=Z0j X G ykJ
 obtain⟨yny,ynz,ykN,ybN⟩:=ygD
 have ykO:=ybN.kp
 have ykP:=ybN.binds (ps:=["fractions"]) fun _ _ _ _ _ _=>n1 fun _=>rfl
 have ykQ:=Z0j X G ykN
 have ykR:=ygE.v X G
 have ykS:=ygF.v X G
 have ykT:=ygG.v X G
 have ykU:=ygH.v X G
 have ykV:=ygI.v X G
 have ykW:=ygJ.v X G
 have ykX:=ygK.v X G
 have ykY:=ygL.v X G
 have ykZ:=ygM.v X G
 have yla:=ygN.v X G
 have v_UP:=ygO.v X G
 have ylb:=ygP.v X G
 have ylc:=ygQ.v X G
 have yld:=ygR.v X G
 have yle:=ygS.v X G
 have ylf:=ygT.v X G
 have ylg:=ygU.v X G
 have ylh:=ygV.v X G
 have yli:=ygW.v X G
 have ylj:=ygX.v X G
 have ylk:=ygY.v X G
 have yll:=ygZ.v X G
 have ylm:=yha.v X G
 have yln:=yhb.v X G
 have ylo:=yhc.v X G
 have ylp:=yhd.v X G
 have ylq:=yhe.v X G
 have ylr:=yhf.v X G
 have yls:=yhg.v X G
 have ylt:=yhh.v X G
 have ylu:=yhi.v X G
 have ylv:∃ a,mg "MARK_molecules" = some (.ref a)∧∀ H,SqT K H a (([70,75,77,49]:List Int).map V.int):=⟨yaA,Z0j X G yhj,fun H=>.inr ⟨_,_,_,yhk,rfl,rfl,(by show 4≤sizeLine;decide),.cons ⟨_,rfl⟩ (.cons ⟨_,rfl⟩ (.cons ⟨_,rfl⟩ (.cons ⟨_,rfl⟩ (.nil))))⟩⟩
 have ylw:∃ a,mg "BEFORE_ALL" = some (.ref a)∧∀ H,SqT K H a (([0,0]:List Int).map V.int):=⟨yaB,Z0j X G yhl,fun H=>.inr ⟨_,_,_,yhm,rfl,rfl,(by show 2≤sizeLine;decide),.cons ⟨_,rfl⟩ (.cons ⟨_,rfl⟩ (.nil))⟩⟩
 have ylx:∃ a,mg "MARK_equations" = some (.ref a)∧∀ H,SqT K H a (([70,75,81,49]:List Int).map V.int):=⟨yaC,Z0j X G yhn,fun H=>.inr ⟨_,_,_,yho,rfl,rfl,(by show 4≤sizeLine;decide),.cons ⟨_,rfl⟩ (.cons ⟨_,rfl⟩ (.cons ⟨_,rfl⟩ (.cons ⟨_,rfl⟩ (.nil))))⟩⟩
 have yeo:=Z0P X G yhp
 have yaI:=Z0P X G yhq
 have ybO:=Z0P X G yhr
 have yly:=Z0P X G yhs
 have ylz:Cls K yac:=⟨yan.2.1.1,yan.2.1.2.1,yan.2.1.2.2.1,yan.2.1.2.2.2⟩
 have ylA:=Z0j X G yan.1
 have yep:Mk K yac ydB:=⟨yan.2.2.1,ydC,ydD,yan.2.2.2⟩
 have ylB:Cls K yak:=⟨yao.2.1.1,yao.2.1.2.1,yao.2.1.2.2.1,yao.2.1.2.2.2⟩
 have ylC:=Z0j X G yao.1
 have ylD:Mk K yak ydL:=⟨yao.2.2.1,ydM,ydN,yao.2.2.2⟩
 have ylE:Cls K yaa:=⟨yap.2.1.1,yap.2.1.2.1,yap.2.1.2.2.1,yap.2.1.2.2.2⟩
 have ylF:=Z0j X G yap.1
 have ylG:Mk K yaa ydO:=⟨yap.2.2.1,ydP,ydQ,yap.2.2.2⟩
 have ylH:Cls K yad:=⟨yaq.2.1.1,yaq.2.1.2.1,yaq.2.1.2.2.1,yaq.2.1.2.2.2⟩
 have ylI:=Z0j X G yaq.1
 have ylJ:Mk K yad yeb:=⟨yaq.2.2.1,yec,yed,yaq.2.2.2⟩
 have ylK:Cls K yae:=⟨yar.2.1.1,yar.2.1.2.1,yar.2.1.2.2.1,yar.2.1.2.2.2⟩
 have ylL:=Z0j X G yar.1
 have ylM:Mk K yae yee:=⟨yar.2.2.1,yef,yeg,yar.2.2.2⟩
 have ylN:Cls K yal:=⟨yas.2.1.1,yas.2.1.2.1,yas.2.1.2.2.1,yas.2.1.2.2.2⟩
 have ylO:=Z0j X G yas.1
 have ylP:Mk K yal yeh:=⟨yas.2.2.1,yei,yej,yas.2.2.2⟩
 have ylQ:Cls K yam:=⟨yat.2.1.1,yat.2.1.2.1,yat.2.1.2.2.1,yat.2.1.2.2.2⟩
 have ylR:=Z0j X G yat.1
 have ylS:Mk K yam yek:=⟨yat.2.2.1,yel,yem,yat.2.2.2⟩
 have yeq:=Z0j X G yet
 have xc:XC K yab yag ["rule","place","which"]:=⟨⟨_,_,yah,_,_,_,_,_,_,_,_,_,_,_,yeu,yev,yex,yey,yez,yeA,fun f hf=>by
  simp only [Z0d,Z0w,or_false]at hf
  rcases hf with rfl |rfl |rfl
  ·exact yeB
  ·exact yeC
  ·exact yeD⟩,fun f hf=>noX f (by simpa using hf),ydy,yew⟩
 have xin:XInit K yab yag "rule" "place" "which" 0:=⟨xc,⟨_,Z2U,_,_,yaN,⟨_,_,_,_,_,_,_,_,_,rfl,yfE,yfF⟩,scFI,
  fun s us X hl=>match us,(show us.length=4 by simpa using hl)with |[_,_,_,_],_=>PySem.W.binds_K X rfl ydz rfl rfl rfl,
  fun s us X hl=>match us,(show us.length=3 by simpa using hl)with |[_,_,_],_=>PySem.W.binds_K X rfl ydz rfl rfl rfl,bodyFI,fun x hx=>by
  simp only [Z0d,Z0w,or_false]at hx
  rcases hx with rfl |rfl |rfl |rfl<;>rfl⟩,sw_all,by decide,by decide,by decide⟩
 have xg:XG K yab:=⟨yeF,yeG,yeH,yeI⟩
 have yaJ:=Z0j X G yeJ
 have yaK:XP K yai:=⟨⟨_,_,yau,_,_,_,_,_,_,_,_,_,_,_,yeK,yeL,yeN⟩,yeM⟩
 have ylT:=Z0j X G yeO
 have ylU:XP K yaf:=⟨⟨_,_,yav,_,_,_,_,_,_,_,_,_,_,_,yeP,yeQ,yeS⟩,yeR⟩
 have yer:=Z0j X G yeT
 have yes:XP K yaj:=⟨⟨_,_,yaw,_,_,_,_,_,_,_,_,_,_,_,yeU,yeV,yeX⟩,yeW⟩
 have TA:TA4 K mg yab yai yaf yaj yag:=⟨xc,yaK,ylU,yes,yeq,yaJ,ylT,yer,yeY,yeZ,yfb,yfa,yfc,yfd,xg,ydw,ydx,yeE,ylq,ylr,yls,ylt,ylu⟩
 refine⟨PySem.W.fnOf "want" "want" (Z2P Z3b) (Z2o Z3b) (Z2b Z3b) .none yaP yaQ yaR yaO yaD yaS,c0,PT,ht,fun s us hu=>match us,hu with |[_,_,_,_,_],_=>.of_eq rfl,fun base hKb hGb hC hB=>?_⟩
 have T:TR K mg yab yac yag:=⟨xin,ylz,yfe,yff,yeq,ylA,yaI,yly,ykS,ykT,ykW,ykY⟩
 have B:TM K mg:=⟨ybO,yeo,ylv,ylw,ykZ,yla,yld,yle,ylf,ylg,ylh,yli,ylj,ykU,ykV,ykX,ylk,yll,ylm⟩
 have TAt:TA_ K yad:=⟨ylH,yfq,yfr,yfs,yft,yfu⟩
 have TBo:TBd K yae:=⟨ylK,yfv,yfw,yfx,yfy⟩
 have TMl:TMo K yal:=⟨ylN,yfz,yfA⟩
 have TSe:TS7 K mg yaa:=⟨ylE,yfj,yfk,yfl,yfm,yfn,yfo,yfp,v_UP,ylb,ylc⟩
 have TWa:TW K yak:=⟨ylB,yfg,yfh,yfi⟩
 refine okD yen (code_tab ht yaT ydA) dsWant hC hB ykI ykG ykH (fun base f fd cl cd vs hK hG L=>?_) rfl
 have GN:=okNum (P:=P) (w:=w) (base:=base) ybe T (okTake yaG T) ydI ydH
 have GPa:=okParts (P:=P) (w:=w) (base:=base) yby T B TBo yep (okRI yaE T) ydE (okMark yaF T) ydG ydF GN yay yax
  (okFin yaH T) ydK ydJ (okAtom ybz T B GN yay yax ylJ ylI (okAI ybu TAt) yjy) yjO yjM yjN
  (okBnd ybA T B GN yay yax ylM ylL (okBI ybv TBo) yjA) yjS yjQ yjR ylP ylO (okMI ybw TMl) yjC
 have Gal:=okAllow (P:=P) (w:=w) (base:=base) ybi TSe
 have Gbt:=okBoth (P:=P) (w:=w) (base:=base) ybq TSe Gal ydU ydT
 have Gre:=okReach (P:=P) (w:=w) (base:=base) ybh TSe Gal ydU ydT
 have Gba:=okBase (P:=P) (w:=w) (base:=base) ybm TSe
 have Gbe:=okBef (P:=P) (w:=w) (base:=base) ybn TSe Gba ydW ydV
 have Gme:=okMeet (P:=P) (w:=w) (base:=base) ybo TSe Gbe ydY ydX
 have Gfo:=okFold (P:=P) (w:=w) (base:=base) ybp TSe Gbe ydY ydX Gbt yea ydZ
 have Gcl:=okClose (P:=P) (w:=w) (base:=base) ybl TSe TWa Gre ydS ydR Gba ydW ydV Gme yja yiZ Gfo yjg yjf Gbt yea ydZ
 have Ggo:=okGoes (P:=P) (w:=w) (base:=base) ybk TSe TWa Gcl yiM yiL
 have Gbk:=okBack (P:=P) (w:=w) (base:=base) ybj TSe Ggo yiG yiF
 have Gcg:=okGo (P:=P) (w:=w) (base:=base) ybt TSe TBo ylG ylF (okSI ybg TSe) yim Gre ydS ydR Gbk yiA yiz
 have Gfx:=okFix (P:=P) (w:=w) (base:=base) ybs TSe Gcg yjw yju yjv
 have Gwa:=okWays (P:=P) (w:=w) (base:=base) ybr TBo ylD ylC ybO yeo (okWI ybf TSe TWa) yik
 have Gsd:=okSide (P:=P) (w:=w) (base:=base) ybF TMl TAt TBo (okEnd ybG TAt) ykq yko ykp Gfx yjs yjq yjr
 have Gss:=okSides (P:=P) (w:=w) (base:=base) ybE T B TMl TBo Gsd ykm ykk ykl Gwa yjo yjm yjn
 have Ghs:=okHands (P:=P) (w:=w) (base:=base) (CB:=yae) ybC T B TMl TAt (okHand ybD TAt) yke ykc ykd
 have Gmo:=okMol (P:=P) (w:=w) (base:=base) ybx GPa yjK yjI yjJ (okNb ybB TMl TBo) yjW yjU yjV Ghs yka yjY yjZ Gss yki ykg ykh
 have TQq:TQ K yam:=⟨ylQ,yfB,yfC⟩
 have Gme':=okMem (P:=P) (w:=w) (base:=base) ybJ T xg ydw ydx ylo ylp (weakX GN) yay yax (weakX (okTake yaG T)) ydI ydH Gmo yjG yjE yjF
 have Geq:=okEq (P:=P) (w:=w) (base:=base) ybI T ybO ylx yln yep (okRI yaE T) ydE (weakX (okMark yaF T)) ydG ydF (weakX GN) yay yax
  (weakX (okFin yaH T)) ydK ydJ Gme' ykA yky ykz ylS ylR (okQI ybH TQq) yks
 have Glo:=okLow (P:=P) (w:=w) (base:=base) yaV (okGcd yaU) yhw yhu yhv
 have Gwa:=okWant (P:=P) (w:=w) (base:=base) (CA:=yad) (CB:=yae) (CM:=yal) ybc TQq yaK yaJ yaI (okOver yba Glo yaY yaW yaX) yhF yhD yhE (okTimes yaZ Glo yaY yaW yaX) yhB yhz yhA
 have Gfr:=okFrow (P:=P) (w:=w) (base:=base) ybN ykR (okAbove ybb yes yer) yhJ yhH yhI (okRow ybM yaI) ykM ykK ykL
 have Gte:=okTell (P:=P) (w:=w) (base:=base) (CN:=yaf) ybK yaK yaJ Geq ykw yku ykv (weakX (okRefuse ybd TQq yaK yaJ yaI)) yhR yhP yhQ
  Glo yaY yaW yaX (weakX Gwa) yhN yhL yhM (weakX Gfr) ykQ ykO ykP
 exact okAns ybL TA (okLam L Gte ykE ykC ykD) (fnAt_lam L) (bind_lam dsWant L) (fun _ _ _=>Z9Y)
end BK
open PySem PySem.W PyProof.Rows
set_option maxRecDepth 100000 in
set_option maxHeartbeats 0 in
theorem PySem.Challenge.cw_wholeamounts_s11_want_holds : PySem.Challenge.rw_wholeamounts_s11_want.Holds := by
 refine PySem.W.holds_os (r:=PySem.Challenge.rw_wholeamounts_s11_want) (q:=BK.qV) (loose:=BK.lO) (Xt:=BK.XT) (XP:=PySem.W.XL BK.qV []) (Yf:=BK.HK.obs) (Ya:=BK.HK.val) (YP:=BK.HK.says) (N:=8408) BK.left BK.HK.of BK.HK.keeps (fun s e=>PySem.W.xl_of s (Z1a.mp e).1) PySem.W.XL.keeps (by rfl) (by rfl) (by rfl)
  (fun s e=>PySem.W.recFacts_of (Z1a.mp e).2) PySem.W.os_shapes (by decide +kernel) (by decide +kernel) ⟨rfl,rfl,rfl,rfl,rfl,by decide +kernel⟩ ⟨[.int 0,.int 0,.int 0,.list [],.list []],by decide +kernel,by decide +kernel⟩ ?hc
 refine LM.ZaE (r:=PySem.Challenge.rw_wholeamounts_s11_want) (k:=17) (K:=HD.KF) (CX:=L2.CX0) (ps:=["j","numerator","denominator","sides","numbers"]) (sp:=fun K PT=>BK.spD PT [0,1,2,3,4] (BK.preW K) BK.wantF) (by decide +kernel) rfl rfl ⟨rfl,by decide,by decide⟩ ?R (fun w h Y=>PySem.W.kIn_of Y) ?T ?F ?S (fun _ _ _ _ z=>z)
 case R=>first |rfl |kernel_rfl |decide +kernel
 case T=>intro w;first |rfl |kernel_rfl |decide +kernel
 case F =>
  intro w mg fa h Y KX G hmg
  open BK in
  exact BK.all_mk (fa:=fa) (c0:=472) (PT:=468) (yab:=32) (ybP:="Fault") (ybQ:="Fault") (yah:=31) (ybR:=[(.type "Exception")]) (ybS:=[]) (ybT:=[]) (ybU:=false) (ybV:=none) (ybW:=none) (ybX:=(some (.ref 15))) (ybY:=none) (ybZ:=(some (.str "Fault" 189))) (yca:=(some (.str "Fault" 197))) (ycb:=(some (.bool true))) (yai:=45) (ycc:="WrongNumbers") (ycd:="WrongNumbers") (yau:=44) (yce:=[(.type "Exception")]) (ycf:=[]) (ycg:=[]) (ych:=false) (yci:=none) (ycj:=none) (yck:=(some (.ref 36))) (ycl:=none) (ycm:=(some (.str "WrongNumbers" 223))) (ycn:=(some (.str "WrongNumbers" 231))) (yco:=(some (.bool true))) (yaf:=58) (ycp:="NotThere") (ycq:="NotThere") (yav:=57) (ycr:=[(.type "Exception")]) (ycs:=[]) (yct:=[]) (ycu:=false) (ycv:=none) (ycw:=none) (ycx:=(some (.ref 49))) (ycy:=none) (ycz:=(some (.str "NotThere" 243))) (ycA:=(some (.str "NotThere" 251))) (ycB:=(some (.bool true))) (yaj:=71) (ycC:="TooGreat") (ycD:="TooGreat") (yaw:=70) (ycE:=[(.type "Exception")]) (ycF:=[]) (ycG:=[]) (ycH:=false) (ycI:=none) (ycJ:=none) (ycK:=(some (.ref 62))) (ycL:=none) (ycM:=(some (.str "TooGreat" 263))) (ycN:=(some (.str "TooGreat" 271))) (ycO:=(some (.bool true))) (yac:=166) (yak:=187) (yaa:=278) (yad:=320) (yae:=341) (yal:=362) (yam:=450) (yag:=29) (ycP:=none) (ycQ:=none) (ycR:=#[]) (ycS:=(.type "function")) (ycT:=.none) (ycU:=.none) (ycV:=(.str "wholeamounts.refusals" 187)) (yaM:=(.ref 28)) (ycW:=.none) (yaL:=22) (ycX:=none) (ycY:=0) (ycZ:=#[]) (yaN:=201) (yaz:=473) (yda:=none) (yaO:=none) (ydb:=#[]) (ydc:=(.type "function")) (yaP:=.none) (yaQ:=.none) (yaR:=(.str "wholeamounts.desk" 930)) (yaD:=(.ref 472)) (yaS:=.none) (yaA:=302) (ydd:=none) (yde:=0) (ydf:=#[]) (ydg:=641) (ydh:=642) (ydi:=643) (ydj:=644) (yaB:=303) (ydk:=none) (ydl:=0) (ydm:=#[]) (ydn:=666) (ydo:=667) (yaC:=433) (ydp:=none) (ydq:=0) (ydr:=#[]) (yds:=871) (ydt:=872) (ydu:=873) (ydv:=874) KX G hmg (by kernel_rfl) (by kernel_rfl) (by kernel_rfl) (by kernel_rfl) (by kernel_rfl) (by kernel_rfl) (by kernel_rfl) (by kernel_rfl) (by kernel_rfl) (show _=_ by kernel_rfl) (by kernel_rfl) (show _=_ by kernel_rfl) (by kernel_rfl) (show _=_ by kernel_rfl) (by kernel_rfl) (by kernel_rfl) (by kernel_rfl) (by kernel_rfl) (by kernel_rfl) (by kernel_rfl) (by kernel_rfl) (by kernel_rfl) (by kernel_rfl) (by kernel_rfl) (by kernel_rfl) (by kernel_rfl) (by kernel_rfl) (by kernel_rfl) (by kernel_rfl) (by kernel_rfl) (by kernel_rfl) (by kernel_rfl) (by kernel_rfl) (by decide) (by decide) (by decide) (by decide) (by decide) (by decide) (ck (by kernel_rfl)) (show _=_ by kernel_rfl) (show _=_ by kernel_rfl) (ck (by kernel_rfl)) (show _=_ by kernel_rfl) (show _=_ by kernel_rfl) (show _=_ by kernel_rfl) (ck (by kernel_rfl)) (show _=_ by kernel_rfl) (show _=_ by kernel_rfl) (show _=_ by kernel_rfl) (show _=_ by kernel_rfl) (show _=_ by kernel_rfl) (show _=_ by kernel_rfl) (show _=_ by kernel_rfl) (ck (by kernel_rfl)) (show _=_ by kernel_rfl) (show _=_ by kernel_rfl) (show _=_ by kernel_rfl) (show _=_ by kernel_rfl) (show _=_ by kernel_rfl) (ck (by kernel_rfl)) (show _=_ by kernel_rfl) (show _=_ by kernel_rfl) (show _=_ by kernel_rfl) (show _=_ by kernel_rfl) (ck (by kernel_rfl)) (show _=_ by kernel_rfl) (show _=_ by kernel_rfl) (ck (by kernel_rfl)) (show _=_ by kernel_rfl) (show _=_ by kernel_rfl) (by kernel_rfl) (by kernel_rfl) (by kernel_rfl) (by kernel_rfl) (by kernel_rfl) (by kernel_rfl) (gk 81 "wholeamounts.terms" 283 80 (by kernel_rfl)) (gk 88 "wholeamounts.terms" 283 87 (by kernel_rfl)) (gk 95 "wholeamounts.terms" 283 94 (by kernel_rfl)) (gk 102 "wholeamounts.terms" 283 101 (by kernel_rfl)) (gk 109 "wholeamounts.terms" 283 108 (by kernel_rfl)) (gk 114 "wholeamounts.amounts" 330 113 (by kernel_rfl)) (gk 121 "wholeamounts.balance" 338 120 (by kernel_rfl)) (mk 135 "wholeamounts.reading" 348 134 (by kernel_rfl)) (mk 142 "wholeamounts.reading" 348 141 (by kernel_rfl)) (mk 149 "wholeamounts.reading" 348 148 (by kernel_rfl)) (mk 156 "wholeamounts.reading" 348 155 (by kernel_rfl)) (mk 163 "wholeamounts.reading" 348 162 (by kernel_rfl)) (mk 184 "wholeamounts.redrawing" 437 183 (by kernel_rfl)) (mk 205 "wholeamounts.redrawing" 437 204 (by kernel_rfl)) (mk 212 "wholeamounts.redrawing" 437 211 (by kernel_rfl)) (mk 219 "wholeamounts.redrawing" 437 218 (by kernel_rfl)) (mk 226 "wholeamounts.redrawing" 437 225 (by kernel_rfl)) (mk 233 "wholeamounts.redrawing" 437 232 (by kernel_rfl)) (mk 240 "wholeamounts.redrawing" 437 239 (by kernel_rfl)) (mk 247 "wholeamounts.redrawing" 437 246 (by kernel_rfl)) (mk 254 "wholeamounts.redrawing" 437 253 (by kernel_rfl)) (mk 261 "wholeamounts.redrawing" 437 260 (by kernel_rfl)) (mk 268 "wholeamounts.redrawing" 437 267 (by kernel_rfl)) (mk 275 "wholeamounts.redrawing" 437 274 (by kernel_rfl)) (gk 287 "wholeamounts.redrawing" 437 286 (by kernel_rfl)) (gk 294 "wholeamounts.redrawing" 437 293 (by kernel_rfl)) (gk 301 "wholeamounts.redrawing" 437 300 (by kernel_rfl)) (mk 317 "wholeamounts.molecules" 639 316 (by kernel_rfl)) (mk 338 "wholeamounts.molecules" 639 337 (by kernel_rfl)) (mk 359 "wholeamounts.molecules" 639 358 (by kernel_rfl)) (gk 373 "wholeamounts.molecules" 639 372 (by kernel_rfl)) (gk 378 "wholeamounts.molecules" 639 377 (by kernel_rfl)) (gk 385 "wholeamounts.molecules" 639 384 (by kernel_rfl)) (gk 392 "wholeamounts.molecules" 639 391 (by kernel_rfl)) (gk 397 "wholeamounts.molecules" 639 396 (by kernel_rfl)) (gk 404 "wholeamounts.molecules" 639 403 (by kernel_rfl)) (gk 411 "wholeamounts.molecules" 639 410 (by kernel_rfl)) (gk 418 "wholeamounts.molecules" 639 417 (by kernel_rfl)) (gk 425 "wholeamounts.molecules" 639 424 (by kernel_rfl)) (gk 432 "wholeamounts.molecules" 639 431 (by kernel_rfl)) (mk 447 "wholeamounts.equations" 869 446 (by kernel_rfl)) (gk 459 "wholeamounts.equations" 869 458 (by kernel_rfl)) (gk 466 "wholeamounts.equations" 869 465 (by kernel_rfl)) (by kernel_rfl) (by kernel_rfl) (by kernel_rfl) (by kernel_rfl) (gk 480 "wholeamounts.desk" 930 479 (by kernel_rfl)) (gk 487 "wholeamounts.desk" 930 486 (by kernel_rfl)) (gk 494 "wholeamounts.desk" 930 493 (by kernel_rfl)) (gk 501 "wholeamounts.desk" 930 500 (by kernel_rfl)) ⟨285,(by kernel_rfl)⟩ ⟨350,(by kernel_rfl)⟩ ⟨352,(by kernel_rfl)⟩ ⟨354,(by kernel_rfl)⟩ ⟨356,(by kernel_rfl)⟩ ⟨358,(by kernel_rfl)⟩ ⟨360,(by kernel_rfl)⟩ ⟨362,(by kernel_rfl)⟩ ⟨364,(by kernel_rfl)⟩ ⟨366,(by kernel_rfl)⟩ ⟨439,(by kernel_rfl)⟩ ⟨442,(by kernel_rfl)⟩ ⟨445,(by kernel_rfl)⟩ ⟨646,(by kernel_rfl)⟩ ⟨648,(by kernel_rfl)⟩ ⟨650,(by kernel_rfl)⟩ ⟨652,(by kernel_rfl)⟩ ⟨654,(by kernel_rfl)⟩ ⟨656,(by kernel_rfl)⟩ ⟨658,(by kernel_rfl)⟩ ⟨660,(by kernel_rfl)⟩ ⟨662,(by kernel_rfl)⟩ ⟨664,(by kernel_rfl)⟩ ⟨876,(by kernel_rfl)⟩ ⟨878,(by kernel_rfl)⟩ ⟨880,(by kernel_rfl)⟩ ⟨932,(by kernel_rfl)⟩ ⟨935,(by kernel_rfl)⟩ ⟨938,(by kernel_rfl)⟩ ⟨941,(by kernel_rfl)⟩ ⟨944,(by kernel_rfl)⟩ (by kernel_rfl) (by kernel_rfl) (by kernel_rfl) (by kernel_rfl) (by kernel_rfl) (by kernel_rfl) (by kernel_rfl) (by kernel_rfl) (by kernel_rfl) (by kernel_rfl) (by kernel_rfl)
 case S =>
  intro K PT H xs a hP hwi hask hx
  cases hx with
  |cons h0 hx =>
   cases hx with
   |cons h1 hx =>
    cases hx with
    |cons h2 hx =>
     cases hx with
     |cons h3 hx =>
      cases hx with
      |cons h4 h5 =>
       cases h5
       cases h0
       cases h1
       cases h2
       cases h3 with
       |lst hs ha =>
        cases h4 with
        |lst hs2 ha2 =>
         have e:=L2.ZaC a.2.2.2.1 _ ha
         subst e
         have e:=L2.ZaC a.2.2.2.2.1 _ ha2
         subst e
         have q:(Codec.inInt 0 18446744073709551615 a.1&&(Codec.inInt 0 18446744073709551615 a.2.1&&(Codec.inInt 0 18446744073709551615 a.2.2.1&&((Codec.inLen 0 30000 a.2.2.2.1&&a.2.2.2.1.all (Codec.inInt 0 255))&&((Codec.inLen 0 100 a.2.2.2.2.1&&a.2.2.2.2.1.all (Codec.inInt 0 18446744073709551615))&&true)))))=true:=hwi
         simp only [Z0y]at q
         have i0:=(Codec.inInt_iff.mp q.1).1
         have i1:=(Codec.inInt_iff.mp q.2.1).1
         have i2:=Codec.inInt_iff.mp q.2.2.1
         have hb:∀ x∈a.2.2.2.1,0≤x∧x≤255:=fun x hx=>Codec.inInt_iff.mp (Z0R.mp q.2.2.2.1.2 x hx)
         have hn:∀ x∈a.2.2.2.2.1,0≤x∧x≤18446744073709551615:=fun x hx=>Codec.inInt_iff.mp (Z0R.mp q.2.2.2.2.1.2 x hx)
         have hl:a.2.2.2.2.1.length≤100:=by have z:=q.2.2.2.2.1.1;simp [Codec.inLen,Codec.inNat]at z;omega
         have en0:=Z0F i0
         have en1:=Z0F i1
         have en2:=Z0F i2.1
         have ef:BK.wantF ((a.1.toNat,a.2.1.toNat,a.2.2.1.toNat),a.2.2.2.1,a.2.2.2.2.1.map Int.toNat)=PyYqfkea.want a.1 a.2.1 a.2.2.1 a.2.2.2.1 a.2.2.2.2.1:=by
          unfold BK.wantF
          rw [BK.nat_map fun x hx=>(hn x hx).1,en0,en1,en2]
         refine⟨rfl,L2.Z1X,((a.1.toNat,a.2.1.toNat,a.2.2.1.toNat),a.2.2.2.1,a.2.2.2.2.1.map Int.toNat),_,rfl,fun j i v e1 e2=>?_,fun more=>⟨_,_,rfl,BK.sq_tbl hP hs,BK.sq_num (fun x hx=>(hn x hx).1) hP hs2,hb,BK.toNat_lt hn,?_⟩,?_,fun H' p hp=>?_⟩
         ·match j,e1,e2 with
          |0,e1,e2 =>
           cases e1
           rw [←e2]
           show some (L2.V.int a.1)=some (L2.V.int ((a.1.toNat:Nat):Int))
           rw [en0]
          |1,e1,e2 =>
           cases e1
           rw [←e2]
           show some (L2.V.int a.2.1)=some (L2.V.int ((a.2.1.toNat:Nat):Int))
           rw [en1]
          |2,e1,e2 =>
           cases e1
           rw [←e2]
           show some (L2.V.int a.2.2.1)=some (L2.V.int ((a.2.2.1.toNat:Nat):Int))
           rw [en2]
          |3,e1,e2=>cases e1;exact e2
          |4,e1,e2=>cases e1;exact e2
          |j+5,e1,e2=>simp at e1
         ·exact BK.toNat_lt (l:=[a.2.2.1]) (fun x hx=>by rw [Z0i.mp hx];exact i2) _ (Z0i.mpr rfl)
         ·have:=BK.ZaF (x:=((a.1.toNat,a.2.1.toNat,a.2.2.1.toNat),a.2.2.2.1,a.2.2.2.2.1.map Int.toNat)) (by rw [Z0c];exact hl)
          rw [←SP.ZaI (x:=((a.1.toNat,a.2.1.toNat,a.2.2.1.toNat),a.2.2.2.1,a.2.2.2.2.1.map Int.toNat)) hb]at this
          exact this
         ·have hp':H' p=some (L2.HO.lst ((BK.wantF ((a.1.toNat,a.2.1.toNat,a.2.2.1.toNat),a.2.2.2.1,a.2.2.2.2.1.map Int.toNat)).map L2.V.int)):=hp
          rw [ef]at hp'
          exact .lst (L2.SqL.of hp') (L2.ZaB _)
#print axioms PySem.Challenge.cw_wholeamounts_s11_want_holds
end
