/- Contracts of this seat's functions, and their mathematics (TakS TakT TakU). -/
import Derived.Test.YtfejobjgbadfjaaGreatK15
import Derived.Test.YtfejobjgbadfjaaGreatK11
import Derived.Deep.Cut
import Derived.Lib.SliceRun
set_option linter.unusedVariables false
set_option linter.unusedSimpArgs false
set_option maxHeartbeats 2000000
namespace Go.Proofs.YtfejobjgbadfjaaGreat.Tak
open Go.RowKit RowG Rng
theorem last_ge5 {lim:Int}: ∀ {l:List Pt} {lo:Int},okQ lim lo l→lo≤lastEnd lo l
 | [],lo,_=>by simp [lastEnd]
 | q::r,lo,⟨h1,h2,h3,h4⟩=>by
  rw [lastEnd_cons]
  have:=last_ge5 h4
  have:=end_gt h1.1
  omega
theorem okQ_len5 {lim:Int}: ∀ {l:List Pt} {lo:Int},okQ lim lo l→l=[]∨lo+l.length≤lim
 | [],lo,_=>.inl rfl
 | q::r,lo,⟨h1,h2,h3,h4⟩=>by
  have g:=end_gt h1.1
  refine .inr ?_
  rcases okQ_len5 h4 with rfl|h
  ·simp;omega
  ·simp;omega
theorem size_ne (b:ByteArray):(!b.toList.isEmpty)=decide (1≤b.size):=by
 have e:b.toList.length=b.size:=by rw [ByteArray.toList_eq];simp
 cases h:b.toList with
 | nil=>rw [h]at e;simp at e;simp [←e]
 | cons x r=>rw [h]at e;simp at e;simp;omega
theorem okQ5_iff {nx lim b:Int}{p:Pt}:okQ5 nx lim (b,p)=true↔(1≤p.2.size∧p.2.size≤40)∧(Num.plB p.1=true∧Num.plB (endP p)=true)∧p.1≠nx∧b≤p.1∧endP p≤lim:=by
 simp only [okQ5,partB,size_ne,Bool.and_eq_true,decide_eq_true_eq,Bool.not_eq_true',decide_eq_false_iff_not,Int.not_lt]
 constructor
 ·rintro⟨⟨h1,h2,h3,h4⟩,h5,h6,h7⟩;exact⟨⟨h1,h2⟩,⟨h3,h4⟩,h5,h6,h7⟩
 ·rintro⟨⟨h1,h2⟩,⟨h3,h4⟩,h5,h6,h7⟩;exact⟨⟨h1,h2,h3,h4⟩,h5,h6,h7⟩
theorem all_tail {nx lim:Int}(h0:0≤nx): ∀ {l:List Pt} {b:Int},nx<b→Num.plB b=true→((pairs b l).all (okQ5 nx lim)=true↔okQ lim b l∧Num.plB (lastEnd b l)=true)
 | [],b,hb,hpl=>by simp [pairs,okQ,lastEnd,hpl]
 | p::r,b,hb,hpl=>by
  rw [pairs,List.all_cons,Bool.and_eq_true,okQ5_iff,lastEnd_cons,okQ]
  constructor
  ·rintro⟨⟨h1,⟨h2,h3⟩,h4,h5,h6⟩,h7⟩
   have g:=end_gt h1.1
   obtain⟨h8,h9⟩:=(all_tail h0 (by omega) h3).1 h7
   exact⟨⟨h1,h5,h6,h8⟩,h9⟩
  ·rintro⟨⟨h1,h5,h6,h8⟩,h9⟩
   have g:=end_gt h1.1
   have g2:=last_ge5 h8
   have g3:=Num.pl_t h9
   have h3:Num.plB (endP p)=true:=Num.pl_yes ⟨by omega,by omega⟩
   exact⟨⟨h1,⟨Num.pl_yes ⟨by omega,by omega⟩,h3⟩,by omega,h5,h6⟩,(all_tail h0 (by omega) h3).2 ⟨h8,h9⟩⟩
theorem all_head {nx lim:Int}{l:List Pt}(hpl:Num.plB nx=true):(pairs nx l).all (okQ5 nx lim)=true↔okQ lim (nx+1) l∧Num.plB (lastEnd nx l)=true:=by
 have h0:=(Num.pl_t hpl)
 cases l with
 | nil=>simp [pairs,okQ,lastEnd,hpl]
 | cons p r=>
  rw [pairs,List.all_cons,Bool.and_eq_true,okQ5_iff,lastEnd_cons,okQ]
  constructor
  ·rintro⟨⟨h1,⟨h2,h3⟩,h4,h5,h6⟩,h7⟩
   have g:=end_gt h1.1
   obtain⟨h8,h9⟩:=(all_tail h0.1 (by omega) h3).1 h7
   exact⟨⟨h1,by omega,h6,h8⟩,h9⟩
  ·rintro⟨⟨h1,h5,h6,h8⟩,h9⟩
   have g:=end_gt h1.1
   have g2:=last_ge5 h8
   have g3:=Num.pl_t h9
   have h3:Num.plB (endP p)=true:=Num.pl_yes ⟨by omega,by omega⟩
   exact⟨⟨h1,⟨Num.pl_yes ⟨by omega,by omega⟩,h3⟩,by omega,by omega,h6⟩,(all_tail h0.1 (by omega) h3).2 ⟨h8,h9⟩⟩
def okI (nx:Int)(bs:ByteArray)(l:List Pt)(cp fi:Int)(en:Bool):Bool:=
 (capB cp&&(Num.plB nx&&decide ((bs.size:Int)≤cp∧(bs.size:Int)≤nx)))&&((pairs nx l).all (okQ5 nx (limT nx bs cp))&&(endOfB fi (lastEnd nx l)&&(en==decide (nx=fi))))
theorem okI_eq (nx:Int)(bs:ByteArray)(l:List Pt)(cp fi:Int)(en:Bool):okI nx bs l cp fi en=takerB nx bs l cp fi en:=by
 rw [Bool.eq_iff_iff]
 have e:=ok_iff (t:=⟨nx,bs,l,cp,fi,en⟩)
 simp only [Tk.ok]at e
 rw [e,end_iff]
 unfold okI
 simp only [Bool.and_eq_true,decide_eq_true_eq,beq_iff_eq]
 constructor
 ·rintro⟨⟨h1,h2,h3⟩,h4,h5,h6⟩
  have h1':1≤cp∧cp≤400:=by simpa [capB]using h1
  obtain⟨h7,h8⟩:=(all_head h2).1 h4
  have hn:=Num.pl_t h2
  refine⟨⟨h1',hn,h3,?_⟩,h7,?_,by rw [h6];simp [eq_comm],h8⟩
  ·rcases okQ_len5 h7 with rfl|h
   ·simp
   ·simp only [limT]at h;omega
  ·simp only [endOfB,Bool.or_eq_true,Bool.and_eq_true,decide_eq_true_eq]at h5
   exact h5
 ·rintro⟨⟨h1,h2,h3,h4⟩,h5,h6,h7,h8⟩
  have hp:=Num.pl_yes h2
  exact⟨⟨by simpa [capB]using h1,hp,h3⟩,(all_head hp).2 ⟨h5,h8⟩,by simpa [endOfB]using h6,by rw [h7];simp [eq_comm]⟩
theorem arePartsOfEq (nx:Int)(bs:ByteArray)(a:Option Addr)(n c:Nat)(cp fi:Int)(en:Bool)(l:List Pt)(w:World)(hn:n=l.length)(h:partE.Lies w a l)(hl:l.length≤2097152)(hp:Bd l)
  (hnx:0≤nx∧nx≤1152921504606846976) (hb:bs.size≤1152921504606846976) (hc:0≤cp∧cp≤1152921504606846976) {v:Bool} (hv:(pairs nx l).all (okQ5 nx (limT nx bs cp))=v):
  Calls Tryz.prog 111 #[.agg #[.int .i64 nx,.string bs,.slice a n c,.int .i64 cp,.int .i64 fi,.bool en]] w fun x w'=>x=.returned (.bool v)∧Below w.heap.size w w':=by
 subst hv
 exact arePartsOf nx bs a n c cp fi en l w hn h hl hp hnx hb hc rfl
theorem isEndOfEq (nx:Int)(bs:ByteArray)(a:Option Addr)(n c:Nat)(cp fi:Int)(en:Bool)(l:List Pt)(w:World)(hn:n=l.length)(h:partE.Lies w a l)(hl:l.length≤2097152)(hp:Bd l){v:Bool}(hv:endOfB fi (lastEnd nx l)=v):
  Calls Tryz.prog 112 #[.agg #[.int .i64 nx,.string bs,.slice a n c,.int .i64 cp,.int .i64 fi,.bool en]] w fun x w'=>x=.returned (.bool v)∧Below w.heap.size w w':=by
 subst hv
 exact isEndOf nx bs a n c cp fi en l w hn h hl hp rfl
theorem implTakerOk (nx:Int)(bs:ByteArray)(a:Option Addr)(n c:Nat)(cp fi:Int)(en:Bool)(l:List Pt)(w:World)(hn:n=l.length)(h:partE.Lies w a l)(hl:l.length≤2097152)(hbs:bs.size≤2097152)(hp:Bd l):
  Calls Tryz.prog 102 #[.agg #[.int .i64 nx,.string bs,.slice a n c,.int .i64 cp,.int .i64 fi,.bool en]] w fun x w'=>x=.returned (.bool (takerB nx bs l cp fi en))∧Below w.heap.size w w':=by
 rw [←okI_eq]
 subst hn
 have hmix:=mix
 have BV:Below w.heap.size w (w.alloc (.cells #[.int .i64 nx,.string bs,.slice a l.length c,.int .i64 cp,.int .i64 fi,.bool en] 44)):=(Below.refl _ _).alloc (Nat.le_refl _) _
 have VV:Var 44 (w.alloc (.cells #[.int .i64 nx,.string bs,.slice a l.length c,.int .i64 cp,.int .i64 fi,.bool en] 44)) w.heap.size [.int .i64 nx,.string bs,.slice a l.length c,.int .i64 cp,.int .i64 fi,.bool en]:=Var.new w _
 have LV:=h.later BV
 obtain⟨hok,ho⟩: ∃v,okI nx bs l cp fi en=v:=⟨_,rfl⟩
 rw [ho]
 cases h1:capB cp
 case false=>
  have e:Hid (false=hok):=by show _=_;rw [←ho];simp [okI,h1]
  clear ho VV LV h hp
  go_enter Tryz.func102,Tryz.ntmps102
  go_wp2_with (go_at_call 109;refine(isCap _ _).mono ?_;rintro x w' ⟨rfl,rfl⟩)
  go_ret
  exact⟨Num.ret_bool e.out,BV⟩
 cases h2:Num.plB nx
 case false=>
  have e:Hid (false=hok):=by show _=_;rw [←ho];simp [okI,h1,h2]
  clear ho VV LV h hp
  go_enter Tryz.func102,Tryz.ntmps102
  go_wp2_with (first|(go_at_call 109;refine(isCap _ _).mono ?_;rintro x w' ⟨rfl,rfl⟩)|(go_at_call 108;refine(Num.isPlace _ _).mono ?_;rintro x w2 ⟨rfl,rfl⟩))
  go_ret
  exact⟨Num.ret_bool e.out,BV⟩
 by_cases h3:(bs.size:Int)≤cp∧(bs.size:Int)≤nx
 case neg=>
  have e:Hid (false=hok):=by
   show _=_
   rw [←ho]
   simp only [okI,h1,h2,decide_eq_false h3]
   rfl
  clear ho VV LV h hp
  go_enter Tryz.func102,Tryz.ntmps102
  go_wp2_with (first|(go_at_call 109;refine(isCap _ _).mono ?_;rintro x w' ⟨rfl,rfl⟩)|(go_at_call 108;refine(Num.isPlace _ _).mono ?_;rintro x w2 ⟨rfl,rfl⟩))
  all_goals first
   | (exfalso;omega)
   | (go_ret;exact⟨Num.ret_bool e.out,BV⟩)
 have hnx:=Num.pl_t h2
 have hcp:1≤cp∧cp≤400:=by simpa [capB]using h1
 obtain⟨hs1,hs2⟩:=h3
 have HN:Hid (0≤nx∧nx≤1152921504606846976):=⟨hnx.1,by omega⟩
 have HC:Hid (0≤cp∧cp≤1152921504606846976):=⟨by omega,by omega⟩
 have HB:Hid (bs.size≤1152921504606846976):=by show _≤_;omega
 obtain⟨va,hva⟩: ∃v,(pairs nx l).all (okQ5 nx (limT nx bs cp))=v:=⟨_,rfl⟩
 obtain⟨vb,hvb⟩: ∃v,endOfB fi (lastEnd nx l)=v:=⟨_,rfl⟩
 have HO:Hid (hok=(va&&(vb&&(en==decide (nx=fi))))):=by
  show _=_
  rw [←ho]
  simp only [okI,h1,h2,decide_eq_true (And.intro hs1 hs2),hva,hvb]
  rfl
 have HVA:Hid _:=hva
 have HVB:Hid _:=hvb
 have HP:Hid _:=hp
 clear hva hvb ho hp h hcp
 go_enter Tryz.func102,Tryz.ntmps102
 go_wp2_with (first|(go_at_call 109;refine(isCap _ _).mono ?_;rintro x w' ⟨rfl,rfl⟩)|(go_at_call 108;refine(Num.isPlace _ _).mono ?_;rintro x w2 ⟨rfl,rfl⟩))
 all_goals first
  | (exfalso;omega)
  | skip
 all_goals
  generalize hV:(w.alloc (.cells #[.int .i64 nx,.string bs,.slice a l.length c,.int .i64 cp,.int .i64 fi,.bool en] 44))=V at *
  clear hV
  refine(arePartsOfEq nx bs a _ c cp fi en l _ rfl LV hl HP.out HN.out HB.out HC.out HVA.out).mono ?_
  rintro x w3 ⟨rfl,hb3⟩
  have VV3:=VV.later hb3
  have LV3:=LV.later hb3
  have BV3:=BV.trans (hb3.mono BV.size)
  clear hb3 VV LV BV
  obtain⟨d0,d1,d2,d3,d4,d5⟩:=VV3.c6
  cases va
 all_goals try (go_wp2_with fail;go_ret;exact⟨Num.ret_bool (by rw [HO.out];rfl),BV3⟩)
 all_goals
  go_wp2_with fail
  refine(isEndOfEq nx bs a _ c cp fi en l _ rfl LV3 hl HP.out HVB.out).mono ?_
  rintro x w4 ⟨rfl,hb4⟩
  have VV4:=VV3.later hb4
  have BV4:=BV3.trans (hb4.mono BV3.size)
  clear hb4 VV3 LV3 BV3 d0 d1 d2 d3 d4 d5
  have d0:=VV4.cell (i:=0) rfl
  have d4:=VV4.cell (i:=4) rfl
  have d5:=VV4.cell (i:=5) rfl
  cases vb
 all_goals
  go_wp2_with fail
  go_ret
  exact⟨Num.ret_bool (by rw [HO.out];rfl),BV4⟩
end Go.Proofs.YtfejobjgbadfjaaGreat.Tak
namespace Go.Proofs.YtfejobjgbadfjaaGreat.Tak
open Go.RowKit RowG Rng
end Go.Proofs.YtfejobjgbadfjaaGreat.Tak
namespace Go.Proofs.YtfejobjgbadfjaaGreat.Tak
open Go.RowKit RowG Rng
end Go.Proofs.YtfejobjgbadfjaaGreat.Tak
