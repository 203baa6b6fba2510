/- Contracts of this seat's functions, and their mathematics (RoaP RoaQ LinF). -/
import Derived.Test.YtfmcahjdhoabcaaGreatU21
import Derived.Deep.Cut
import Derived.Laws.StructEq
import Derived.Test.YtfmcahjdhoabcaaGreatU19
set_option linter.unusedVariables false
set_option linter.unusedSimpArgs false
set_option maxRecDepth 10000
set_option maxHeartbeats 4000000
namespace Go.Proofs.YtfmcahjdhoabcaaGreat.Roa
open Go.RowKit RowG
theorem isRightRoad (r:Rd)(w:World):Calls Tryz.prog 117 #[r.v] w fun x w'=>x=.returned (.bool (rdB r))∧Below w.heap.size w w':=by
 obtain⟨o,co,se,lo⟩:=r
 dsimp only [Rd.v]
 have fin: ∀ {o:Obj},Below w.heap.size w (w.alloc o):=fun {o}=>(Below.refl _ _).alloc (Nat.le_refl _) o
 cases h1:Num.plB co
 ·go_enter Tryz.func117,Tryz.ntmps117
  go_wp2_with (go_at_call 125;refine(Num.isPlace _ _).mono ?_;rintro x w' ⟨rfl,rfl⟩)
  go_ret
  exact⟨Num.ret_bool (by simp [rdB,h1]),fin⟩
 cases h2:Num.plB se
 ·go_enter Tryz.func117,Tryz.ntmps117
  go_wp2_with (go_at_call 125;refine(Num.isPlace _ _).mono ?_;rintro x w' ⟨rfl,rfl⟩)
  go_ret
  exact⟨Num.ret_bool (by simp [rdB,h2]),fin⟩
 have q2:=Num.pl_t h2
 cases h3:Num.plB lo
 ·have q3:=Num.pl_f h3
  go_enter Tryz.func117,Tryz.ntmps117
  go_wp2_with (go_at_call 125;refine(Num.isPlace _ _).mono ?_;rintro x w' ⟨rfl,rfl⟩)
  go_ret
  exact⟨Num.ret_bool (by simp only [rdB,decide_eq_false (show ¬(0≤lo∧lo≤se) by omega),Bool.and_false]),fin⟩
 have q3:=Num.pl_t h3
 by_cases h4:lo≤se
 ·have e:rdB ⟨o,co,se,lo⟩=true:=by simp only [rdB,h1,h2,decide_eq_true (show 0≤lo∧lo≤se by omega),Bool.and_true]
  go_enter Tryz.func117,Tryz.ntmps117
  go_wp2_with (go_at_call 125;refine(Num.isPlace _ _).mono ?_;rintro x w' ⟨rfl,rfl⟩)
  go_ret
  exact⟨Num.ret_bool (by rw [e]),fin⟩
 ·have e:rdB ⟨o,co,se,lo⟩=false:=by simp only [rdB,h1,h2,decide_eq_false (show ¬(0≤lo∧lo≤se) by omega),Bool.and_false]
  go_enter Tryz.func117,Tryz.ntmps117
  go_wp2_with (go_at_call 125;refine(Num.isPlace _ _).mono ?_;rintro x w' ⟨rfl,rfl⟩)
  go_ret
  exact⟨Num.ret_bool (by rw [e,decide_eq_false (show ¬lo≤se by omega)]),fin⟩
theorem isRightEq {o:Bool}{co se lo:Int}{v:Bool}(h:rdB ⟨o,co,se,lo⟩=v)(w:World):Calls Tryz.prog 117 #[.agg #[.bool o,.int .i64 co,.int .i64 se,.int .i64 lo]] w fun x w'=>x=.returned (.bool v)∧Below w.heap.size w w':=by
 subst h
 exact isRightRoad ⟨o,co,se,lo⟩ w
theorem run_clearMap {P:Program}{w:World}{b m:Nat}{es:Array MapEntry}{t ty k e:TypeId}(hu:P.underlying t=some (.map k e))(h:w.heap[b]? =some (.map es m)):(Builtin.clear_ #[t] ty #[.map (some b)]).run P w=.ok (.tuple #[]) (ChangeMaps.setBlock w b (.map #[] m)):=by
 simp [Builtin.clear_,run_underlying hu,MapKept.run_getObj_map h,MapKept.run_setObj_map _ h,Result.andThen,ChangeMaps.setBlock]
def NumR (w w':World)(l:List Rd)(b:Nat):Prop:= ∃G m,MapAt w' w.heap.size b G m∧w.heap.size≤b∧(G=[]↔roadsB l=false)∧(openG G).Perm (openL l)∧Below w.heap.size w w'
theorem stand {p:Prop}(h:Hid p):p:=h.out
theorem numbersByRoad (a:Option Addr)(n cap:Nat)(l:List Rd)(w:World)(hn:n=l.length)(h:E.Lies w a l)(hl:l.length≤2097152):
  Calls Tryz.prog 95 #[.slice a n cap] w fun x w'=> ∃b,x=.returned (.map (some b))∧NumR w w' l b:=by
 subst hn
 have M0:=mapAt_new w w.heap.size
 have b0:Below w.heap.size w (w.alloc (.map #[] 0)):=(Below.refl _ _).alloc (Nat.le_refl _) _
 have hmm:=@run_makeMap Tryz.prog
 by_cases h4:l.length≤4
 ·have i4: ¬(4:Int)<(l.length:Int):=by omega
  go_enter Tryz.func95,Tryz.ntmps95
  go_wp2_with fail
  go_loopw [13] (fun iv wr=> ∃(k:Nat) (G:List Gr),k≤l.length∧iv=.int .i64 k∧MapAt wr w.heap.size w.heap.size G G.length∧Hid (∀x∈G,x.ns.length≤k)∧Hid (k=0→G=[])∧Hid ((openG G).Perm (openN 0 (l.take k)))∧Hid (0<k→G≠ [])∧Hid (∀j,j<k→rdB (at' l j)=true)∧Below w.heap.size w wr) (fun iv _=>l.length-(intOf iv).toNat)
  case atStart=>exact⟨0,[],Nat.zero_le _,rfl,M0,fun x hx=>by simp at hx,fun _=>rfl,by show List.Perm _ _;simp [openG,openN],fun q=>absurd q (by omega),fun j hj=>by omega,b0⟩
  case round=>
   clear M0 b0
   obtain⟨k,G,hk,rfl,M1,hns,HG0,hperm,hne,hgood,b1⟩:=hrel
   by_cases hlt:k<l.length
   ·have i0:(0:Int)≤(k:Int):=by omega
    have i1:(k:Int)<(l.length:Int):=by omega
    rcases h.later b1 with hs|⟨b,off,rfl,hs⟩
    ·simp [hs]at hlt
    obtain⟨c0,c1,c2,c3⟩:=cells4 hs hlt
    clear hs
    obtain⟨s,HS⟩: ∃s,Hid (at' l k=s):=⟨_,rfl⟩
    rw [HS.out]at c0 c1 c2 c3
    obtain⟨o,co,se,lo⟩:=s
    simp only at c0 c1 c2 c3
    have v2:Var 100 (wr.alloc (.cells #[.bool o,.int .i64 co,.int .i64 se,.int .i64 lo] 100)) wr.heap.size [.bool o,.int .i64 co,.int .i64 se,.int .i64 lo]:=Var.new wr _
    have M2:=M1.alloc (.cells #[.bool o,.int .i64 co,.int .i64 se,.int .i64 lo] 100)
    have B2:=b1.alloc b1.size (.cells #[.bool o,.int .i64 co,.int .i64 se,.int .i64 lo] 100)
    have hopn:=openN_step hlt
    rw [HS.out]at hopn
    have HOP:Hid _:=hopn
    clear M1 b1 hopn
    cases hrd:rdB ⟨o,co,se,lo⟩
    ·have hok:roadsB l=false:=rd_false hlt (by rw [HS.out];exact hrd)
     go_wp2_with fail
     refine(isRightEq hrd _).mono ?_
     rintro x w3 ⟨rfl,b3⟩
     have M3:=M2.later b3
     have B3:=B2.trans (b3.mono B2.size)
     clear M2 B2 b3 v2 c0 c1 c2 c3 HOP
     have M4:=M3.clear
     have B4:=grown_below B3 (Nat.le_refl _) (fun j hj=>by cases hj;exact Nat.le_refl _) (setBlock_grown (o':=.map #[] G.length) M3.blk).1
     have hcl:=fun ty=>run_clearMap (P:=Tryz.prog) (ty:=ty) Tryz.underlying123 M3.blk
     generalize ChangeMaps.setBlock w3 w.heap.size (.map #[] G.length)=w4 at *
     clear M3 B3
     go_wp2_with fail
     go_ret
     exact⟨_,rfl,[],_,M4,Nat.le_refl _,by simp [hok],by simp [openG,openL,hok],B4⟩
    ·go_wp2_with fail
     refine(isRightEq hrd _).mono ?_
     rintro x w3 ⟨rfl,b3⟩
     have M3:=M2.later b3
     have v3:=v2.later b3
     have B3:=B2.trans (b3.mono B2.size)
     have HG:Hid (∀j,j<k+1→rdB (at' l j)=true):=fun j hj=>by
      by_cases e:j=k
      ·rw [e,HS.out];exact hrd
      ·exact hgood.out j (by omega)
     clear M2 B2 b3 v2 c0 c1 c2 c3 hgood hne
     have c0:=v3.cell (i:=0) rfl
     have c1:=v3.cell (i:=1) rfl
     have c2:=v3.cell (i:=2) rfl
     have c3:=v3.cell (i:=3) rfl
     have M4:=M3.alloc (.cells #[.int .i64 (k:Int)] 2)
     have B4:=B3.alloc B3.size (.cells #[.int .i64 (k:Int)] 2)
     have L4:EI.Lies (w3.alloc (.cells #[.int .i64 (k:Int)] 2)) (some ⟨w3.heap.size,0,none⟩) [(k:Int)]:=El.lies_new rfl
     have hlt3:=M3.lt
     clear M3 B3 v3
     by_cases hx: ∃x∈G,x.key=⟨o,co,se,lo⟩
     ·obtain⟨x,hxG,hxk⟩:=hx
      obtain⟨j,hj⟩:=List.mem_iff_getElem?.1 hxG
      have hen:=run_entry_old M4 hj hxk
      have hox:=M4.own x hxG
      obtain⟨xk,ns,g,c⟩:=x
      unfold Gr.val at hen
      dsimp only [Rd.v]at hen hox
      have hnl:ns.length≤k:=hns.out _ hxG
      have HJ:Hid (G[j]? =some ⟨xk,ns,g,c⟩):=hj
      have HX:Hid (xk=⟨o,co,se,lo⟩):=hxk
      have hB4:=B4.size
      clear hj hxk hxG
      go_wp2_with (at_builtin;refine wpList_appL tyI (by decide) (by rfl) _ _ (by rfl) w.heap.size (some ⟨g,0,none⟩) c _ ns [(k:Int)] rfl (by rfl) hox hB4 ⟨w3.heap.size,0,none⟩ 1 1 rfl (by rfl) L4 (by simp) (by simp only [List.length_cons,List.length_nil];omega) ?_;intro g1 cc w5 q5 gr5 loc5;refine stand ?_)
      have hloc:g1=g∨g1=(w3.alloc (.cells #[.int .i64 (k:Int)] 2)).heap.size:=by
       rcases loc5 with e|e
       ·exact .inl (by simpa [blk]using e)
       ·exact .inr e
      obtain⟨hb5,M6⟩:=M4.put_old HJ.out gr5 q5 hloc
      have hjl:=(List.getElem?_eq_some_iff.1 HJ.out).1
      have hst:=fun t=>run_store hb5 (by rw [ents_born,ents_len]) (by rw [ents_len];exact hjl) t (.slice (some ⟨g1,0,none⟩) (ns++[(k:Int)]).length cc)
      have gr6:=(setBlock_grown (o':=.map ((ents 0 G).modify j fun e=>{e with val:=.slice (some ⟨g1,0,none⟩) (ns++[(k:Int)]).length cc}).toArray G.length) hb5).1
      generalize ChangeMaps.setBlock w5 w.heap.size _=w6 at *
      have hlen:(ns++[(k:Int)]).length=ns.length+1:=by simp
      rw [hlen]at hst
      dsimp only [goInt]at hst
      have B5:=grown_below B4 (Nat.le_refl _) (fun t ht=>by cases ht;exact(hox.lt _ rfl).1) gr5
      have B6:=grown_below B5 (Nat.le_refl _) (fun t ht=>by cases ht;exact Nat.le_refl _) gr6
      have HP:Hid ((openG (G.set j ⟨xk,ns++[(k:Int)],g1,cc⟩)).Perm (openN 0 (l.take (k+1)))):=by
       show List.Perm _ _
       refine(openG_old HJ.out (k:Int) g1 cc).trans ?_
       rw [HOP.out]
       simp only [HX.out]
       exact hperm.out.append_right _
      have HNS:Hid (∀x∈G.set j ⟨xk,ns++[(k:Int)],g1,cc⟩,x.ns.length≤k+1):=fun x hx=>by
       rcases List.mem_or_eq_of_mem_set hx with q|q
       ·have:=hns.out x q;omega
       ·rw [q];simp only [hlen];omega
      have HNE:Hid (0<k+1→G.set j ⟨xk,ns++[(k:Int)],g1,cc⟩≠ []):=fun _ e=>by
       have:=congrArg List.length e
       rw [List.length_set,List.length_nil]at this
       omega
      have HM:Hid (MapAt w6 w.heap.size w.heap.size (G.set j ⟨xk,ns++[(k:Int)],g1,cc⟩) (G.set j ⟨xk,ns++[(k:Int)],g1,cc⟩).length):=by
       show MapAt _ _ _ _ _
       rw [List.length_set]
       exact M6
      clear M6 M4 hb5 gr5 gr6 hen hox loc5 hloc HOP hns hperm hlen hjl q5 L4 c0 c1 c2 c3 B4 B5
      show wpList _ _ _ _ _ _
      go_wp2_with fail
      go_roundw
      case rel=>exact⟨k+1,_,by omega,by go_num,HM.out,HNS,fun q=>absurd q (by omega),HP,HNE,HG,B6⟩
      case measure=>simp [intOf];omega
     ·have hnew: ∀x∈G,x.key≠⟨o,co,se,lo⟩:=fun x hx' e=>hx ⟨x,hx',e⟩
      have hen:=run_entry_new M4 hrd hnew
      have gr0:=(setBlock_grown (o':=.map (ents 0 G++[({key:=Rd.v ⟨o,co,se,lo⟩,val:=.slice none 0 0,born:=G.length}:MapEntry)]).toArray (G.length+1)) M4.blk)
      have hb0:=fun w5 (gr:World.grownBy (ChangeMaps.setBlock (w3.alloc (.cells #[.int .i64 (k:Int)] 2)) w.heap.size (.map (ents 0 G++[({key:=Rd.v ⟨o,co,se,lo⟩,val:=.slice none 0 0,born:=G.length}:MapEntry)]).toArray (G.length+1))) w5 none)=>fun(g c:Nat) (ns:List Int) (own3:EI.Own 2 w5 w.heap.size (some ⟨g,0,none⟩) c ns) (loc:g=(w3.alloc (.cells #[.int .i64 (k:Int)] 2)).heap.size)=>M4.put_new hrd hnew gr own3 loc
      have HB0:Hid _:=hb0
      have L5:EI.Lies (ChangeMaps.setBlock (w3.alloc (.cells #[.int .i64 (k:Int)] 2)) w.heap.size (.map (ents 0 G++[({key:=Rd.v ⟨o,co,se,lo⟩,val:=.slice none 0 0,born:=G.length}:MapEntry)]).toArray (G.length+1))) (some ⟨w3.heap.size,0,none⟩) [(k:Int)]:=L4.grown gr0.1 (fun x hx=>by cases hx;simp only [ne_eq,Option.some.injEq];omega)
      have B5:=grown_below B4 (Nat.le_refl _) (fun t ht=>by cases ht;exact Nat.le_refl _) gr0.1
      obtain⟨_,_,hsz⟩:=gr0
      generalize ChangeMaps.setBlock (w3.alloc (.cells #[.int .i64 (k:Int)] 2)) w.heap.size (.map (ents 0 G++[({key:=Rd.v ⟨o,co,se,lo⟩,val:=.slice none 0 0,born:=G.length}:MapEntry)]).toArray (G.length+1))=w4 at *
      clear hb0 L4 hnew hx
      dsimp only [Rd.v]at hen
      have hB5:=B5.size
      have ho5:EI.Own 2 w4 w.heap.size none 0 []:=El.Own.none _ _
      go_wp2_with (at_builtin;refine wpList_appL tyI (by decide) (by rfl) _ _ (by rfl) w.heap.size none 0 _ [] [(k:Int)] rfl (by rfl) ho5 hB5 ⟨w3.heap.size,0,none⟩ 1 1 rfl (by rfl) L5 (by simp) (by simp only [List.length_cons,List.length_nil];omega) ?_;intro g1 cc w5 q5 gr5 loc5;refine stand ?_)
      have hloc:g1=(w3.alloc (.cells #[.int .i64 (k:Int)] 2)).heap.size:=by
       rcases loc5 with e|e
       ·cases e
       ·rw [e,hsz]
      rw [List.nil_append]at q5
      obtain⟨hb5,M6⟩:=HB0.out w5 gr5 g1 cc _ q5 hloc
      have hst:=fun t=>run_store hb5 (by rw [List.map_append,ents_born,List.length_append,ents_len];simp [List.range'_concat]) (j:=G.length) (by rw [List.length_append,ents_len];simp) t (.slice (some ⟨g1,0,none⟩) 1 cc)
      have gr6:=(setBlock_grown (o':=.map ((ents 0 G++[({key:=Rd.v ⟨o,co,se,lo⟩,val:=.slice none 0 0,born:=G.length}:MapEntry)]).modify G.length fun e=>{e with val:=.slice (some ⟨g1,0,none⟩) 1 cc}).toArray (G.length+1)) hb5).1
      have hl1: [(k:Int)].length=1:=rfl
      rw [hl1]at M6
      generalize ChangeMaps.setBlock w5 w.heap.size _=w6 at *
      dsimp only [goInt]at hst
      have B6:=grown_below B5 (Nat.le_refl _) (fun t ht=>by cases ht) gr5
      have B7:=grown_below B6 (Nat.le_refl _) (fun t ht=>by cases ht;exact Nat.le_refl _) gr6
      have HP:Hid ((openG (G++[⟨⟨o,co,se,lo⟩,[(k:Int)],g1,cc⟩])).Perm (openN 0 (l.take (k+1)))):=by
       show List.Perm _ _
       rw [openG_new,HOP.out]
       exact hperm.out.append_right _
      have HNS:Hid (∀x∈G++[(⟨⟨o,co,se,lo⟩,[(k:Int)],g1,cc⟩:Gr)],x.ns.length≤k+1):=fun x hx=>by
       rcases List.mem_append.1 hx with q|q
       ·have:=hns.out x q;omega
       ·simp at q;rw [q];simp
      have HNE:Hid (0<k+1→G++[(⟨⟨o,co,se,lo⟩,[(k:Int)],g1,cc⟩:Gr)]≠ []):=fun _ e=>by simp at e
      have HM:Hid (MapAt w6 w.heap.size w.heap.size (G++[⟨⟨o,co,se,lo⟩,[(k:Int)],g1,cc⟩]) (G++[(⟨⟨o,co,se,lo⟩,[(k:Int)],g1,cc⟩:Gr)]).length):=by
       show MapAt _ _ _ _ _
       rw [List.length_append]
       exact M6
      clear M6 M4 hb5 gr5 gr6 hen loc5 hloc HOP hns hperm hl1 q5 L5 c0 c1 c2 c3 B4 B5 B6 HB0 ho5
      show wpList _ _ _ _ _ _
      go_wp2_with fail
      go_roundw
      case rel=>exact⟨k+1,_,by omega,by go_num,HM.out,HNS,fun q=>absurd q (by omega),HP,HNE,HG,B7⟩
      case measure=>simp [intOf];omega
   ·have hkl:l.take k=l:=List.take_of_length_le (by omega)
    have i1: ¬(k:Int)<(l.length:Int):=by omega
    have hall:=rd_all fun j hj=>hgood.out j (by omega)
    have hiff:G=[]↔roadsB l=false:=by
     rcases Nat.eq_zero_or_pos k with e|e
     ·have hl0:l=[]:=List.eq_nil_of_length_eq_zero (by omega)
      have hG:G=[]:=HG0.out e
      rw [hG,hl0]
      simp [roadsB]
     ·rw [hall,decide_eq_true (show 1≤(l.length:Int)∧(l.length:Int)≤4 by omega)]
      exact⟨fun q=>absurd q (hne.out e),fun q=>by cases q⟩
    have hperm':(openG G).Perm (openL l):=by
     have:=hperm.out
     rw [hkl]at this
     unfold openL
     split
     ·exact this
     ·rename_i hno
      have hG:G=[]:=hiff.2 (by simpa using hno)
      rw [hG]
      exact List.Perm.nil
    have HI:Hid (G=[]↔roadsB l=false):=hiff
    have HP:Hid ((openG G).Perm (openL l)):=hperm'
    clear hall hiff hperm' hkl
    go_wp2_with fail
    go_ret
    exact⟨_,rfl,G,_,M1,Nat.le_refl _,HI.out,HP.out,b1⟩
 ·have i4:(4:Int)<(l.length:Int):=by omega
  have hok:roadsB l=false:=by simp only [roadsB,decide_eq_false (show ¬(1≤l.length∧l.length≤4) by omega),Bool.and_false]
  go_enter Tryz.func95,Tryz.ntmps95
  go_wp2_with fail
  go_ret
  exact⟨_,rfl,[],0,M0,Nat.le_refl _,by simp [hok],by simp [openG,openL,hok],b0⟩
end Go.Proofs.YtfmcahjdhoabcaaGreat.Roa
namespace Go.Proofs.YtfmcahjdhoabcaaGreat.Roa
open Go.RowKit RowG
theorem run_lenMap {P:Program}{w:World}{b m:Nat}{es:Array MapEntry}{t ty k e:TypeId}(hu:P.underlying t=some (.map k e))(h:w.heap[b]? =some (.map es m)):(Builtin.len_ #[t] ty #[.map (some b)]).run P w=.ok (.int .i64 (es.size:Int)) w:=by
 simp [Builtin.len_,run_underlying hu,MapKept.run_getObj_map h,Result.andThen,goInt]
theorem implRoadsOk (a:Option Addr)(n cap:Nat)(l:List Rd)(w:World)(hn:n=l.length)(h:E.Lies w a l)(hl:l.length≤2097152):
  Calls Tryz.prog 68 #[.slice a n cap] w fun x w'=>x=.returned (.bool (roadsB l))∧Below w.heap.size w w':=by
 subst hn
 go_enter Tryz.func68,Tryz.ntmps68
 go_wp2_with fail
 refine(numbersByRoad a _ cap l _ rfl h hl).mono ?_
 rintro x w1 ⟨b,rfl,G,m,M1,_,hiff,_,B1⟩
 have hlen:=fun ty=>run_lenMap (P:=Tryz.prog) (ty:=ty) Tryz.underlying123 M1.blk
 have e:(ents 0 G).toArray.size=G.length:=by simp [ents_len]
 rw [e]at hlen
 have HE:Hid (decide ((0:Int)<(G.length:Int))=roadsB l):=by
  show _=_
  cases q:roadsB l
  ·have:=hiff.2 q
   subst this
   rfl
  ·have:G≠ []:=fun e=>by rw [hiff.1 e]at q;cases q
   have:=List.length_pos_iff.2 this
   exact decide_eq_true (by omega)
 clear hiff e M1
 generalize G.length=z at *
 go_wp2_with fail
 go_ret
 exact⟨Num.ret_bool (by rw [←HE.out];simp),B1⟩
end Go.Proofs.YtfmcahjdhoabcaaGreat.Roa
namespace Go.Proofs.YtfmcahjdhoabcaaGreat.Lin
open Go.RowKit RowG Hop Roa Wor
def okI (hs:List Hp)(rs:List Rd)(i:Nat):Bool:=hopB (hs.getD i zeroH)&&(hs.getD i zeroH).ws.all (roadB i rs)
theorem hops_okI (hs:List Hp)(rs:List Rd):hopsB hs rs=(decide (hs.length=3)&&(roadsB rs&&((List.range 3).all (okI hs rs)))):=rfl
theorem hops_len {hs:List Hp}{rs:List Rd}(h:hs.length≠3):hopsB hs rs=false:=by simp [hopsB,h]
theorem hops_roads {hs:List Hp}{rs:List Rd}(h:roadsB rs=false):hopsB hs rs=false:=by simp [hopsB,h]
theorem hops_no {hs:List Hp}{rs:List Rd}{i:Nat}(hi:i<3)(h:okI hs rs i=false):hopsB hs rs=false:=by
 rw [hops_okI]
 have:(List.range 3).all (okI hs rs)=false:=by
  rw [List.all_eq_false]
  exact⟨i,List.mem_range.2 hi,by rw [h];decide⟩
 rw [this];simp
theorem hops_yes {hs:List Hp}{rs:List Rd}(h3:hs.length=3)(hr:roadsB rs=true)(h: ∀i,i<3→okI hs rs i=true):hopsB hs rs=true:=by
 rw [hops_okI,hr,decide_eq_true h3]
 simp only [Bool.true_and,List.all_eq_true,List.mem_range]
 exact fun i hi=>h i hi
theorem okI_eq {xs:List Ha}{rs:List Rd}{i:Nat}{x:Ha}(hx:xs[i]? =some x):okI (xs.map (·.h)) rs i=(hopB x.h&&x.h.ws.all (roadB i rs)):=by
 have:(xs.map (·.h)).getD i zeroH=x.h:=by simp [List.getD,hx]
 rw [okI,this]
theorem specLineOk (aH aR:Option Addr)(n m cH cR:Nat)(xs:List Ha)(rs:List Rd)(w:World)(hn:n=xs.length)(hm:m=rs.length)(L:LL w aH xs)(R:Roa.E.Lies w aR rs)(hl:xs.length≤1000)(hr:rs.length≤1000)(hs: ∀x∈xs,x.h.Sm):
  Calls Tryz.prog 29 #[.agg #[.slice aH n cH,.slice aR m cR]] w fun e w'=>e=.returned (.bool (hopsB (xs.map (·.h)) rs))∧Below w.heap.size w w':=by
 subst hn hm
 have v0:Var 27 (w.alloc (.cells #[.slice aH xs.length cH,.slice aR rs.length cR] 27)) w.heap.size [.slice aH xs.length cH,.slice aR rs.length cR]:=Var.new w _
 have BV:Below w.heap.size w (w.alloc (.cells #[.slice aH xs.length cH,.slice aR rs.length cR] 27)):=(Below.refl _ _).alloc (Nat.le_refl _) _
 have L0:=L.later BV
 have R0:=R.later BV
 have hRo:=fun w' (l':Roa.E.Lies w' aR rs)=>specRoadsOk aR rs.length cR rs w' rfl l' (by omega)
 go_enter Tryz.func29,Tryz.ntmps29
 go_upto_region 1 with(fail)
 generalize w.alloc (.cells #[.slice aH xs.length cH,.slice aR rs.length cR] 27)=V at *
 have HV0:Hid (Var 27 V w.heap.size [.slice aH xs.length cH,.slice aR rs.length cR]):=v0
 have e0:=v0.cell (i:=0) rfl
 have e1:=v0.cell (i:=1) rfl
 clear v0
 by_cases h3:xs.length=3
 case neg=>
  have h3i: ¬(xs.length:Int)=3:=by omega
  go_wp2_with fail
  go_ret
  exact⟨Num.ret_bool (hops_len (by simpa using h3)).symm,BV⟩
 have h3i:(xs.length:Int)=3:=by omega
 go_wp2_with fail
 refine(hRo _ R0).mono ?_
 rintro e w1 ⟨rfl,b1⟩
 cases hro:roadsB rs
 case false=>
  clear L0 R0 L R
  go_wp2_with fail
  go_ret
  exact⟨Num.ret_bool (hops_roads hro).symm,BV.trans (b1.mono BV.size)⟩
 have HRO:Hid (roadsB rs=true):=hro
 clear hro h3i hRo e0 e1 R0
 have HV1:Hid (Var 27 w1 w.heap.size [.slice aH xs.length cH,.slice aR rs.length cR]):=HV0.out.later b1
 have HL1:Hid (LL w1 aH xs):=L0.later b1
 have B1:Below w.heap.size w w1:=BV.trans (b1.mono BV.size)
 have H3:Hid (xs.length=3):=h3
 clear HV0 L0 b1 BV V L R h3
 go_wp2_with fail
 go_loopw [3,4,5] (fun iv _ _ wr=> ∃k:Nat,k≤3∧iv=.int .i64 k∧Hid (∀i,i<k→okI (xs.map (·.h)) rs i=true)∧Below w1.heap.size w1 wr) (fun iv _ _ _=>3-(intOf iv).toNat)
 case atStart=>exact⟨0,by omega,rfl,fun i hi=>by omega,Below.refl _ _⟩
 case round=>
  obtain⟨k,hk,rfl,hall,hB⟩:=hrel
  by_cases hk3:k<3
  case neg=>
   have hk4: ¬(k:Int)<3:=by omega
   go_wp2_with fail
   go_ret
   exact⟨Num.ret_bool (hops_yes (by simpa using H3.out) HRO.out (fun i hi=>hall.out i (by omega))).symm,B1.trans (hB.mono B1.size)⟩
  case pos=>
   have i0:(k:Int)<3:=by omega
   have i1:(0:Int)≤(k:Int):=by omega
   have i2:(k:Int)<(xs.length:Int):=by rw [H3.out];exact i0
   obtain⟨x,hx⟩: ∃x,xs[k]? =some x:=⟨xs[k]'(by rw [H3.out];exact hk3),List.getElem?_eq_getElem _⟩
   have HX:Hid (xs[k]? =some x):=hx
   have hxm:=List.mem_of_getElem? hx
   have Lr:=HL1.out.later hB
   have vr:=HV1.out.later hB
   have RLx:=Lr.rows x hxm
   have HN:Hid (∀p,okI (xs.map (·.h)) rs k=p→p=false→hopsB (xs.map (·.h)) rs=false):=fun p hp hf=>hops_no hk3 (hp.trans hf)
   have e0:=vr.cell (i:=0) rfl
   obtain⟨b,off,rfl,hL1⟩: ∃b off,aH=some ⟨b,off,none⟩∧ ∀j u,(hopE.vals xs)[j]? =some u→wr.cell? ⟨b,off+j,none⟩=some u:=by
    rcases Lr.row with h0|h0
    ·simp [h0]at hx
    ·exact h0
   have c0:wr.cell? ⟨b,off+k*13,none⟩=some (.int .i64 x.h.g.ba):=El.Lies.cell hL1 hx (j:=0) rfl
   have c1:wr.cell? ⟨b,off+k*13+1,none⟩=some (.string x.h.g.bs):=El.Lies.cell hL1 hx (j:=1) rfl
   have c2:wr.cell? ⟨b,off+k*13+2,none⟩=some (.int .i64 x.h.g.cp):=El.Lies.cell hL1 hx (j:=2) rfl
   have c3:wr.cell? ⟨b,off+k*13+3,none⟩=some (.int .i64 x.h.g.lm):=El.Lies.cell hL1 hx (j:=3) rfl
   have c4:wr.cell? ⟨b,off+k*13+4,none⟩=some (.bool x.h.g.en):=El.Lies.cell hL1 hx (j:=4) rfl
   have c5:wr.cell? ⟨b,off+k*13+5,none⟩=some (.bool x.h.g.dn):=El.Lies.cell hL1 hx (j:=5) rfl
   have c6:wr.cell? ⟨b,off+k*13+6,none⟩=some (.int .i64 x.h.t.nx):=El.Lies.cell hL1 hx (j:=6) rfl
   have c7:wr.cell? ⟨b,off+k*13+7,none⟩=some (.string x.h.t.bs):=El.Lies.cell hL1 hx (j:=7) rfl
   have c8:wr.cell? ⟨b,off+k*13+8,none⟩=some (.slice x.aT x.h.t.l.length x.cT):=El.Lies.cell hL1 hx (j:=8) rfl
   have c9:wr.cell? ⟨b,off+k*13+9,none⟩=some (.int .i64 x.h.t.cp):=El.Lies.cell hL1 hx (j:=9) rfl
   have c10:wr.cell? ⟨b,off+k*13+10,none⟩=some (.int .i64 x.h.t.fi):=El.Lies.cell hL1 hx (j:=10) rfl
   have c11:wr.cell? ⟨b,off+k*13+11,none⟩=some (.bool x.h.t.en):=El.Lies.cell hL1 hx (j:=11) rfl
   have c12:wr.cell? ⟨b,off+k*13+12,none⟩=some (.slice x.aW x.h.ws.length x.cW):=El.Lies.cell hL1 hx (j:=12) rfl
   have hH:=fun w' (p:Tak.partE.Lies w' x.aT x.h.t.l) (q:letE.Lies w' x.aW x.h.ws)=>specHopOk x.h x.aT x.cT x.aW x.cW w' p q (hs x hxm)
   clear Lr hL1 hx
   go_wp2_with fail
   refine(hH _ RLx.p RLx.l).mono ?_
   rintro e w2 ⟨rfl,b2⟩
   have hB2:=hB.trans (b2.mono hB.size)
   clear c0 c1 c2 c3 c4 c5 c6 c7 c8 c9 c10 c11 c12 e0 hH RLx vr
   cases hh:hopB x.h
   case false=>
    go_wp2_with fail
    go_ret
    exact⟨Num.ret_bool (HN.out _ (okI_eq HX.out) (by rw [hh];rfl)).symm,B1.trans (hB2.mono B1.size)⟩
   have HH:Hid (hopB x.h=true):=hh
   clear hh
   go_wp2_with fail
   have HB2:Hid (Below w1.heap.size w1 w2):=hB2
   go_loopw [4,5] (fun jv _ wq=> ∃j:Nat,j≤x.h.ws.length∧jv=.int .i64 j∧Hid ((x.h.ws.take j).all (roadB k rs)=true)∧Below w1.heap.size w1 wq) (fun jv _ _=>x.h.ws.length-(intOf jv).toNat)
   case atStart=>exact⟨0,Nat.zero_le _,rfl,by show _=_;simp,hB2⟩
   case round=>
    clear b2 hB2 HB2 hB
    obtain⟨j,hj,rfl,hall2,hB⟩:=hrel
    have Lr:=HL1.out.later hB
    have vr:=HV1.out.later hB
    have RLx:=(Lr.rows x hxm).l
    have hx:=HX.out
    have e0:=vr.cell (i:=0) rfl
    have e1:=vr.cell (i:=1) rfl
    have hL1: ∀j u,(hopE.vals xs)[j]? =some u→wr.cell? ⟨b,off+j,none⟩=some u:=by
     rcases Lr.row with h0|⟨b',off',h0,h1⟩
     ·simp [h0]at hx
     ·cases h0;exact h1
    have c12:wr.cell? ⟨b,off+k*13+12,none⟩=some (.slice x.aW x.h.ws.length x.cW):=El.Lies.cell hL1 hx (j:=12) rfl
    have hwl:x.h.ws.length≤524288:=(hs x hxm).wl
    by_cases hjl:j<x.h.ws.length
    case neg=>
     have hje:j=x.h.ws.length:=by omega
     subst hje
     have j1: ¬(x.h.ws.length:Int)<(x.h.ws.length:Int):=by omega
     have HA:Hid (x.h.ws.all (roadB k rs)=true):=by have:=hall2.out;rw [List.take_length]at this;exact this
     clear hall2 Lr hL1 hx vr RLx e1
     go_wp2_with fail
     go_roundw
     case rel=>
      refine⟨k+1,by omega,by go_num,fun i hi=>?_,hB⟩
      by_cases hik:i<k
      ·exact hall.out i hik
      ·obtain rfl:i=k:=by omega
       rw [okI_eq HX.out,HH.out,HA.out];rfl
     case measure=>simp [intOf];omega
    case pos=>
     have j0:(j:Int)<(x.h.ws.length:Int):=by omega
     have j1:(0:Int)≤(j:Int):=by omega
     obtain⟨t,ht⟩: ∃t,x.h.ws[j]? =some t:=⟨x.h.ws[j],List.getElem?_eq_getElem hjl⟩
     obtain⟨d,of,ha,hW1⟩: ∃d of,x.aW=some ⟨d,of,none⟩∧ ∀j u,(letE.vals x.h.ws)[j]? =some u→wr.cell? ⟨d,of+j,none⟩=some u:=by
      rcases RLx with h0|h0
      ·simp [h0]at hjl
      ·exact h0
     have d1:wr.cell? ⟨d,of+j*7+1,none⟩=some (.int .i64 t.rd):=El.Lies.cell hW1 ht (j:=1) rfl
     have HT:Hid ((x.h.ws.take (j+1)).all (roadB k rs)=roadB k rs t):=by show _=_;rw [all_take ht,hall2.out,Bool.true_and]
     have HF:Hid (roadB k rs t=false→hopsB (xs.map (·.h)) rs=false):=fun q=>HN.out _ (okI_eq HX.out) (by
      have:x.h.ws.all (roadB k rs)=false:=by
       rw [List.all_eq_false]
       exact⟨t,List.mem_of_getElem? ht,by rw [q];decide⟩
      rw [this];simp)
     rw [ha]at c12
     clear ha hall2 Lr hL1 hx vr RLx hW1 ht
     go_upto_region 12 with(fail)
     have HE:Hid (roadB k rs t=if k=1 then decide (t.rd<(rs.length:Int))else decide (t.rd=0)):=rfl
     clear c12 d1 e0 i0 i1 i2 j0 j1
     by_cases hk1:k=1
     case pos=>
      have ki:(k:Int)=1:=by omega
      by_cases ht1:t.rd<(rs.length:Int)
      case pos=>
       have ht2: ¬(rs.length:Int)≤t.rd:=by omega
       go_wp2_with fail
       go_roundw
       case rel=>exact⟨j+1,by omega,by go_num,by show _=_;rw [HT.out,HE.out,if_pos hk1];simpa using ht1,hB⟩
       case measure=>simp [intOf];omega
      case neg=>
       have ht2:(rs.length:Int)≤t.rd:=by omega
       go_wp2_with fail
       go_ret
       exact⟨Num.ret_bool (HF.out (by rw [HE.out,if_pos hk1];simpa using ht1)).symm,B1.trans (hB.mono B1.size)⟩
     case neg=>
      have ki: ¬(k:Int)=1:=by omega
      have kb:((k:Int) !=1)=true:=by simp;omega
      by_cases ht1:t.rd=0
      case pos=>
       have tb:(t.rd !=0)=false:=by simp [ht1]
       have HT1:Hid (t.rd=0):=ht1
       clear ht1
       go_wp2_with fail
       go_roundw
       case rel=>exact⟨j+1,by omega,by go_num,by show _=_;rw [HT.out,HE.out,if_neg hk1];simpa using HT1.out,hB⟩
       case measure=>simp [intOf];omega
      case neg=>
       have tb:(t.rd !=0)=true:=by simp [ht1]
       go_wp2_with fail
       go_ret
       exact⟨Num.ret_bool (HF.out (by rw [HE.out,if_neg hk1];simpa using ht1)).symm,B1.trans (hB.mono B1.size)⟩
end Go.Proofs.YtfmcahjdhoabcaaGreat.Lin
