/- For every world that holds the tables, and every frame of bulk at most 1048576: PebbleFrames answers true; the row's statement and its card. -/
import Derived.Test.YtjhdfkcdigmfhaaGreatDoorC49PebP
import Derived.Test.YtjhdfkcdigmfhaaGreatDoorC42BalX
import Derived.Test.YtjhdfkcdigmfhaaGreatDoorC41BalJ
import Derived.Test.YtjhdfkcdigmfhaaGreatDoorCards
import Derived.Test.YtjhdfkcdigmfhaaGreatDoorTie
import Derived.Deep.DeepHandedRow
namespace Go.Proofs.YtjhdfkcdigmfhaaGreatDoor.Peb
open Go.RowKit Go.MapKept
set_option linter.unusedVariables false
set_option linter.unusedSimpArgs false
theorem Chk_zero{n:Int}{es:List (Int × Int)}{c at_:Int}(h:ChkSays n es c at_)(h1:1≤n)(h2:n≤10)(h3:es.length≤45)(hall:∀i x,es[i]?=some x→edgeC n es i x=0):c=0∧at_=0:=by
 rcases h with ⟨h,_,_⟩|⟨_,_,_,h⟩
 · omega
 ·
  rcases h with ⟨k,e,hk,_,he,hc,_⟩|⟨_,h,h'⟩
  · rw[hall k e hk] at he
    exact absurd he.symm hc
  · exact⟨h,h'⟩
def okE(n:Int)(es:List (Int × Int)):Bool:=(List.range es.length).all (fun i=>match es[i]? with|some x=>edgeC n es i x == 0|none=>true)
theorem Qd9{n:Int}{es:List (Int × Int)}(h:okE n es=true):∀i x,es[i]?=some x→edgeC n es i x=0:=by
 intro i x hx
 unfold okE at h
 have:=List.all_eq_true.1 h i (List.mem_range.2 (List.getElem?_eq_some_iff.1 hx).1)
 rw[hx] at this
 simpa using this
def sq:List (Int × Int):=[(0,1),(1,2),(2,3),(3,0)]
def sq5:List (Int × Int):=[(0,1),(1,2),(2,3),(3,0),(0,2)]
def sq6:List (Int × Int):=[(0,1),(1,2),(2,3),(3,0),(0,2),(1,3)]
theorem ok_sq:okE 4 sq=true:=by decide
theorem Qnr:okE 4 sq5=true:=by decide
theorem Qns:okE 4 sq6=true:=by decide
theorem Qnt:Sparse 4 [((0,2):Edge),(3,0),(2,3),(1,2),(0,1)]:=by
 refine Qnf (n:=4) ?_ ?_
 ·
  intro e he
  simp only[List.mem_cons,List.not_mem_nil,or_false] at he
  rcases he with rfl|rfl|rfl|rfl|rfl<;>exact⟨by decide,by decide,by decide⟩
 · decide
theorem run_five:RunR 4 [((0,2):Edge),(3,0),(2,3),(1,2),(0,1)] [true,true,true,true,true]:=by
 have h5:=Qnt
 have h4:=h5.less
 have h3:=h4.less
 have h2:=h3.less
 have h1:=h2.less
 exact⟨⟨⟨⟨⟨trivial,⟨fun _=>h1,fun _=>rfl⟩⟩,⟨fun _=>h2,fun _=>rfl⟩⟩,⟨fun _=>h3,fun _=>rfl⟩⟩,⟨fun _=>h4,fun _=>rfl⟩⟩,⟨fun _=>h5,fun _=>rfl⟩⟩
theorem Qnu:RunR 4 [((1,3):Edge),(0,2),(3,0),(2,3),(1,2),(0,1)] [false,true,true,true,true,true]:=by
 refine⟨run_five,⟨(fun h=>by cases h),fun h=>?_⟩⟩
 have:=h (fun _=>true) (by decide)
 exact absurd this (by decide)
theorem Qnv:RunR 4 [((3,0):Edge),(2,3),(1,2),(0,1)] [true,true,true,true]:=run_five.1
theorem Qnw(s:Nat)(w:World)(h:ERow w (some ⟨s,0,none⟩) 4 sq):Calls Tryz.prog 140 #[.int .i64 4,.slice (some ⟨s,0,none⟩) 4 4] w fun e w'=>e=.returned (.tuple #[.bool false,.agg #[.int .i64 0,.int .i64 0]])∧Below w.heap.size w w':=by
 have:=Qg7 4 (some ⟨s,0,none⟩) 4 sq w h (by decide)
 refine Calls.mono this ?_
 rintro e w' ⟨c,at_,b,rfl,hck,hb,h⟩
 obtain⟨rfl,rfl⟩:=Chk_zero hck (by decide) (by decide) (by decide) (Qd9 ok_sq)
 rcases h with ⟨h,_⟩|⟨_,l,hr,rfl⟩
 · exact absurd rfl h
 · obtain rfl:=Qcp Qnv hr
   exact⟨rfl,hb⟩
theorem Qnx(a:Option Addr)(cap:Nat)(w:World)(h:ERow w a cap sq5):Calls Tryz.prog 140 #[.int .i64 4,.slice a 5 cap] w fun e w'=>e=.returned (.tuple #[.bool true,.agg #[.int .i64 0,.int .i64 0]])∧Below w.heap.size w w':=by
 have:=Qg7 4 a cap sq5 w h (by decide)
 refine Calls.mono this ?_
 rintro e w' ⟨c,at_,b,rfl,hck,hb,h⟩
 obtain⟨rfl,rfl⟩:=Chk_zero hck (by decide) (by decide) (by decide) (Qd9 Qnr)
 rcases h with ⟨h,_⟩|⟨_,l,hr,rfl⟩
 · exact absurd rfl h
 · obtain rfl:=Qcp run_five hr
   exact⟨rfl,hb⟩
theorem Qny(a:Option Addr)(cap:Nat)(w:World)(h:ERow w a cap sq6):Calls Tryz.prog 63 #[.int .i64 4,.slice a 6 cap] w fun e w'=>∃v,e=.returned (.tuple #[v,.agg #[.int .i64 0,.int .i64 0]])∧BLst w' v [true,true,true,true,true,false]∧Below w.heap.size w w':=by
 have:=peb_Free 4 a cap sq6 w h (by decide)
 refine Calls.mono this ?_
 rintro e w' ⟨c,at_,v,rfl,hck,hb,h⟩
 obtain⟨rfl,rfl⟩:=Chk_zero hck (by decide) (by decide) (by decide) (Qd9 Qns)
 rcases h with ⟨h,_⟩|⟨_,l,hbr,hr⟩
 · exact absurd rfl h
 ·
  have e1:=Qcp Qnu hr
  have e2:l= [true,true,true,true,true,false]:=by rw[←List.reverse_reverse l,←e1];rfl
  subst e2
  exact⟨v,rfl,hbr.lst,hb⟩
set_option maxRecDepth 100000 in
set_option maxHeartbeats 4000000 in
theorem law_plays(w:World):Calls Tryz.prog 62 #[] w fun e w'=>e=.returned (.bool true)∧Below w.heap.size w w':=by
 obtain⟨W,hW⟩:∃W,w.alloc (.cells #[.int .i64 0,.int .i64 1,.int .i64 1,.int .i64 2,.int .i64 2,.int .i64 3,.int .i64 3,.int .i64 0] 120)=W:=⟨_,rfl⟩
 have hB0:Below w.heap.size w W:=by rw[←hW];exact(Below.refl _ _).alloc (Nat.le_refl _) _
 obtain⟨s,hs⟩:∃s,w.heap.size=s:=⟨_,rfl⟩
 have hS0:SB W s 120 #[.int .i64 0,.int .i64 1,.int .i64 1,.int .i64 2,.int .i64 2,.int .i64 3,.int .i64 3,.int .i64 0]:=by rw[←hW,←hs];exact SB.new w _ _
 have hE0:EOwn W s (.slice (some ⟨s,0,none⟩) 4 4) sq:=⟨rfl,.inr ⟨s,4,_,rfl,Nat.le_refl _,hS0,by decide,by decide,by decide,rfl⟩⟩
 have hR0:∀v,Below W.heap.size W v→ERow v (some ⟨s,0,none⟩) 4 sq:=fun v hv=>by
  obtain⟨a,c,e,h,_⟩:=(hE0.below hv).row
  injection e with e1 _ e3
  rw[e1,e3]
  exact h
 have HB0:=Hi hB0
 have HE0:=Hi hE0
 have HR0:=Hi hR0
 have HW:=Hi hW
 have HS:=Hi hs
 clear hW hB0 hS0 hE0 hR0
 go_enter Tryz.func62,Tryz.ntmps62
 go_wp2_with fail
 rw[HW.out]
 try rw[hs]
 clear hs
 go_fit (Qnw s W (HR0.out W (Below.refl _ _)))
 rintro e w1 ⟨rfl,hb1⟩
 obtain⟨F1,hF1⟩:∃F1,w1.alloc (.cells #[.int .i64 0,.int .i64 0] 57)=F1:=⟨_,rfl⟩
 have hF1s:SB F1 w1.heap.size 57 #[.int .i64 0,.int .i64 0]:=by rw[←hF1];exact SB.new w1 _ _
 have hbF1:Below W.heap.size W F1:=by rw[←hF1];exact hb1.alloc hb1.size _
 have hszF:F1.heap.size=w1.heap.size+1:=by rw[←hF1,World.size_alloc]
 obtain⟨X1,hX1⟩:∃X1,F1.alloc (.cells #[.int .i64 0,.int .i64 2] 120)=X1:=⟨_,rfl⟩
 have hbX1:Below F1.heap.size F1 X1:=by rw[←hX1];exact(Below.refl _ _).alloc (Nat.le_refl _) _
 have hcX1:∀j u,(([(0,2)]:List (Int × Int)).flatMap eCells)[j]?=some u→X1.cell? ((⟨w1.heap.size+1,0,none⟩:Addr).add j)=some u:=fun j u hj=>by
  rw[←hszF,add_at,Nat.zero_add,←hX1,(SB.new F1 120 #[.int .i64 0,.int .i64 2]).cell]
  simpa [eCells] using hj
 obtain⟨v2,w2,happ,hE2,hb2⟩:=(HE0.out.below (hbF1.trans (hbX1.mono hbF1.size))).appFull rfl ⟨w1.heap.size+1,0,none⟩ [(0,2)] (by decide) hcX1 (by decide) (by have:=hbF1.size;have:=hbX1.size;have:=HB0.out.size;have:=HS.out;omega) 1
 obtain⟨a2,cap2,rfl,hr2,_⟩:=hE2.row
 have happ':appRun Tryz.prog 119 119 (.slice (some ⟨s,0,none⟩) 4 4) (.slice (some ⟨w1.heap.size+1,0,none⟩) 1 1) ((w1.alloc (.cells #[.int .i64 0,.int .i64 0] 57)).alloc (.cells #[.int .i64 0,.int .i64 2] 120))=.ok (.slice a2 5 cap2) w2:=by rw[hF1,hX1];exact happ
 have HBF1:=Hi hbF1
 have HF1S:=Hi hF1s
 have HB2:Hid (Below F1.heap.size F1 w2):=Hi (hbX1.trans (hb2.mono hbX1.size))
 have HRI:=Hi (Qnx a2 cap2 w2 hr2)
 clear happ hb1 hF1 hF1s hbF1 hszF hX1 hbX1 hcX1 hE2 hb2 hr2
 go_wp2_with fail
 clear happ'
 go_fit HRI.out
 rintro e w3 ⟨rfl,hb3⟩
 have hb3F:Below F1.heap.size F1 w3:=HB2.out.trans (hb3.mono HB2.out.size)
 obtain⟨F2,hF2⟩:∃F2,w3.alloc (.cells #[.int .i64 0,.int .i64 0] 57)=F2:=⟨_,rfl⟩
 have hF2s:SB F2 w3.heap.size 57 #[.int .i64 0,.int .i64 0]:=by rw[←hF2];exact SB.new w3 _ _
 have hbF2:Below F1.heap.size F1 F2:=by rw[←hF2];exact hb3F.alloc hb3F.size _
 have hszF:F2.heap.size=w3.heap.size+1:=by rw[←hF2,World.size_alloc]
 obtain⟨X2,hX2⟩:∃X2,F2.alloc (.cells #[.int .i64 0,.int .i64 2,.int .i64 1,.int .i64 3] 120)=X2:=⟨_,rfl⟩
 have hbX2:Below F2.heap.size F2 X2:=by rw[←hX2];exact(Below.refl _ _).alloc (Nat.le_refl _) _
 have hcX2:∀j u,(([(0,2),(1,3)]:List (Int × Int)).flatMap eCells)[j]?=some u→X2.cell? ((⟨w3.heap.size+1,0,none⟩:Addr).add j)=some u:=fun j u hj=>by
  rw[←hszF,add_at,Nat.zero_add,←hX2,(SB.new F2 120 #[.int .i64 0,.int .i64 2,.int .i64 1,.int .i64 3]).cell]
  simpa [eCells] using hj
 have hbW2:Below W.heap.size W X2:=(HBF1.out.trans (hbF2.mono HBF1.out.size)).trans (hbX2.mono (by have:=hbF2.size;have:=HBF1.out.size;omega))
 obtain⟨v4,w4,happ,hE4,hb4⟩:=(HE0.out.below hbW2).appFull rfl ⟨w3.heap.size+1,0,none⟩ [(0,2),(1,3)] (by decide) hcX2 (by decide) (by have:=hbW2.size;have:=HB0.out.size;have:=HS.out;omega) 2
 obtain⟨a4,cap4,rfl,hr4,_⟩:=hE4.row
 have happ':appRun Tryz.prog 119 119 (.slice (some ⟨s,0,none⟩) 4 4) (.slice (some ⟨w3.heap.size+1,0,none⟩) 2 2) ((w3.alloc (.cells #[.int .i64 0,.int .i64 0] 57)).alloc (.cells #[.int .i64 0,.int .i64 2,.int .i64 1,.int .i64 3] 120))=.ok (.slice a4 6 cap4) w4:=by rw[hF2,hX2];exact happ
 have HBF2:=Hi hbF2
 have HF2S:=Hi hF2s
 have HB4:Hid (Below F2.heap.size F2 w4):=Hi (hbX2.trans (hb4.mono hbX2.size))
 have HFR:=Hi (Qny a4 cap4 w4 hr4)
 clear happ hb3 hb3F hF2 hF2s hbF2 hszF hX2 hbX2 hcX2 hbW2 hE4 hb4 hr4
 go_wp2_with fail
 clear happ'
 go_fit HFR.out
 rintro e w5 ⟨v5,rfl,hbl5,hb5⟩
 have hbF25:Below F2.heap.size F2 w5:=HB4.out.trans (hb5.mono HB4.out.size)
 obtain⟨F3,hF3⟩:∃F3,w5.alloc (.cells #[.int .i64 0,.int .i64 0] 57)=F3:=⟨_,rfl⟩
 have hF3s:SB F3 w5.heap.size 57 #[.int .i64 0,.int .i64 0]:=by rw[←hF3];exact SB.new w5 _ _
 have hb53:Below w5.heap.size w5 F3:=by rw[←hF3];exact(Below.refl _ _).alloc (Nat.le_refl _) _
 have hbF23:Below F2.heap.size F2 F3:=hbF25.trans (hb53.mono hbF25.size)
 have hbF13:Below F1.heap.size F1 F3:=HBF2.out.trans (hbF23.mono HBF2.out.size)
 have hbW3:Below W.heap.size W F3:=HBF1.out.trans (hbF13.mono HBF1.out.size)
 have i1:F3.cell? ⟨w1.heap.size,0,none⟩=some (.int .i64 0):=(HF1S.out.below hbF13 HF1S.out.lt).cell 0
 have i2:F3.cell? ⟨w3.heap.size,0,none⟩=some (.int .i64 0):=(HF2S.out.below hbF23 HF2S.out.lt).cell 0
 have i3:F3.cell? ⟨w5.heap.size,0,none⟩=some (.int .i64 0):=hF3s.cell 0
 obtain⟨G,hG⟩:∃G,F3.alloc (.cells #[.bool true,.bool true,.bool true,.bool true,.bool true,.bool false] 4)=G:=⟨_,rfl⟩
 have hbG:Below F3.heap.size F3 G:=by rw[←hG];exact(Below.refl _ _).alloc (Nat.le_refl _) _
 have hGs:SB G F3.heap.size 4 #[.bool true,.bool true,.bool true,.bool true,.bool true,.bool false]:=by rw[←hG];exact SB.new F3 _ _
 have hszF3:F3.heap.size=w5.heap.size+1:=by rw[←hF3,World.size_alloc]
 have hlG:BLst G (.slice (some ⟨w5.heap.size+1,0,none⟩) 6 6) [true,true,true,true,true,false]:=⟨_,6,rfl,fun i q hi=>⟨_,0,rfl,by rw[←hszF3];exact hGs.lt,by
  rw[←hszF3,Nat.zero_add,hGs.cell]
  match i,hi with
  |0,hi=>simpa using hi
  |1,hi=>simpa using hi
  |2,hi=>simpa using hi
  |3,hi=>simpa using hi
  |4,hi=>simpa using hi
  |5,hi=>simpa using hi
  |n+6,hi=>simp at hi⟩⟩
 have HEQ:=Hi (Qnp v5 (.slice (some ⟨w5.heap.size+1,0,none⟩) 6 6) _ G (hbl5.below (hb53.trans (hbG.mono hb53.size))) hlG (by decide))
 have HBG:Hid (Below w.heap.size w G):=Hi ((HB0.out.trans (hbW3.mono HB0.out.size)).trans (hbG.mono (by have:=hbW3.size;have:=HB0.out.size;omega)))
 have HG:=Hi hG
 have HF3:=Hi hF3
 rw[←hF3] at i1 i2 i3
 clear hbl5 hb5 hbF25 hF3 hF3s hb53 hbF23 hbF13 hbW3 hG hbG hGs hszF3 hlG
 go_wp2_with fail
 rw[HF3.out,HG.out]
 go_fit HEQ.out
 rintro e w6 ⟨rfl,hb6⟩
 have HB6:=Hi (HBG.out.trans (hb6.mono HBG.out.size))
 clear hb6 i1 i2 i3
 go_wp2
 go_ret
 exact⟨rfl,HB6.out⟩
end Go.Proofs.YtjhdfkcdigmfhaaGreatDoor.Peb
namespace Go.Proofs.YtjhdfkcdigmfhaaGreatDoor
set_option linter.unusedVariables false
set_option linter.unusedSimpArgs false
theorem Qf1(W:Nat)(M:List Vec):∀c,c≤W→∃(L S:List Vec) (hs:List Nat),Elim W M c L S hs∧L.length+S.length=M.length
 |0,_=>⟨M,[],[],Elim.start W M,rfl⟩
 |c+1,hc=>by
  obtain⟨L,S,hs,he,hl⟩:=Qf1 W M c (by omega)
  by_cases h:∀r,r∈ L→r c=0
  · exact⟨L,S,hs,he.skip h,hl⟩
  ·
   obtain⟨s,hs1,hs2⟩:∃s,s∈ L∧s c≠0:=by
    apply Classical.byContradiction
    intro hn
    exact h fun r hr=>Classical.byContradiction fun h0=>hn ⟨r,hr,h0⟩
   obtain⟨j,hj,hj2⟩:=List.getElem_of_mem hs1
   refine⟨_,_,_,he.step (j:=j) (s:=s) (by rw[List.getElem?_eq_getElem hj,hj2]) hs2,?_⟩
   rw[List.length_map,List.length_eraseIdx_of_lt hj,List.length_append,List.length_singleton]
   omega
theorem Qkw{W:Nat}{M:List Vec}(h:M.length<W):∃x:Vec,Null W M x∧∃c,c<W∧x c≠0:=by
 obtain⟨L,S,hs,he,hl⟩:=Qf1 W M W (Nat.le_refl _)
 obtain⟨h1,h2⟩:=he.done
 have hlen:=h1.len
 obtain⟨c,_,c2,c3⟩:=h1.hole (by omega)
 obtain⟨x,x1,x2⟩:=h1.solve W (fun i=>if i=c then 1 else 0) (Nat.le_refl _)
 refine⟨x,(h2 x).2 x2,c,c2,?_⟩
 rw[x1 c c3,if_pos rfl]
 decide
def sumQ:Nat→(Nat→Rat)→Rat
 |0,_=>0
 |n+1,f=>sumQ n f+f n
theorem Qf2:∀(n:Nat) (f:Nat→Rat),(∀p,p<n→f p=0)→sumQ n f=0
 |0,_,_=>rfl
 |n+1,f,h=>by rw[sumQ,Qf2 n f (fun p hp=>h p (by omega)),h n (by omega)];grind
theorem Qdn:∀(n:Nat) (f:Nat→Rat) (a:Nat),a<n→(∀p,p<n→p≠a→f p=0)→sumQ n f=f a
 |n+1,f,a,ha,h=>by
  rw[sumQ]
  by_cases e:a=n
  · subst e
    rw[Qf2 a f (fun p hp=>h p (by omega) (by omega)),Rat.zero_add]
  · rw[Qdn n f a (by omega) (fun p hp=>h p (by omega)),h n (by omega) (by omega),Rat.add_zero]
theorem Qdo:∀(n:Nat) (f:Nat→Rat) (a b:Nat),a<n→b<n→a≠b→(∀p,p<n→p≠a→p≠b→f p=0)→sumQ n f=f a+f b
 |n+1,f,a,b,ha,hb,hab,h=>by
  rw[sumQ]
  by_cases e:a=n
  ·
   subst e
   rw[Qdn a f b (by omega) (fun p hp hne=>h p (by omega) (by omega) hne)]
   grind
  ·
   by_cases e2:b=n
   · subst e2
     rw[Qdn b f a (by omega) (fun p hp hne=>h p (by omega) hne (by omega))]
   · rw[Qdo n f a b (by omega) (by omega) hab (fun p hp=>h p (by omega)),h n (by omega) (by omega) (by omega),Rat.add_zero]
theorem Qf3(W:Nat)(x:Vec):∀(n:Nat) (g h:Nat→Rat) (M:Nat→Vec),dot W (fun c=>sumQ n (fun p=>g p*M (2*p) c+h p*M (2*p+1) c)) x=sumQ n (fun p=>g p*dot W (M (2*p)) x+h p*dot W (M (2*p+1)) x)
 |0,g,h,M=>Qau W _ x (fun c hc=>by show (0:Rat)*x c=0;grind)
 |n+1,g,h,M=>by
  have key:∀V:Nat,dot V (fun c=>sumQ (n+1) (fun p=>g p*M (2*p) c+h p*M (2*p+1) c)) x=dot V (fun c=>sumQ n (fun p=>g p*M (2*p) c+h p*M (2*p+1) c)) x+(g n*dot V (M (2*n)) x+h n*dot V (M (2*n+1)) x):=by
   intro V
   induction V with
   |zero=>simp only[dot];grind
   |succ V ih=>simp only[dot,sumQ] at ih ⊢;rw[ih];grind
  rw[key W,Qf3 W x n g h M]
  rfl
theorem Qf4{α:Type}(P:α→Bool):∀(l:List α) (Q:Nat→Bool),(∀i e,l[i]?=some e→Q i=P e)→(List.range l.length).countP Q=l.countP P
 | [],_,_=>rfl
 |e :: l,Q,h=>by
  rw[List.length_cons,List.range_succ_eq_map,List.countP_cons,List.countP_cons,List.countP_map,h 0 e rfl]
  rw[Qf4 P l (Q ∘ Nat.succ) (fun i f hi=>h (i+1) f (by simpa using hi))]
theorem Qf5(S:Peb.PSet):∀n:Nat,((List.range (2*n)).filter (fun r=>S (r / 2))).length=2*Peb.sz n S
 |0=>rfl
 |n+1=>by
  have e:2*(n+1)=2*n+1+1:=by omega
  have e1:2*n / 2=n:=by omega
  have e2:(2*n+1) / 2=n:=by omega
  rw[Peb.sz_succ,e,List.range_succ,List.range_succ,List.filter_append,List.filter_append,List.length_append,List.length_append,Qf5 S n]
  cases hS:S n<;>simp[e1,e2,hS]<;>omega
theorem Qkx{n:Nat}{p:Nat × Nat × Rat × Rat}(g h:Nat→Rat)(h1:p.1<n)(h2:p.2.1<n)(h3:p.1≠p.2.1)(hg:g p.1*p.2.2.1+h p.1*p.2.2.2=g p.2.1*p.2.2.1+h p.2.1*p.2.2.2):
 sumQ n (fun q=>g q*barAt p (2*q)+h q*barAt p (2*q+1))=0:=by
 rw[Qdo n _ p.1 p.2.1 h1 h2 h3 (fun q _ ha hb=>?_)]
 ·
  have a1:barAt p (2*p.1)=p.2.2.1:=if_pos rfl
  have a2:barAt p (2*p.1+1)=p.2.2.2:=by unfold barAt;rw[if_neg (by omega),if_neg (by omega),if_pos rfl]
  have a3:barAt p (2*p.2.1)= -p.2.2.1:=by unfold barAt;rw[if_neg (by omega),if_pos rfl]
  have a4:barAt p (2*p.2.1+1)= -p.2.2.2:=by unfold barAt;rw[if_neg (by omega),if_neg (by omega),if_neg (by omega),if_pos rfl]
  rw[a1,a2,a3,a4]
  grind
 ·
  have a1:barAt p (2*q)=0:=by unfold barAt;rw[if_neg (by omega),if_neg (by omega),if_neg (by omega),if_neg (by omega)]
  have a2:barAt p (2*q+1)=0:=by unfold barAt;rw[if_neg (by omega),if_neg (by omega),if_neg (by omega),if_neg (by omega)]
  rw[a1,a2]
  grind
abbrev edgeOf(p:Nat × Nat × Rat × Rat):Peb.Edge:=(p.1,p.2.1)
structure BarsLie (n:Nat) (px py:Nat→Rat) (vb:List (Nat × Nat × Rat × Rat)):Prop where
 at_:∀(i:Nat) (p:Nat × Nat × Rat × Rat),vb[i]?=some p→p.1<n∧p.2.1<n∧p.1≠p.2.1∧p.2.2.1=px p.2.1 - px p.1∧p.2.2.2=py p.2.1 - py p.1∧¬(p.2.2.1=0∧p.2.2.2=0)
theorem BarsLie.sum{n:Nat}{px py:Nat→Rat}{vb:List (Nat × Nat × Rat × Rat)}(hv:BarsLie n px py vb)(x:Vec)(g h:Nat→Rat)
 (hg:∀(i:Nat) (p:Nat × Nat × Rat × Rat),vb[i]?=some p→g p.1*p.2.2.1+h p.1*p.2.2.2=g p.2.1*p.2.2.1+h p.2.1*p.2.2.2):
 sumQ n (fun q=>g q*dot vb.length (balM vb vb.length [] (2*q)) x+h q*dot vb.length (balM vb vb.length [] (2*q+1)) x)=0:=by
 rw[←Qf3 vb.length x n g h (balM vb vb.length [])]
 refine Qau _ _ _ fun c hc=>?_
 have hp:vb[c]?=some vb[c]:=List.getElem?_eq_getElem hc
 obtain⟨h1,h2,h3,_⟩:=hv.at_ c _ hp
 have e:(fun p=>g p*balM vb vb.length [] (2*p) c+h p*balM vb vb.length [] (2*p+1) c)=fun q=>g q*barAt vb[c] (2*q)+h q*barAt vb[c] (2*q+1):=by
  funext q
  simp only[balM,hp]
 show sumQ n (fun p=>g p*balM vb vb.length [] (2*p) c+h p*balM vb vb.length [] (2*p+1) c)*x c=0
 rw[e,Qkx g h h1 h2 h3 (hg c _ hp)]
 grind
theorem BarsLie.three{n:Nat}{px py:Nat→Rat}{vb:List (Nat × Nat × Rat × Rat)}(hv:BarsLie n px py vb)(x:Vec){a b d:Nat}(ha:a<n)(hb:b<n)(hab:a≠b)
 (hd:(px b - px a≠0∧d=2*b+1)∨(py b - py a≠0∧d=2*b))
 (h0:∀r,r<2*n→r≠2*a→r≠2*a+1→r≠d→dot vb.length (balM vb vb.length [] r) x=0):∀r,r<2*n→dot vb.length (balM vb vb.length [] r) x=0:=by
 obtain⟨F,hF⟩:∃F:Nat→Rat,F=fun r=>dot vb.length (balM vb vb.length [] r) x:=⟨_,rfl⟩
 have hF':∀r,dot vb.length (balM vb vb.length [] r) x=F r:=fun r=>by rw[hF]
 have hs:=hv.sum x
 simp only[hF'] at hs h0 ⊢
 clear hF hF'
 have m:=hs (fun p=>-(py p - py a)) (fun p=>px p - px a) (fun i p hp=>by
  obtain⟨_,_,_,e1,e2,_⟩:=hv.at_ i p hp
  rw[e1,e2]
  grind)
 have s1:=hs (fun p=>1) (fun p=>0) (fun i p hp=>rfl)
 have s2:=hs (fun p=>0) (fun p=>1) (fun i p hp=>rfl)
 have z:∀q,q<n→q≠a→q≠b→F (2*q)=0∧F (2*q+1)=0:=fun q hq h1 h2=>by
  rcases hd with ⟨_,rfl⟩|⟨_,rfl⟩<;>exact⟨h0 _ (by omega) (by omega) (by omega) (by omega),h0 _ (by omega) (by omega) (by omega) (by omega)⟩
 have hsum:∀g h:Nat→Rat,sumQ n (fun q=>g q*F (2*q)+h q*F (2*q+1))=(g a*F (2*a)+h a*F (2*a+1))+(g b*F (2*b)+h b*F (2*b+1)):=fun g h=>
  Qdo n _ a b ha hb hab (fun q hq h1 h2=>by obtain⟨z1,z2⟩:=z q hq h1 h2;rw[z1,z2];grind)
 rw[hsum] at m s1 s2
 have fb:F (2*b)=0∧F (2*b+1)=0:=by
  rcases hd with ⟨hne,rfl⟩|⟨hne,rfl⟩
  ·
   have hz:F (2*b)=0:=h0 _ (by omega) (by omega) (by omega) (by omega)
   refine⟨hz,?_⟩
   rw[hz] at m
   have:(px b - px a)*F (2*b+1)=0:=by grind
   rcases Rat.mul_eq_zero.1 this with h|h
   · exact absurd h hne
   · exact h
  ·
   have hz:F (2*b+1)=0:=h0 _ (by omega) (by omega) (by omega) (by omega)
   refine⟨?_,hz⟩
   rw[hz] at m
   have:(py b - py a)*F (2*b)=0:=by grind
   rcases Rat.mul_eq_zero.1 this with h|h
   · exact absurd h hne
   · exact h
 have fa:F (2*a)=0∧F (2*a+1)=0:=by
  obtain⟨f1,f2⟩:=fb
  rw[f1,f2] at s1 s2
  exact⟨by grind,by grind⟩
 intro r hr
 by_cases e1:r=2*a
 · rw[e1];exact fa.1
 by_cases e2:r=2*a+1
 · rw[e2];exact fa.2
 by_cases e3:r=d
 ·
  rcases hd with ⟨_,rfl⟩|⟨_,rfl⟩
  · rw[e3];exact fb.2
  · rw[e3];exact fb.1
 exact h0 r hr e1 e2 e3
theorem Qf6{α:Type}(P:α→Bool):∀l:List α,l.countP P+l.countP (fun e=>!P e)=l.length
 | []=>rfl
 |e :: l=>by
  have:=Qf6 P l
  rw[List.countP_cons,List.countP_cons,List.length_cons]
  cases P e<;>simp<;>omega
theorem BarsLie.sparse{n:Nat}{px py:Nat→Rat}{vb:List (Nat × Nat × Rat × Rat)}(hv:BarsLie n px py vb)
 (hn:∀x,Null vb.length (balRows n vb vb.length []) x→∀c,c<vb.length→x c=0):Peb.Sparse n (vb.map edgeOf):=by
 intro S hS
 apply Classical.byContradiction
 intro hlt
 have hcnt:(vb.countP (fun p=>Peb.inE S (edgeOf p)))=Peb.cntE S (vb.map edgeOf):=by unfold Peb.cntE;rw[List.countP_map];rfl
 obtain⟨C,hC⟩:∃C,Peb.cntE S (vb.map edgeOf)=C:=⟨_,rfl⟩
 rw[hC] at hcnt hlt
 obtain⟨p0,hp0,hin⟩:∃p,p∈ vb∧Peb.inE S (edgeOf p)=true:=List.countP_pos_iff.1 (by rw[hcnt];omega)
 obtain⟨i0,hi0,he0⟩:=List.getElem_of_mem hp0
 obtain⟨h1,h2,h3,h4,h5,h6⟩:=hv.at_ i0 p0 (by rw[List.getElem?_eq_getElem hi0,he0])
 obtain⟨a,ha⟩:∃a,p0.1=a:=⟨_,rfl⟩
 obtain⟨b,hb⟩:∃b,p0.2.1=b:=⟨_,rfl⟩
 rw[ha] at h1 h3 h4 h5
 rw[hb] at h2 h3 h4 h5
 have hSa:S a=true:=by rw[←ha];exact(Bool.and_eq_true_iff.1 hin).1
 have hSb:S b=true:=by rw[←hb];exact(Bool.and_eq_true_iff.1 hin).2
 obtain⟨d,hd⟩:∃d,(px b - px a≠0∧d=2*b+1)∨(py b - py a≠0∧d=2*b):=by
  by_cases hx:px b - px a=0
  · refine⟨2*b,.inr ⟨fun hy=>h6 ⟨by rw[h4];exact hx,by rw[h5];exact hy⟩,rfl⟩⟩
  · exact⟨2*b+1,.inl ⟨hx,rfl⟩⟩
 have hdb:d / 2=b∧d<2*n∧d≠2*a∧d≠2*a+1:=by rcases hd with ⟨_,rfl⟩|⟨_,rfl⟩<;>omega
 obtain⟨L,hL⟩:∃L,(List.range (2*n)).filter (fun r=>S (r / 2))=L:=⟨_,rfl⟩
 have hLm:∀r,r∈ L↔r<2*n∧S (r / 2)=true:=fun r=>by rw[←hL,List.mem_filter,List.mem_range]
 have hLl:L.length=2*Peb.sz n S:=by rw[←hL];exact Qf5 S n
 have m1:2*a∈ L:=(hLm _).2 ⟨by omega,by rw[show 2*a / 2=a by omega];exact hSa⟩
 have m2:2*a+1∈ L.erase (2*a):=(List.mem_erase_of_ne (by omega)).2 ((hLm _).2 ⟨by omega,by rw[show (2*a+1) / 2=a by omega];exact hSa⟩)
 have m3:d∈ (L.erase (2*a)).erase (2*a+1):=(List.mem_erase_of_ne hdb.2.2.2).2 ((List.mem_erase_of_ne hdb.2.2.1).2 ((hLm _).2 ⟨hdb.2.1,by rw[hdb.1];exact hSb⟩))
 obtain⟨L3,hL3⟩:∃L3,((L.erase (2*a)).erase (2*a+1)).erase d=L3:=⟨_,rfl⟩
 have hl3:L3.length+3=2*Peb.sz n S:=by
  have q1:=List.length_erase_of_mem m1
  have q2:=List.length_erase_of_mem m2
  have q3:=List.length_erase_of_mem m3
  rw[hL3] at q3
  omega
 have hL3m:∀r,r<2*n→S (r / 2)=true→r≠2*a→r≠2*a+1→r≠d→r∈ L3:=fun r hr hSr e1 e2 e3=>by
  rw[←hL3]
  exact(List.mem_erase_of_ne e3).2 ((List.mem_erase_of_ne e2).2 ((List.mem_erase_of_ne e1).2 ((hLm r).2 ⟨hr,hSr⟩)))
 obtain⟨Q,hQ⟩:∃Q:Nat→Bool,∀i p,vb[i]?=some p→Q i= !Peb.inE S (edgeOf p):=⟨fun i=>match vb[i]? with|some p=>!Peb.inE S (edgeOf p)|none=>false,fun i p hp=>by simp only[hp]⟩
 obtain⟨U,hU⟩:∃U,(List.range vb.length).filter Q=U:=⟨_,rfl⟩
 have hUl:U.length+C=vb.length:=by
  have:=Qf6 (fun p=>Peb.inE S (edgeOf p)) vb
  rw[←hU,←List.countP_eq_length_filter,Qf4 (fun p=>!Peb.inE S (edgeOf p)) vb Q hQ]
  omega
 obtain⟨x,hx,c,hc,hxc⟩:=Qkw (W:=vb.length) (M:=U.map unitV++L3.map (balM vb vb.length [])) (by rw[List.length_append,List.length_map,List.length_map];omega)
 obtain⟨hx1,hx2⟩:=Null.app.1 hx
 have hout:∀i p,vb[i]?=some p→Peb.inE S (edgeOf p)=false→x i=0:=fun i p hp hf=>by
  have hil:=(List.getElem?_eq_some_iff.1 hp).1
  have:=hx1 (unitV i) (List.mem_map.2 ⟨i,by rw[←hU,List.mem_filter,List.mem_range];exact⟨hil,by rw[hQ i p hp,hf];rfl⟩,rfl⟩)
  rw[Qmj hil] at this
  exact this
 have hrows:∀r,r<2*n→dot vb.length (balM vb vb.length [] r) x=0:=by
  refine hv.three x h1 h2 h3 hd fun r hr e1 e2 e3=>?_
  cases hSr:S (r / 2) with
  |true=>exact hx2 _ (List.mem_map.2 ⟨r,hL3m r hr hSr e1 e2 e3,rfl⟩)
  |false=>
   refine Qau _ _ _ fun i hi=>?_
   have hp:vb[i]?=some vb[i]:=List.getElem?_eq_getElem hi
   cases hf:Peb.inE S (edgeOf vb[i]) with
   |false=>rw[hout i _ hp hf];grind
   |true=>
    obtain⟨f1,f2⟩:=Bool.and_eq_true_iff.1 hf
    have n1:(vb[i]).1≠r / 2:=fun e=>by rw[←e] at hSr;rw[hSr] at f1;cases f1
    have n2:(vb[i]).2.1≠r / 2:=fun e=>by rw[←e] at hSr;rw[hSr] at f2;cases f2
    have:balM vb vb.length [] r i=0:=by
     simp only[balM,hp,barAt]
     rw[if_neg (by omega),if_neg (by omega),if_neg (by omega),if_neg (by omega)]
    rw[this]
    grind
 exact hxc (hn x (fun v hvm=>by
  obtain⟨r,hr,rfl⟩:=List.mem_map.1 hvm
  exact hrows r (List.mem_range.1 hr)) c hc)
open Go.RowKit
abbrev barE(b:B6):Int × Int:=(b.a,b.b)
theorem FrV.lies{n:Nat}{js:List S2}{bs:List B6}{hs:List H3}{vb:List (Nat × Nat × Rat × Rat)}{vh:List Nat}(hv:FrV n js bs hs vb vh)(hp:∀p,p∈ vb→p.1<js.length∧p.2.1<js.length∧¬(p.2.2.1=0∧p.2.2.2=0)):∃px py:Nat→Rat,BarsLie js.length px py vb:=by
 have ex:∀i:Nat,∃v:Rat × Rat,∀s,js[i]?=some s→QOf s.x.data.toList v.1∧QOf s.y.data.toList v.2:=fun i=>by
  rcases hi:js[i]? with _|s
  · exact⟨(0,0),fun b hb=>by cases hb⟩
  ·
   obtain⟨x,hx⟩:=QOf.ex s.x.data.toList
   obtain⟨y,hy⟩:=QOf.ex s.y.data.toList
   exact⟨(x,y),fun b e=>by cases e;exact⟨hx,hy⟩⟩
 obtain⟨f,hf⟩:=Classical.axiomOfChoice ex
 refine⟨fun i=>(f i).1,fun i=>(f i).2,⟨fun i p hi=>?_⟩⟩
 have hil:i<bs.length:=by have:=(List.getElem?_eq_some_iff.1 hi).1;have:=hv.lb;omega
 have hb:=hv.vb i bs[i] p (List.getElem?_eq_getElem hil) hi
 obtain⟨s,t,x1,y1,x2,y2,e1,e2,_,_,_,_,u1,u2,u3,u4,e3,e4⟩:=hb.ex
 obtain⟨h1,h2,h3⟩:=hp p (List.mem_of_getElem? hi)
 refine⟨h1,h2,hb.ne,?_,?_,h3⟩
 · rw[e3,(hf _ s e1).1.inj u1,(hf _ t e2).1.inj u3]
 · rw[e4,(hf _ s e1).2.inj u2,(hf _ t e2).2.inj u4]
theorem FrV.edges{n:Nat}{js:List S2}{bs:List B6}{hs:List H3}{vb:List (Nat × Nat × Rat × Rat)}{vh:List Nat}(hv:FrV n js bs hs vb vh):(bs.map barE).map Peb.toE=vb.map edgeOf:=by
 refine Qc9 (by rw[List.length_map,List.length_map,List.length_map,hv.lb]) fun i a b ha hb=>?_
 rw[List.getElem?_map] at ha hb
 obtain⟨e,he,rfl⟩:=Option.map_eq_some_iff.1 ha
 rw[List.getElem?_map] at he
 obtain⟨b6,hb6,rfl⟩:=Option.map_eq_some_iff.1 he
 obtain⟨p,hp,rfl⟩:=Option.map_eq_some_iff.1 hb
 have k:=hv.vb i b6 p hb6 hp
 simp only[Peb.toE,edgeOf,barE,k.a,k.b,Int.toNat_natCast]
theorem Qj1{α:Type}{P:α→Bool}{l:List α}{i j:Nat}{u v:α}(hij:j<i)(hj:l[j]?=some u)(hi:l[i]?=some v)(hu:P u=true)(hv:P v=true):2≤l.countP P:=by
 have e:l=l.take i++l.drop i:=(List.take_append_drop i l).symm
 rw[e,List.countP_append]
 have h1:0<(l.take i).countP P:=List.countP_pos_iff.2 ⟨u,List.mem_of_getElem? (i:=j) (by rw[List.getElem?_take_of_lt hij];exact hj),hu⟩
 have h2:0<(l.drop i).countP P:=List.countP_pos_iff.2 ⟨v,List.mem_of_getElem? (i:=0) (by rw[List.getElem?_drop];exact hi),hv⟩
 omega
theorem Qj2{js:List S2}{bs:List B6}{hs:List H3}{vb:List (Nat × Nat × Rat × Rat)}{vh:List Nat}(hv:FrV 1048576 js bs hs vb vh)(hp:∀p,p∈ vb→p.1<js.length∧p.2.1<js.length∧¬(p.2.2.1=0∧p.2.2.2=0))(hj:1≤js.length)(hh:hs= [])
 (hn:∀x,Null (bs.length+hs.length) (balRows js.length vb bs.length vh) x→∀k,k<bs.length+hs.length→x k=0):
 (∀c at_,Peb.ChkSays (js.length:Nat) (bs.map barE) c at_→c=0∧at_=0)∧∀l:List Bool,Peb.RunR js.length ((bs.map barE).map Peb.toE).reverse l.reverse→l.countP id=bs.length∧l.length=bs.length:=by
 subst hh
 obtain⟨px,py,hl⟩:=hv.lies hp
 have hvh:vh= []:=List.length_eq_zero_iff.1 hv.lh
 have hsp:Peb.Sparse js.length (vb.map edgeOf):=hl.sparse fun x hx k hk=>by
  rw[hvh,←hv.lb] at hn
  exact hn x hx k hk
 have hed:=hv.edges
 refine⟨fun c at_ hc=>Peb.Chk_zero hc (by omega) (by have:=hv.j;omega) (by rw[List.length_map];have:=hv.b;omega) fun i x hx=>?_,fun l hr=>?_⟩
 ·
  rw[List.getElem?_map] at hx
  obtain⟨b6,hb6,rfl⟩:=Option.map_eq_some_iff.1 hx
  have hil:=(List.getElem?_eq_some_iff.1 hb6).1
  obtain⟨p,hpi⟩:∃p,vb[i]?=some p:=⟨vb[i]'(by rw[hv.lb];exact hil),List.getElem?_eq_getElem _⟩
  have k:=hv.vb i b6 p hb6 hpi
  obtain⟨h1,h2,_⟩:=hp p (List.mem_of_getElem? hpi)
  have hne:=k.ne
  unfold Peb.edgeC
  rw[if_pos (by simp only[barE,k.a,k.b];omega),if_neg]
  intro hm
  obtain⟨y,hy,hly⟩:=List.mem_map.1 hm
  obtain⟨j,hj1,hj2⟩:=List.getElem_of_mem hy
  rw[List.length_take,List.length_map] at hj1
  have hji:j<i:=by omega
  have hjs:(bs.map barE)[j]?=some y:=by
   rw[←hj2,List.getElem_take]
   exact List.getElem?_eq_getElem _
  rw[List.getElem?_map] at hjs
  obtain⟨d6,hd6,rfl⟩:=Option.map_eq_some_iff.1 hjs
  obtain⟨q,hqj⟩:∃q,vb[j]?=some q:=⟨vb[j]'(by rw[hv.lb];omega),List.getElem?_eq_getElem _⟩
  have k2:=hv.vb j d6 q hd6 hqj
  simp only[Peb.lesser,barE,k.a,k.b,k2.a,k2.b,Prod.mk.injEq] at hly
  obtain⟨l1,l2⟩:=hly
  have hor:(q.1=p.1∧q.2.1=p.2.1)∨(q.1=p.2.1∧q.2.1=p.1):=by omega
  have h3:=hsp (Peb.pair p.1 p.2.1) (Peb.two_le_sz h1 h2 hne (by simp[Peb.pair]) (by simp[Peb.pair]))
  have h4:=Peb.sz_pair js.length p.1 p.2.1 hne
  have h5:2≤Peb.cntE (Peb.pair p.1 p.2.1) (vb.map edgeOf):=Qj1 (i:=i) (j:=j) (u:=edgeOf q) (v:=edgeOf p) hji (by rw[List.getElem?_map,hqj];rfl) (by rw[List.getElem?_map,hpi];rfl)
   (by rcases hor with ⟨e1,e2⟩|⟨e1,e2⟩<;>simp[Peb.inE,Peb.pair,edgeOf,e1,e2]) (by simp[Peb.inE,Peb.pair,edgeOf])
  omega
 ·
  rw[hed] at hr
  obtain⟨_,h2,h3⟩:=Peb.run_all hr (hsp.perm (List.reverse_perm _).symm)
  simp only[List.length_reverse,List.length_map,hv.lb,List.countP_reverse] at h2 h3
  exact⟨h2,h3⟩
end Go.Proofs.YtjhdfkcdigmfhaaGreatDoor
namespace Go.Proofs.YtjhdfkcdigmfhaaGreatDoor
open Go.RowKit Go.MapKept
set_option linter.unusedVariables false
set_option linter.unusedSimpArgs false
theorem Qj3{bs:List B6}{j:Nat}{b:B6}(h:bs[j]?=some b):(bs.take (j+1)).map barE=(bs.take j).map barE++ [barE b]:=by
 rw[List.take_add_one,h]
 simp
set_option maxRecDepth 100000 in
set_option maxHeartbeats 8000000 in
theorem Qj4(a1 a2 a3:Option Addr)(c1 c2 c3:Nat)(js:List S2)(bs:List B6)(hs:List H3)(w:World)(hg:Glob w)(hf:FrRow w a1 a2 a3 c1 c2 c3 js bs hs)(hz:FrSized js bs hs):
 Calls Tryz.prog 10 #[.agg #[.slice a1 js.length c1,.slice a2 bs.length c2,.slice a3 hs.length c3]] w fun e w'=>e=.returned (.bool true)∧Below w.heap.size w w':=by
 have HG:=Hi hg
 have HF:Hid (FrRow w a1 a2 none c1 c2 0 js bs []):=Hi ⟨hf.j,hf.b,⟨Nat.le_refl _,⟨fun i u hi=>by simp at hi⟩⟩⟩
 have HZ:Hid (FrSized js bs []):=Hi ⟨hz.j,hz.b,fun x hx=>by cases hx⟩
 clear hg hf hz
 obtain⟨B0,hB0⟩:∃B0,w.heap.size=B0:=⟨_,rfl⟩
 obtain⟨W,hW⟩:∃W,w.alloc (.cells #[.slice a1 js.length c1,.slice a2 bs.length c2,.slice a3 hs.length c3] 54)=W:=⟨_,rfl⟩
 have HBW:Hid (Below w.heap.size w W):=Hi (by rw[←hW];exact(Below.refl _ _).alloc (Nat.le_refl _) _)
 have HSW:Hid (SB W B0 54 #[.slice a1 js.length c1,.slice a2 bs.length c2,.slice a3 hs.length c3]):=Hi (by rw[←hW,←hB0];exact SB.new w _ _)
 have HWE:=Hi hW
 have HB0:=Hi hB0
 clear hW hB0
 go_enter Tryz.func10,Tryz.ntmps10
 go_wp2_with fail
 rw[HWE.out,HB0.out]
 go_fit (Peb.law_plays W)
 rintro e w1 ⟨rfl,hb1⟩
 have HL1:=Hi (Qjd w1 (HG.out.below (HBW.out.trans (hb1.mono HBW.out.size))))
 have HB1:=Hi (HBW.out.trans (hb1.mono HBW.out.size))
 have HS1:=Hi (HSW.out.below hb1 HSW.out.lt)
 clear hb1 HWE
 go_wp2_with fail
 go_fit HL1.out
 rintro e w2 ⟨rfl,hb2⟩
 have HB2:=Hi (HB1.out.trans (hb2.mono HB1.out.size))
 have hs2:=HS1.out.below hb2 HS1.out.lt
 have x0:w2.cell? ⟨B0,0,none⟩=some (.slice a1 js.length c1):=hs2.cell 0
 have x1:w2.cell? ⟨B0,1,none⟩=some (.slice a2 bs.length c2):=hs2.cell 1
 have x2:w2.cell? ⟨B0,2,none⟩=some (.slice a3 hs.length c3):=hs2.cell 2
 have f2:=hs2.free 2
 obtain⟨V,hV⟩:∃V,w2.setCell ⟨B0,2,none⟩ (.slice none 0 0)=V:=⟨_,rfl⟩
 have hle:w.heap.size≤B0:=by have:=HB0.out;omega
 have HBV:Hid (Below w.heap.size w V):=Hi (by rw[←hV];exact HB2.out.setCell (p:=⟨B0,2,none⟩) hle _)
 have HSV:Hid (SB V B0 54 #[.slice a1 js.length c1,.slice a2 bs.length c2,.slice none 0 0]):=Hi (by rw[←hV];exact hs2.set 2 _)
 have y0:V.cell? ⟨B0,0,none⟩=some (.slice a1 js.length c1):=HSV.out.cell 0
 have y1:V.cell? ⟨B0,1,none⟩=some (.slice a2 bs.length c2):=HSV.out.cell 1
 have y2:V.cell? ⟨B0,2,none⟩=some (.slice none 0 0):=HSV.out.cell 2
 have HV:=Hi hV
 rw[←hV] at y0 y1 y2
 have HCT:=Hi (Qjl a1 a2 none c1 c2 0 js bs [] V (HG.out.below HBV.out) (HF.out.below HBV.out) HZ.out)
 clear hb2 hs2 hV HL1 HS1
 go_wp2_with fail
 rw[HV.out]
 go_fit HCT.out
 rintro e w3 ⟨r,m,y,c,at_,rfl,hff,hnul,hb3⟩
 obtain⟨U,hU⟩:∃U,w3.alloc (.cells #[.int .i64 c,.int .i64 at_] 57)=U:=⟨_,rfl⟩
 obtain⟨G0,hG0⟩:∃G0,w3.heap.size=G0:=⟨_,rfl⟩
 have hbVU:Below V.heap.size V U:=by rw[←hU];exact hb3.alloc hb3.size _
 have HBU:=Hi (HBV.out.trans (hbVU.mono HBV.out.size))
 have HSU:=Hi (HSV.out.below hbVU HSV.out.lt)
 have HSG:Hid (SB U G0 57 #[.int .i64 c,.int .i64 at_]):=Hi (by rw[←hU,←hG0];exact SB.new w3 _ _)
 have HGL:Hid (w.heap.size≤G0):=Hi (by rw[←hG0];have h1:=HBV.out.size;have h2:=hb3.size;omega)
 have HFF:=Hi hff
 have HNU:=Hi hnul
 have p0:U.cell? ⟨G0,0,none⟩=some (.int .i64 c):=HSG.out.cell 0
 have u0:U.cell? ⟨B0,0,none⟩=some (.slice a1 js.length c1):=HSU.out.cell 0
 have u1:U.cell? ⟨B0,1,none⟩=some (.slice a2 bs.length c2):=HSU.out.cell 1
 have HU:=Hi hU
 have HG0:=Hi hG0
 rw[←hU] at p0 u0 u1
 rw[←hG0] at p0
 clear hbVU hff hnul hU hG0 hb3 HCT x0 x1 x2 f2 y0 y1 y2
 by_cases hc:c=0
 ·
  subst hc
  by_cases hm:m=0
  ·
   subst hm
   obtain⟨vb,vh,hv,hpt⟩:=Qe5 HZ.out HFF.out
   obtain⟨hnm,_,_,rfl⟩:=HFF.out.few
   have b1:1≤js.length:=Nat.le_of_not_lt fun h=>hnm (.inl (by omega))
   have b2:bs.length≤24:=Nat.le_of_not_lt fun h=>hnm (.inr (.inr (.inl h)))
   have b3:js.length≤10:=Nat.le_of_not_lt fun h=>hnm (.inr (.inl h))
   have HGR:=Hi (Qj2 hv hpt b1 rfl (HNU.out rfl rfl vb vh hv))
   clear hnm hv hpt
   go_wp2_with fail
   rw[HU.out,HG0.out]
   clear p0 u0 u1
   go_loopw [35,7] (fun iv kv wi=>∃j:Nat,j≤bs.length∧iv=.int .i64 j∧Peb.EOwn wi U.heap.size kv ((bs.take j).map barE)∧Below U.heap.size U wi) (fun iv _ _=>bs.length - (intOf iv).toNat)
   case atStart=>exact⟨0,by omega,rfl,Peb.EOwn.nil _ _,Below.refl _ _⟩
   case round=>
    obtain⟨j,hj,rfl,hown,hbi⟩:=hrel
    have HOJ:=Hi hown
    have HBI:=Hi hbi
    clear hown hbi
    by_cases hje:j<bs.length
    ·
     obtain⟨b,hbj⟩:∃b,bs[j]?=some b:=⟨bs[j],List.getElem?_eq_getElem hje⟩
     obtain⟨fb,off,rfl,hfb,d0,d1,d2,d3,d4,d5⟩:=((HF.out.below HBU.out).below HBI.out).b.bar hbj
     obtain⟨V1,hV1⟩:∃V1,wr.alloc (.cells #[.int .i64 b.a,.int .i64 b.b,.string b.c,.string b.e,.string b.l,.string b.m] 69)=V1:=⟨_,rfl⟩
     have hbV1:Below wr.heap.size wr V1:=by rw[←hV1];exact(Below.refl _ _).alloc (Nat.le_refl _) _
     have hbUV:Below U.heap.size U V1:=HBI.out.trans (hbV1.mono HBI.out.size)
     have hsv:SB V1 wr.heap.size 69 #[.int .i64 b.a,.int .i64 b.b,.string b.c,.string b.e,.string b.l,.string b.m]:=by rw[←hV1];exact SB.new wr _ _
     have p0:V1.cell? ⟨wr.heap.size,0,none⟩=some (.int .i64 b.a):=hsv.cell 0
     have p1:V1.cell? ⟨wr.heap.size,1,none⟩=some (.int .i64 b.b):=hsv.cell 1
     have hoV:=HOJ.out.below hbV1
     obtain⟨X,hX⟩:∃X,V1.alloc (.cells #[.int .i64 b.a,.int .i64 b.b] 120)=X:=⟨_,rfl⟩
     have hbX:Below V1.heap.size V1 X:=by rw[←hX];exact(Below.refl _ _).alloc (Nat.le_refl _) _
     have hszV:V1.heap.size=wr.heap.size+1:=by rw[←hV1,World.size_alloc]
     have hcX:∀i u,(([barE b]:List (Int × Int)).flatMap Peb.eCells)[i]?=some u→X.cell? ((⟨wr.heap.size+1,0,none⟩:Addr).add i)=some u:=fun i u hi=>by
      rw[←hszV,Peb.add_at,Nat.zero_add,←hX,(SB.new V1 120 #[.int .i64 b.a,.int .i64 b.b]).cell]
      simpa [Peb.eCells,barE] using hi
     have hoX:=hoV.below hbX
     obtain⟨v6,w6,happ,ho6,hg6,_⟩:=hoX.app ⟨wr.heap.size+1,0,none⟩ [barE b] hcX (by rw[List.length_map,List.length_take,List.length_singleton];omega) (by have:=hbUV.size;have:=hbX.size;omega) 1
     have hbUX:=hbUV.trans (hbX.mono hbUV.size)
     have HB6:Hid (Below U.heap.size U w6):=Hi (hbUX.trans ⟨hg6.os,hg6.tape,hg6.output,hg6.size,fun b hb=>hg6.block b (by have:=hbUX.size;omega) (fun e=>by have:=(hoX.block e.symm).1;omega)⟩)
     have HO6:Hid (Peb.EOwn w6 U.heap.size v6 ((bs.take (j+1)).map barE)):=Hi (by rw[Qj3 hbj];exact ho6)
     have happ':Peb.appRun Tryz.prog 119 119 u7 (.slice (some ⟨wr.heap.size+1,0,none⟩) 1 1) ((wr.alloc (.cells #[.int .i64 b.a,.int .i64 b.b,.string b.c,.string b.e,.string b.l,.string b.m] 69)).alloc (.cells #[.int .i64 b.a,.int .i64 b.b] 120))=.ok v6 w6:=by rw[hV1,hX];exact happ
     have q3:((j:Int)<(bs.length:Int)):=by omega
     rw[←hV1] at p0 p1
     clear hbj hV1 hbV1 hbUV hsv hoV hX hbX hszV hcX hoX happ ho6 hg6 hbUX
     go_wp2
     go_roundw
     case rel=>exact⟨j+1,by omega,by go_num,HO6.out,HB6.out⟩
     case measure=>simp[intOf];omega
    ·
     obtain rfl:j=bs.length:=by omega
     have hoe:Peb.EOwn wr U.heap.size u7 (bs.map barE):=by
      have:=HOJ.out
      rw[List.take_length] at this
      exact this
     obtain⟨ak,ck,rfl,hrk,hrl⟩:=hoe.row
     rw[List.length_map]
     have HFR:=Hi (Peb.peb_Free (js.length:Nat) ak ck (bs.map barE) wr hrk hrl)
     rw[List.length_map] at HFR
     have hsb:=HSU.out.below HBI.out HSU.out.lt
     have u0:wr.cell? ⟨B0,0,none⟩=some (.slice a1 js.length c1):=hsb.cell 0
     clear hoe hrk hrl hsb
     go_wp2_with fail
     go_fit HFR.out
     rintro e w7 ⟨c2',at2,v2,rfl,hck,hb7,hres⟩
     obtain⟨rfl,rfl⟩:=HGR.out.1 _ _ hck
     rcases hres with ⟨hc,_⟩|⟨_,l,hbr,hrun⟩
     · exact absurd rfl hc
     rw[Int.toNat_natCast] at hrun
     obtain⟨hcnt,hll⟩:=HGR.out.2 l hrun
     have hbU7:Below U.heap.size U w7:=HBI.out.trans (hb7.mono HBI.out.size)
     have hs7:=HSG.out.below hbU7 HSG.out.lt
     have z0:w7.cell? ⟨G0,0,none⟩=some (.int .i64 0):=hs7.cell 0
     have z1:w7.cell? ⟨G0,1,none⟩=some (.int .i64 0):=hs7.cell 1
     have f0:w7.frozen? ⟨G0,0,none⟩=false:=hs7.free 0
     have f1:w7.frozen? ⟨G0,1,none⟩=false:=hs7.free 1
     obtain⟨w8,hw8⟩:∃w8,(w7.setCell ⟨G0,0,none⟩ (.int .i64 0)).setCell ⟨G0,1,none⟩ (.int .i64 0)=w8:=⟨_,rfl⟩
     have hs8:SB w8 G0 57 #[.int .i64 0,.int .i64 0]:=by rw[←hw8];exact(hs7.set 0 _).set 1 _
     have hk8:∀b,b≠G0→w8.heap[b]?=w7.heap[b]?:=fun b hb=>by rw[←hw8,Below.heap_setCell _ _ _ _ hb,Below.heap_setCell _ _ _ _ hb]
     have hsz8:w8.heap.size=w7.heap.size:=by rw[←hw8];simp[World.setCell]
     have HB8:Hid (Below w.heap.size w w8):=Hi (by
      rw[←hw8]
      have h1:=HGL.out
      exact((HBU.out.trans (hbU7.mono HBU.out.size)).setCell (p:=⟨G0,0,none⟩) h1 _).setCell (p:=⟨G0,1,none⟩) h1 _)
     have y0:w8.cell? ⟨G0,0,none⟩=some (.int .i64 0):=hs8.cell 0
     have hlt:G0<U.heap.size:=HSG.out.lt
     have hb24:Peb.BLst w8 v2 l:=by
      rcases hbr.at with ⟨rfl,rfl⟩|⟨g5,c5,rfl,hg5,_,_,_,hc5⟩
      · exact⟨none,0,rfl,fun i q hi=>by simp at hi⟩
      ·
       refine⟨_,c5,rfl,fun i q hi=>⟨g5,0,rfl,?_,?_⟩⟩
       · rw[hsz8]
         exact World.block_lt_of_cell? _ _ (hc5 i q hi)
       · rw[Nat.zero_add,World.cell?_of_block (w:=w7) (hk8 g5 (by have:=HBI.out.size;omega))]
         exact hc5 i q hi
     have HM1:=Hi (Peb.ref_Many v2 l w8 hb24 (by rw[hll];omega))
     rw[hcnt] at HM1
     have HW8:=Hi hw8
     rw[←hw8] at y0
     clear hck hb7 hbr hrun hbU7 hs7 hw8 hs8 hk8 hsz8 hlt hb24 hcnt hll
     go_wp2_with fail
     rw[HW8.out]
     go_fit HM1.out
     rintro e w9 ⟨rfl,rfl⟩
     go_wp2
     go_ret
     exact⟨by simp,HB8.out⟩
  ·
   have e1:(m != 0)=true:=by simpa using hm
   go_wp2
   rw[HU.out]
   go_ret
   exact⟨rfl,HBU.out⟩
 ·
  have e0:(c != 0)=true:=by simpa using hc
  go_wp2
  rw[HU.out]
  go_ret
  exact⟨rfl,HBU.out⟩
end Go.Proofs.YtjhdfkcdigmfhaaGreatDoor
namespace Go.Proofs.YtjhdfkcdigmfhaaGreatDoor
open Go.ChangeShapes Go.WideShapes Go.ChangeAt Go.RowKit
set_option linter.unusedVariables false
set_option linter.unusedSimpArgs false
namespace pebbleFrames
set_option maxRecDepth 100000 in
set_option maxHeartbeats 1000000 in
theorem Qou(H:Type)(enc:TypeId × Value→H)(W:World)(base:Nat)(args:Array Value)(ds gs:List (DataW H))(before:List MemPlace)
 (hval:∀(j:Nat) t v,Tryz.f10.params[j]?=some t→args[j]?=some v→Value.okWide Tryz.prog W .any base t v)
 (hW:DataW.Whole enc Tryz.prog Tryz.f10.params.toList Rows.pebbleFramesSpec.vars false W args.toList ds gs before) (hk:Rows.uptoSmall H (ds++gs)=true) (hG:Glob W):
 Calls Tryz.prog 10 args W fun e W'=>∃v,e=.returned v∧Rows.pebbleFramesSpec.post enc Tryz.prog Tryz.f10 false true false false W args v W':=by
 have hW':=hW
 obtain⟨p,q,hA0,hV,rfl,hfz,hnd⟩:=hW
 have hA:DataW.TrodAll enc Tryz.prog W 0 (fun _=>true) true Tryz.f10.params.toList args.toList ds p:=hA0
 rw[Tryz.params10] at hA hval
 obtain⟨v0,d0,rfl,rfl,h0⟩:=trodAll_one hA
 obtain⟨rfl,rfl⟩:=trodVars_none hV
 clear hA0
 obtain⟨cs,rfl,hcs⟩:=okWide_struct Tryz.underlying54 (hval 0 54 v0 rfl rfl)
 unfold Rows.uptoSmall at hk
 have hb:=of_decide_eq_true hk
 rw[List.append_nil] at hb
 obtain⟨a1,a2,a3,c1,c2,c3,js,bs,hs,rfl,hf,hz,n1,n2,n3⟩:=Qot (Nat.le_trans (Qhw (by simp)) hb) h0
 have hlt:∀x∈ p++ [],x.block<W.heap.size:=fun x hx=>hW'.lt x hx
 refine(Qj4 a1 a2 a3 c1 c2 c3 js bs hs W hG hf hz).mono ?_
 rintro e W' ⟨rfl,hbel⟩
 refine⟨_,rfl,[d0],[],p++ [],[],p++ [],[],hW',trodAll_cons_mk (shut_bool Tryz.underlying4 _) trodAll_mk0,?_,rfl,hbel.frame _,fun h=>by cases h⟩
 show DataW.TrodAll enc Tryz.prog W' 0 (fun b=>decide (b<W.heap.size)) true Tryz.f10.params.toList _ [d0] _
 rw[Tryz.params10]
 exact trodAll_cons_mk (Below.trod Qof Qor Qos h0 hbel (fun x hx=>hlt x (by simp[hx]))) trodAll_mk0
theorem glob{W:World}(hL:laidMetH Tryz.prog Rows.pebbleFramesUptoRow.laid W)(hsh:W.ShapedOpen Tryz.prog):Glob W:=
 ⟨Qom hsh,Qol (Qhx (Qhx (show laidMet Tryz.prog Rows.pebbleFramesUptoRow.laid W from hL)))⟩
end pebbleFrames
def tabledP(w:World):World:=
 put 11 Rows.laid_math_bits_deBruijn32tab (put 12 Rows.laid_math_bits_deBruijn64tab (put 8 Rows.laid_internal_strconv_uint64pow10
  (put 7 Rows.laid_unicode_utf8_acceptRanges (put 6 Rows.laid_unicode_utf8_first w))))
end Go.Proofs.YtjhdfkcdigmfhaaGreatDoor
