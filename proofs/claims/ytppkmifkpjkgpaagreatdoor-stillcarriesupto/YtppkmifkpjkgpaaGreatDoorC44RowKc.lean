/- For every world that holds the tables, and every frame and loads of bulk at most 1048576: StillCarries answers true: the statement and its card. -/
import Derived.Test.YtppkmifkpjkgpaaGreatDoorC43CarA
namespace Go.Proofs.YtppkmifkpjkgpaaGreatDoor
open Go.RowKit
open Go.Proofs.Tryz
set_option linter.unusedSimpArgs false
set_option linter.unusedVariables false
set_option maxHeartbeats 8000000
set_option maxRecDepth 1000000
structure MarkL (w:Vz):Prop where
 l0:w.cell? ⟨0,0,none⟩=some (.int .i64 (-9))
 l1:w.cell? ⟨0,1,none⟩=some (.string ⟨#[]⟩)
 l2:w.cell? ⟨0,2,none⟩=some (.string ⟨#[]⟩)
theorem MarkL.stay:Stay MarkL:=⟨fun _ _ a h=>⟨Qas a h.l0,Qas a h.l1,Qas a h.l2⟩⟩
abbrev loadMark:L3:=⟨-9,⟨#[]⟩,⟨#[]⟩⟩
def CarReady(g1 g2 g3 gl b8 b9:Nat)(js:List S2)(bs:List B6)(hs:List H3)(ls:List L3)(w3 wc:Vz):Prop:=
 ∃(c at_:Int) (p1 p2:Vx) (q1 q2:Nat) (x y:Vt),SB wc b8 31 #[.int .i64 c,.int .i64 at_]/\SB wc b9 50 #[.slice p1 x.length q1,.slice p2 y.length q2]/\TLst wc p1 x/\TLst wc p2 y/\x.length<=1000/\y.length<=1000/\Below w3.heap.size w3 wc/\
  ∀u,Below w3.heap.size w3 u->Calls prog 24 #[.agg #[.slice (some ⟨g1,0,none⟩) js.length (js.length+3),.slice (some ⟨g2,0,none⟩) bs.length (bs.length+3),.slice (some ⟨g3,0,none⟩) hs.length (hs.length+3)],.slice (some ⟨gl,0,none⟩) ls.length (ls.length+3)] u (CarryAs c at_ x y u)
theorem bT{w x y:Vz}(h:Below w.heap.size w x)(k:Below x.heap.size x y):Below w.heap.size w y:=h.trans (k.mono h.size)
theorem CRow.fs{w w':Vz}{a:Vx}{us:Vv}(h:CRow w a us)(g:∀u,u∈ us->¬IsSl u)(d:Fs w w'):CRow w' a us:=⟨fun i u e=>by
 obtain⟨b,c,j,k,f⟩:=h.cell i u e
 exact⟨b,c,j,Nat.lt_of_lt_of_le k d.size,(d.cell f (g u (mO e)) _).trans f⟩⟩
theorem ARow.fs{α:Type}{c:α->List Value}(d:∀e u,u∈ c e->¬IsSl u){w w':Vz}{a:Vx}{cap:Nat}{b:List α}(h:ARow c w a cap b)(f:Fs w w'):ARow c w' a cap b:=⟨h.fit,h.row.fs (fun u g=>by
 obtain⟨e,_,i⟩:=List.mem_flatMap.1 g
 exact d e u i) f⟩
theorem Qdn(s:Vs):¬IsSl (.string s):=fun ⟨_,_,_,e⟩=>by cases e
theorem S2.notSl(e:S2)(u:Value)(h:u∈ e.cells):¬IsSl u:=by
 simp only[S2.cells,List.mem_cons,List.not_mem_nil,or_false] at h;rcases h with rfl|rfl<;>exact Qdn _
theorem B6.notSl(e:B6)(u:Value)(h:u∈ e.cells):¬IsSl u:=by
 simp only[B6.cells,List.mem_cons,List.not_mem_nil,or_false] at h;rcases h with rfl|rfl|rfl|rfl|rfl|rfl<;>first|exact Qdn _|exact Qeb _ _
theorem H3.notSl(e:H3)(u:Value)(h:u∈ e.cells):¬IsSl u:=by
 simp only[H3.cells,List.mem_cons,List.not_mem_nil,or_false] at h;rcases h with rfl|rfl|rfl<;>first|exact Qdn _|exact Qeb _ _
theorem L3.notSl(e:L3)(u:Value)(h:u∈ e.cells):¬IsSl u:=by
 simp only[L3.cells,List.mem_cons,List.not_mem_nil,or_false] at h;rcases h with rfl|rfl|rfl<;>first|exact Qdn _|exact Qeb _ _
theorem Lent.fs{w w':Vz}{c d e:Nat}{f:List S2}{g:List B6}{i:List H3}(h:Lent w c d e f g i)(a:Fs w w'):Lent w' c d e f g i:=⟨h.j.fs S2.notSl a,h.b.fs B6.notSl a,h.h.fs H3.notSl a⟩
theorem Qht{X w':Vz}{t:Vr}{C:Vw}(a:Below (X.alloc (.cells C t)).heap.size (X.alloc (.cells C t)) w'):SB w' X.heap.size t C:=(SB.new X t C).below a (SB.new X t C).lt
theorem Qhu{X w':Vz}{t:Vr}{C:Vw}(a:Below (X.alloc (.cells C t)).drew.heap.size (X.alloc (.cells C t)).drew w'):SB w' X.heap.size t C:=(SB.new X t C).drew.below a (SB.new X t C).lt
theorem Qnp{w:Vz}{b:Nat}{x y z:Value}(h:SB w b 26 #[.slice none 0 0,.slice none 0 0,.slice none 0 0]):SB (((w.setCell ⟨b,0,none⟩ x).setCell ⟨b,1,none⟩ y).setCell ⟨b,2,none⟩ z) b 26 #[x,y,z]/\Only b w (((w.setCell ⟨b,0,none⟩ x).setCell ⟨b,1,none⟩ y).setCell ⟨b,2,none⟩ z)/\Fs w (((w.setCell ⟨b,0,none⟩ x).setCell ⟨b,1,none⟩ y).setCell ⟨b,2,none⟩ z):=by
 have a:Only b w (((w.setCell ⟨b,0,none⟩ x).setCell ⟨b,1,none⟩ y).setCell ⟨b,2,none⟩ z):=(((Only.refl b w).setCell _ _).setCell _ _).setCell _ _;refine⟨by simpa using ((h.set 0 x).set 1 y).set 2 z,a,Fs.of_only a h (fun u c=>?_)⟩;simp only[List.mem_cons,List.not_mem_nil,or_false] at c;rcases c with rfl|rfl|rfl<;>exact⟨_,_,_,rfl⟩
theorem Qhv{w:Vz}{b i:Nat}{t:Vr}{C:Vw}{v:Value}(h:SB w b t C)(c:C[i]?=some v):w.setCell ⟨b,i,none⟩ v=w:=by
 have hC:C.setIfInBounds i v=C:=by
  apply Array.ext_getElem?;intro j;rw[Array.getElem?_setIfInBounds]
  split
  . next e=>subst e;rw[c];split<;>simp_all
  . rfl
 have a:(w.setCell ⟨b,i,none⟩ v).heap=w.heap:=by
  apply Array.ext_getElem?;intro k;by_cases e:k=b
  .
   subst e;have:=h.set i v;rw[hC] at this;exact this.trans h.symm
  . exact Below.heap_setCell w ⟨b,i,none⟩ v k e
 cases w;simp only[World.setCell] at a ⊢;rw[a]
theorem Qhw(v:Vz):TLst v none []:=fun i s a=>by simp at a
theorem CarReady.fault{m n o q a:Nat}{h:List S2}{i:List B6}{j:List H3}{k:List L3}{d g:Vz}{c b r s:Int}(l:d.heap.size=a)(t:SB g a 31 #[.int .i64 r,.int .i64 s])(v:SB g (a+1) 50 #[.slice none 0 0,.slice none 0 0])(w:Below d.heap.size d g)
 (x:∀u,Below d.heap.size d u->Calls prog 24 #[.agg #[.slice (some ⟨m,0,none⟩) h.length (h.length+3),.slice (some ⟨n,0,none⟩) i.length (i.length+3),.slice (some ⟨o,0,none⟩) j.length (j.length+3)],.slice (some ⟨q,0,none⟩) k.length (k.length+3)] u (CarryAs c b [] [] u)):
 CarReady m n o q a (a+1) h i j k d ((g.setCell ⟨a,0,none⟩ (.int .i64 c)).setCell ⟨a,1,none⟩ (.int .i64 b)):=by
 have e:a+1≠a:=by omega
 have f:d.heap.size<=a:=Nat.le_of_eq l;exact⟨c,b,none,none,0,0,[],[],by simpa using (t.set 0 (.int .i64 c)).set 1 (.int .i64 b),(v.other e _ _).other e _ _,Qhw _,Qhw _,by decide,by decide,(w.setCell (p:=⟨a,0,none⟩) f _).setCell (p:=⟨a,1,none⟩) f _,x⟩
theorem CarReady.stress{w z A C c B f g:Nat}{j m:Vx}{n:List S2}{o:List B6}{q:List H3}{r:List L3}{d h:Vz}{x y:Vt}(D:d.heap.size=c)(E:SB h c 31 #[.int .i64 0,.int .i64 0])(s:SB h (c+1) 50 #[.slice none 0 0,.slice none 0 0])(F:Below d.heap.size d h)
 (t1:TG h B (.slice j x.length f) x) (t2:TG h B (.slice m y.length g) y) (G:x.length<=1000) (H:y.length<=1000)
 (I:∀u,Below d.heap.size d u->Calls prog 24 #[.agg #[.slice (some ⟨w,0,none⟩) n.length (n.length+3),.slice (some ⟨z,0,none⟩) o.length (o.length+3),.slice (some ⟨A,0,none⟩) q.length (q.length+3)],.slice (some ⟨C,0,none⟩) r.length (r.length+3)] u (CarryAs 0 0 x y u)):
 CarReady w z A C c (c+1) n o q r d ((h.setCell ⟨c+1,0,none⟩ (.slice j x.length f)).setCell ⟨c+1,1,none⟩ (.slice m y.length g)):=by
 have k:c≠c+1:=by omega
 have l:d.heap.size<=c+1:=by omega
 have e:=s.set 0 (.slice j x.length f);have J:=TG.other (i:=1) (x:=.slice m y.length g) (TG.other (i:=0) (x:=.slice j x.length f) t1 s (by decide)) e (by decide);have K:=TG.other (i:=1) (x:=.slice m y.length g) (TG.other (i:=0) (x:=.slice j x.length f) t2 s (by decide)) e (by decide);obtain⟨a,N,t,L⟩:=TG.tlst J;obtain⟨b,O,v,M⟩:=TG.tlst K;injection t with t _ _
 injection v with v _ _
 subst t v;exact⟨0,0,_,_,f,g,x,y,(E.other k _ _).other k _ _,by simpa using e.set 1 (.slice _ y.length g),L,M,G,H,(F.setCell (p:=⟨c+1,0,none⟩) l _).setCell (p:=⟨c+1,1,none⟩) l _,I⟩
theorem Qnq(M K Q al:Vx)(c1 c2 c3 cl:Nat)(n:List S2)(l:List B6)(p:List H3)(E:List L3)(vs:List (Nat × Rat × Rat))(w:Vz)(hg:Glob w)(hm:Marks3 w)(hk:MarkL w)(hf:FrRow w M K Q c1 c2 c3 n l p)(hz:FrSized n l p)(hl:ARow L3.cells w al cl E)(hv:LVal E vs)
 (n1:n.length<=1048576) (n2:l.length<=1048576) (n3:p.length<=1048576) (bq:E.length<=1048576) (hT:jW n+lW E<=1048576):
 Calls prog 4 #[.agg #[.slice M n.length c1,.slice K l.length c2,.slice Q p.length c3],.slice al E.length cl] w fun e w'=>e=.returned (.bool true)/\Below w.heap.size w w':=by
 obtain⟨HZ,aw⟩:=Ia hz hv;obtain⟨B0,br⟩:=nm w.heap.size;obtain⟨V,hV⟩:=nm (w.alloc (.cells #[.slice M n.length c1,.slice K l.length c2,.slice Q p.length c3] 26));have d:O (PBag w V [fun v=>SB v B0 26 #[.slice M n.length c1,.slice K l.length c2,.slice Q p.length c3],fun v=>ARow L3.cells v al cl E,fun v=>FrRow v M K Q c1 c2 c3 n l p,MarkL,Marks3,Glob]):=
  Hi (by
   rw[<-hV,<-br]
   exact((((((PBag.start w).put (P:=Glob) hg Glob.stay).put (P:=Marks3) hm Marks3.stay).put (P:=MarkL) hk MarkL.stay).put (P:=fun v=>FrRow v M K Q c1 c2 c3 n l p) hf (FrRow.stay _ _ _ _ _ _ _ _ _)).put (P:=fun v=>ARow L3.cells v al cl E) hl (ARow.stay _ _ _ _)).below (bR.alloc lZ _) |>.put (P:=fun v=>SB v w.heap.size 26 #[.slice M n.length c1,.slice K l.length c2,.slice Q p.length c3]) (SB.new w _ _) (SB.stay _ _ _))
 obtain⟨b7,c8⟩:=Ia hV br;clear hg hm hk hf hz hl hv hV br;go_enter func4,ntmps4;go_wp2_with fail;rw[b7.o];simp only[c8.o];clear b7;have Z:=d.o.get Glob (by
  (focus(repeat(first|exact mH|apply mT)))
  skip)
 go_fit (Qma V Z);rintro e w1 ⟨rfl,hb⟩;clear Z;have H:=Hi (d.o.below hb);clear d;have d:=H;clear H;clear hb;have f:=d.o.get (fun v=>SB v B0 26 #[.slice M n.length c1,.slice K l.length c2,.slice Q p.length c3]) (by
  (focus(repeat(first|exact mH|apply mT)))
  skip)
 obtain⟨X,x1,x2,-⟩:=zc f;clear f;have q:=d.o.get MarkL (by
  (focus(repeat(first|exact mH|apply mT)))
  skip)
 have m0:w1.cell? ⟨0,0,none⟩=some (.int .i64 (-9)):=q.l0;have m1:w1.cell? ⟨0,1,none⟩=some (.string ⟨#[]⟩):=q.l1;have m2:w1.cell? ⟨0,2,none⟩=some (.string ⟨#[]⟩):=q.l2;clear q;have c9:w1.heap.size≠B0:=Nat.ne_of_gt (World.block_lt_of_cell? _ _ X);have da:w1.heap.size≠0:=Nat.ne_of_gt (World.block_lt_of_cell? _ _ m0);go_upto_region 3 with fail
 go_cut [5,6] (fun s5 s6 wc=>∃bo R S T Y:Nat,s5=.pointer (some ⟨bo,0,none⟩)/\s6=.slice (some ⟨Y,0,none⟩) E.length (E.length+3)/\SB wc bo 26 #[.slice (some ⟨R,0,none⟩) n.length (n.length+3),.slice (some ⟨S,0,none⟩) l.length (l.length+3),.slice (some ⟨T,0,none⟩) p.length (p.length+3)]/\Lent wc R S T n l p/\ARow L3.cells wc (some ⟨Y,0,none⟩) (E.length+3) (E++ [loadMark,loadMark,loadMark])/\Below w1.heap.size w1 wc)
 case first=>
  go_region_held3 (fun v=>v.cell? ⟨B0,0,none⟩=some (.slice M n.length c1)/\v.cell? ⟨B0,1,none⟩=some (.slice K l.length c2)/\v.cell? ⟨B0,2,none⟩=some (.slice Q p.length c3)/\v.cell? ⟨0,0,none⟩=some (.int .i64 (-9))/\v.cell? ⟨0,1,none⟩=some (.string ⟨#[]⟩)/\v.cell? ⟨0,2,none⟩=some (.string ⟨#[]⟩)) ((first|(simp [*];done)|go_keep)) (first
   |(
    go_at_call 6;apply cM;apply Qrn M K Q c1 c2 c3 n l p
    (refine PBag.get (w0:=w) (L:=?_) ?_ Marks3 ?_
     rotate_left 1
     (focus(first|exact d.o|exact d.o.drew|exact d.o.below (bR.alloc lZ _)|exact d.o.below ((bR.alloc lZ _).drew)|exact d.o.drew.below (bR.alloc lZ _)));(focus(repeat(first|exact mH|apply mT)))
     skip)
    (refine(PBag.get (w0:=w) (L:=?_) ?_ (fun v=>FrRow v M K Q c1 c2 c3 n l p) ?_).j
     rotate_left 1
     (focus(first|exact d.o|exact d.o.drew|exact d.o.below (bR.alloc lZ _)|exact d.o.below ((bR.alloc lZ _).drew)|exact d.o.drew.below (bR.alloc lZ _)));(focus(repeat(first|exact mH|apply mT)))
     skip)
    (refine(PBag.get (w0:=w) (L:=?_) ?_ (fun v=>FrRow v M K Q c1 c2 c3 n l p) ?_).b
     rotate_left 1
     (focus(first|exact d.o|exact d.o.drew|exact d.o.below (bR.alloc lZ _)|exact d.o.below ((bR.alloc lZ _).drew)|exact d.o.drew.below (bR.alloc lZ _)));(focus(repeat(first|exact mH|apply mT)))
     skip)
    (refine(PBag.get (w0:=w) (L:=?_) ?_ (fun v=>FrRow v M K Q c1 c2 c3 n l p) ?_).h
     rotate_left 1
     (focus(first|exact d.o|exact d.o.drew|exact d.o.below (bR.alloc lZ _)|exact d.o.below ((bR.alloc lZ _).drew)|exact d.o.drew.below (bR.alloc lZ _)));(focus(repeat(first|exact mH|apply mT)))
     skip)
    exact n1;exact n2;exact n3;rintro e wn ⟨R,S,T,rfl,r1,r2,r3,B⟩;have H:=Hi (((by first|exact d.o|exact d.o.drew|exact d.o.below (bR.alloc lZ _)|exact d.o.below ((bR.alloc lZ _).drew)|exact d.o.drew.below (bR.alloc lZ _):PBag w _ _).below B).put (P:=fun v=>Lent v R S T n l p) ⟨r1,r2,r3⟩ (Lent.stay _ _ _ _ _ _));have ax:O (Below w1.heap.size w1 wn):=Hi (by first|exact B|exact(Below.refl _ _).drew.trans B|exact bT (bR.alloc lZ _) B|exact bT ((bR.alloc lZ _).drew) B);(first|with_reducible have f:=Qht (t:=26) B|with_reducible have f:=Qhu (t:=26) B|skip);(try have HX:=Hi f);(try clear f);clear d r1 r2 r3 B X x1 x2 m0 m1 m2;have d:=H;clear H
    have f:=d.o.get (fun v=>SB v B0 26 #[.slice M n.length c1,.slice K l.length c2,.slice Q p.length c3]) (by
     (focus(repeat(first|exact mH|apply mT)))
     skip)
    obtain⟨X,x1,x2,-⟩:=zc f;clear f;have q:=d.o.get MarkL (by
     (focus(repeat(first|exact mH|apply mT)))
     skip)
    have m0:wn.cell? ⟨0,0,none⟩=some (.int .i64 (-9)):=q.l0;have m1:wn.cell? ⟨0,1,none⟩=some (.string ⟨#[]⟩):=q.l1;have m2:wn.cell? ⟨0,2,none⟩=some (.string ⟨#[]⟩):=q.l2;clear q;have eb:wn.heap.size≠B0:=Nat.ne_of_gt (World.block_lt_of_cell? _ _ X);have ec:wn.heap.size≠0:=Nat.ne_of_gt (World.block_lt_of_cell? _ _ m0)
    skip)
   |(
    go_at_call 20;apply cM;apply Qpn al cl E (-9) ⟨#[]⟩ ⟨#[]⟩
    (refine PBag.get (w0:=w) (L:=?_) ?_ (fun v=>ARow L3.cells v al cl E) ?_
     rotate_left 1
     (focus(first|exact d.o|exact d.o.drew|exact d.o.below (bR.alloc lZ _)|exact d.o.below ((bR.alloc lZ _).drew)|exact d.o.drew.below (bR.alloc lZ _)));(focus(repeat(first|exact mH|apply mT)))
     skip)
    exact bq;rintro e wm ⟨Y,_,rfl,rl,B⟩;have H:=Hi (((by first|exact d.o|exact d.o.drew|exact d.o.below (bR.alloc lZ _)|exact d.o.below ((bR.alloc lZ _).drew)|exact d.o.drew.below (bR.alloc lZ _):PBag w _ _).below B).put (P:=fun v=>ARow L3.cells v (some ⟨Y,0,none⟩) (E.length+3) (E++ [loadMark,loadMark,loadMark])) rl (ARow.stay _ _ _ _));have bt:O (Below w1.heap.size w1 wm):=Hi (ax.o.trans (Below.mono (by first|exact B|exact(Below.refl _ _).drew.trans B|exact bT (bR.alloc lZ _) B|exact bT ((bR.alloc lZ _).drew) B:Below wn.heap.size wn wm) ax.o.size));(first|have f:=HX.o.below B HX.o.lt|with_reducible have f:=Qht (t:=26) B|with_reducible have f:=Qhu (t:=26) B|skip);(try clear HX);(try have HX:=Hi f)
    (try have k0:=f.cell 0);(try have k1:=f.cell 1);(try have k2:=f.cell 2);(try have f0:=f.free 0);(try have f1:=f.free 1);(try have f2:=f.free 2);(try simp only[List.getElem?_toArray,List.getElem?_cons_zero,List.getElem?_cons_succ] at k0 k1 k2);(try clear f);clear d rl B X x1 x2 m0 m1 m2;have d:=H;clear H;have f:=d.o.get (fun v=>SB v B0 26 #[.slice M n.length c1,.slice K l.length c2,.slice Q p.length c3]) (by
     (focus(repeat(first|exact mH|apply mT)))
     skip)
    obtain⟨X,x1,x2,-⟩:=zc f;clear f;have q:=d.o.get MarkL (by
     (focus(repeat(first|exact mH|apply mT)))
     skip)
    have m0:wm.cell? ⟨0,0,none⟩=some (.int .i64 (-9)):=q.l0;have m1:wm.cell? ⟨0,1,none⟩=some (.string ⟨#[]⟩):=q.l1;have m2:wm.cell? ⟨0,2,none⟩=some (.string ⟨#[]⟩):=q.l2;clear q;have ed:wm.heap.size≠B0:=Nat.ne_of_gt (World.block_lt_of_cell? _ _ X);have ee:wm.heap.size≠0:=Nat.ne_of_gt (World.block_lt_of_cell? _ _ m0)
    skip)
   |fail)
  all_goals
   go_wp2_with fail;go_meet
   case rel=>
    have b9:=d.o.get (fun v=>Lent v R S T n l p) (by
     (focus(repeat(first|exact mH|apply mT)))
     skip)
    have ca:=d.o.get (fun v=>ARow L3.cells v (some ⟨Y,0,none⟩) (E.length+3) (E++ [loadMark,loadMark,loadMark])) (by
     (focus(repeat(first|exact mH|apply mT)))
     skip)
    first
     |(obtain⟨h1,h2,h3⟩:=Qnp (x:=.slice (some ⟨R,0,none⟩) n.length (n.length+3)) (y:=.slice (some ⟨S,0,none⟩) l.length (l.length+3)) (z:=.slice (some ⟨T,0,none⟩) p.length (p.length+3)) HX.o
       exact⟨_,R,S,T,Y,rfl,rfl,h1,b9.fs h3,ca.fs L3.notSl h3,bt.o.trans (h2.below (by first|exact Nat.le_refl _|exact ax.o.size) bt.o.size)⟩)
     |exact⟨_,R,S,T,Y,rfl,rfl,SB.new _ _ _,b9.below (bR.alloc lZ _),ca.below (bR.alloc lZ _),bT bt.o (bR.alloc lZ _)⟩
 case rest=>
 obtain⟨w2,rfl⟩:∃w2,w2=wc:=⟨wc,rfl⟩;obtain⟨bo,R,S,T,Y,rfl,rfl,aa,ay,az,hb⟩:=hcut;clear X x1 x2 m0 m1 m2 c9 da;have H:=Hi (d.o.below hb);clear d;have d:=H;clear H;clear hb;have H:=Hi (((d.o.put (P:=fun v=>SB v bo 26 #[.slice (some ⟨R,0,none⟩) n.length (n.length+3),.slice (some ⟨S,0,none⟩) l.length (l.length+3),.slice (some ⟨T,0,none⟩) p.length (p.length+3)]) aa (SB.stay _ _ _)).put (P:=fun v=>Lent v R S T n l p) ay (Lent.stay _ _ _ _ _ _)).put (P:=fun v=>ARow L3.cells v (some ⟨Y,0,none⟩) (E.length+3) (E++ [loadMark,loadMark,loadMark])) az (ARow.stay _ _ _ _));clear d aa ay az;have d:=H;clear H;have f:=d.o.get (fun v=>SB v B0 26 #[.slice M n.length c1,.slice K l.length c2,.slice Q p.length c3]) (by
  (focus(repeat(first|exact mH|apply mT)))
  skip)
 obtain⟨X,x1,x2,-⟩:=zc f;clear f;go_wp2_with fail;clear X x1 x2;have Z:=d.o.get Glob (by
  (focus(repeat(first|exact mH|apply mT)))
  skip)
 have ab:=d.o.get (fun v=>FrRow v M K Q c1 c2 c3 n l p) (by
  (focus(repeat(first|exact mH|apply mT)))
  skip)
 have a0:=d.o.get (fun v=>ARow L3.cells v al cl E) (by
  (focus(repeat(first|exact mH|apply mT)))
  skip)
 go_fit (Qpw M K Q al c1 c2 c3 cl n l p E vs w2 Z ab HZ.o a0 aw.o bq);rintro e w3 ⟨hb,lv,c,a4,rfl,bf⟩;clear Z ab a0;have H:=Hi (d.o.below hb);clear d;have d:=H;clear H;clear hb;obtain⟨b8,a5⟩:=nm w3.heap.size;obtain⟨V4,ar⟩:=nm ((w3.alloc (.cells #[.int .i64 c,.int .i64 a4] 31)).alloc (.cells #[.slice none 0 0,.slice none 0 0] 50));have I:=Ub ar;have C:=Ug ar a5;have J:=Uh ar a5;obtain⟨k0,-⟩:=zc C.o;obtain⟨cb,bb,ad⟩:=Ib ar a5 bf;rw[<-ar,<-a5] at k0;clear ar a5 bf;go_upto_if 30 with fail
 rw[cb.o];simp only[bb.o];clear k0;have G:O (∀(u:Vz) (U:Below w3.heap.size w3 u),Glob u/\Lent u R S T n l p/\ARow L3.cells u (some ⟨Y,0,none⟩) (E.length+3) E):=Hi (fun u U=>by
  have d:=Hi (d.o.below U);have h1:=d.o.get Glob (by
   (focus(repeat(first|exact mH|apply mT)))
   skip)
  have h2:=d.o.get (fun v=>Lent v R S T n l p) (by
   (focus(repeat(first|exact mH|apply mT)))
   skip)
  have h3:=d.o.get (fun v=>ARow L3.cells v (some ⟨Y,0,none⟩) (E.length+3) (E++ [loadMark,loadMark,loadMark])) (by
   (focus(repeat(first|exact mH|apply mT)))
   skip)
  exact⟨h1,h2,h3.left⟩)
 go_cut [10,11] (fun ef eg wc=>CarReady R S T Y b8 (b8+1) n l p E w3 wc)
 case first=>
  have ap:∀v:Vz,TLst v none []:=fun v i s hi=>by simp at hi
  rcases ad.o with ⟨hc,cc,a6⟩|⟨au,bc,⟨hc,a6⟩|⟨hc,db,g,N,ts,hN,a6,cd,ce,bu⟩⟩
  .
   subst a6;obtain⟨HC,W⟩:=Ia hc cc;obtain⟨k0,-⟩:=zc C.o;have e0:(c == 0)=false:=by simpa using hc
   clear hc cc ad;go_wp2_with fail;go_meet
   case rel=>
    exact⟨c,a4,none,none,0,0,[],[],C.o,J.o,ap _,ap _,by decide,by decide,I.o,fun u U=>(Qnn (some ⟨R,0,none⟩) (some ⟨S,0,none⟩) (some ⟨T,0,none⟩) (some ⟨Y,0,none⟩) _ _ _ _ n l p E c a4 u (G.o u U).1 (G.o u U).2.1.row HZ.o W.o HC.o).mono (fun e w' h=>⟨_,_,h.1,.inl ⟨rfl,rfl⟩,.inl ⟨rfl,rfl⟩,h.2⟩)⟩
  .
   subst a6;obtain⟨HC,dc,dd⟩:=Ib hc au bc;obtain⟨k0,-⟩:=zc C.o;have e0:(c == 0)=false:=by simpa using hc
   clear hc au bc ad;go_wp2_with fail;go_meet
   case rel=>
    exact⟨c,a4,none,none,0,0,[],[],C.o,J.o,ap _,ap _,by decide,by decide,I.o,fun u U=>(Qno (some ⟨R,0,none⟩) (some ⟨S,0,none⟩) (some ⟨T,0,none⟩) (some ⟨Y,0,none⟩) _ _ _ _ n l p E c a4 u (G.o u U).1 (G.o u U).2.1.row HZ.o dc.o (G.o u U).2.2 (by omega) dd.o HC.o).mono (fun e w' h=>⟨_,_,h.1,.inl ⟨rfl,rfl⟩,.inl ⟨rfl,rfl⟩,h.2⟩)⟩
  .
   subst a6 hc db;obtain⟨vb,vh,aj,_⟩:=Qmd HZ.o au;obtain⟨bg,bv,_⟩:=bc.zero;obtain⟨P,ak⟩:=aj.overL bg aw.o.len (aw.o.loadV bv) hT;have m1:=aj.j;have m2:=aj.b;have m3:=aj.h;rw[show 8*1048576+70=8388678 from rfl] at ak;have cf:∀i,Wh P 8388678 (agn vs i):=fun i=>by
    have:=ak.agn vs.length i;rw[List.take_length] at this;exact this
   have hW:∀(i:Nat) (h:H3),p[i]?=some h->h.w=1∨h.w=2:=fun i h hi=>by
    have:=au.few.2.2.1 i h hi;unfold holdAt holdC at this;by_cases e1:h.w=1
    . exact .inl e1
    by_cases e2:h.w=2
    . exact .inr e2
    exfalso
    split at this
    . rw[if_pos ⟨e1,e2⟩] at this
      cases this
    . cases this
   have bw:O (∀(u:Vz),Below w3.heap.size w3 u->Calls prog 24 #[.agg #[.slice (some ⟨R,0,none⟩) n.length (n.length+3),.slice (some ⟨S,0,none⟩) l.length (l.length+3),.slice (some ⟨T,0,none⟩) p.length (p.length+3)],.slice (some ⟨Y,0,none⟩) E.length (E.length+3)] u (CarrySays l.length p.length (balRows n.length vb l.length vh) ((List.range (2*n.length)).map (agn vs)) u)):=
    Hi (fun u U=>Qhg (some ⟨R,0,none⟩) (some ⟨S,0,none⟩) (some ⟨T,0,none⟩) (some ⟨Y,0,none⟩) _ _ _ _ P 8388678 n l p vb vh E vs u (G.o u U).1 (G.o u U).2.1.row HZ.o au aj (G.o u U).2.2 bg aw.o.len (aw.o.loadV bv) ak (by decide) (by decide))
   have cg:=Hi (d.o.below I.o);have d:=cg;have Z:=d.o.get Glob (by
    (focus(repeat(first|exact mH|apply mT)))
    skip)
   have ab:=d.o.get (fun v=>FrRow v M K Q c1 c2 c3 n l p) (by
    (focus(repeat(first|exact mH|apply mT)))
    skip)
   have f:=d.o.get (fun v=>SB v B0 26 #[.slice M n.length c1,.slice K l.length c2,.slice Q p.length c3]) (by
    (focus(repeat(first|exact mH|apply mT)))
    skip)
   obtain⟨X,x1,x2,-⟩:=zc f;clear f;have ax:=Hi (Qni M K Q (some ⟨g,0,none⟩) c1 c2 c3 N 738197945 P 8388678 N n l p vb vh ts (agn vs) V4 Z.most ab aj hW lZ hN (cd.below I.o).row ce (fun i t ht=>⟨(bu i t ht).1,Nat.le_trans (bu i t ht).2 (by decide)⟩) ak.pos ak.le (fun r j=>by
    unfold bornM wider
    split
    . exact cf _
    . exact ak.at _ _) (by decide) (by decide))
   obtain⟨k0,-⟩:=zc C.o;have de:=Hi hN;clear Z ab ad au bc cd ce bu aj ak cf hW bv hN;go_wp2_with fail;go_fit ax.o;rintro e w5 ⟨D,df⟩;have dg:=de.o;subst dg;rcases df with ⟨rfl,h⟩|⟨rfl,h⟩|⟨v,us,rfl,bd,bx,ch,bh⟩
   .
    have HH:=Hi h;clear h;obtain⟨W,am⟩:=Ia (ref_F 8 0 w5) (bT I.o D);have s8:=C.o.below D C.o.lt;have s9:=J.o.below D J.o.lt;obtain⟨ae,af⟩:=Ia s8 s9;clear D k0 X x1 x2 s8 s9 C J;go_wp2_with fail;go_fit W.o;rintro e w6 ⟨rfl,A⟩;obtain⟨a7,F,av⟩:=Ib (bT am.o A) (ae.o.below A ae.o.lt) (af.o.below A af.o.lt);obtain⟨z0,z1,-⟩:=zc F.o;have f0:=F.o.free 0;have f1:=F.o.free 1;clear A W;go_wp2_with fail;go_meet
    case rel=>exact CarReady.fault bb.o F.o av.o a7.o (fun u U=>(bw.o u U).mono (fun e w' h=>Qnk h (fun x hx=>HH.o x (born_sol.2 hx))))
   .
    have HH:=Hi h;clear h;obtain⟨W,am⟩:=Ia (ref_F 9 0 w5) (bT I.o D);have s8:=C.o.below D C.o.lt;have s9:=J.o.below D J.o.lt;obtain⟨ae,af⟩:=Ia s8 s9;clear D k0 X x1 x2 s8 s9 C J;go_wp2_with fail;go_fit W.o;rintro e w6 ⟨rfl,A⟩;obtain⟨a7,F,av⟩:=Ib (bT am.o A) (ae.o.below A ae.o.lt) (af.o.below A af.o.lt);obtain⟨z0,z1,-⟩:=zc F.o;have f0:=F.o.free 0;have f1:=F.o.free 1;clear A W;go_wp2_with fail;go_meet
    case rel=>exact CarReady.fault bb.o F.o av.o a7.o (fun u U=>(bw.o u U).mono (fun e w' h=>Qnl h (Exists.elim HH.o fun x h=>Exists.elim h fun y h=>⟨x,y,born_sol.1 h.1,born_sol.1 h.2.1,h.2.2⟩)))
   .
    have ci:=Hi bx;have cj:O (∀y,Sol (l.length+p.length) (balRows n.length vb l.length vh) ((List.range (2*n.length)).map (agn vs)) y↔∀(i:Nat) (t:RT),us[i]?=some t->y i=t.2.1):=Hi (fun y=>born_sol.symm.trans (bh y));have ck:O (∀u,Below w5.heap.size w5 u->Calls prog 17 #[.agg #[.slice M n.length c1,.slice K l.length c2,.slice Q p.length c3],v] u (StressSays l.length us u)):=Hi (fun u U=>by
     have cm:∃m,u.cell? ⟨4,0,none⟩=some (.int .i64 m):=(G.o u (bT (bT I.o D) U)).1.most;rcases bd.list.own.2 with ⟨rfl,dh⟩|⟨gx,cap,eh,rfl,_,_,di,_⟩
     .
      obtain rfl:us= []:=List.eq_nil_of_length_eq_zero dh;rw[List.length_nil] at bx;exact Qwn _ _ K c2 l.length u cm (by omega) rfl rfl
     .
      obtain⟨a,cp,ea,dj⟩:=bd.row;injection ea with ea _ _
      subst ea
      exact Qwl _ _ K c2 l.length gx cap us.length 738197945 us u cm (dj.below U) (fun t ht=>Nat.le_of_eq (ch t ht)) (by decide) (by omega) rfl (by omega) di rfl rfl)
    obtain⟨va,vc,hv,_⟩:=bd.row;subst hv;obtain⟨W,am,dk,ae,af⟩:=Id (ref_F 0 0 w5) (bT I.o D) (d.o.below D) (C.o.below D C.o.lt) (J.o.below D J.o.lt);clear D k0 X x1 x2 C J bd bx ch bh d cg;go_wp2_with fail;go_fit W.o;rintro e w6 ⟨rfl,A⟩;obtain⟨a7,F,av,cn,d⟩:=Id (bT am.o A) (ae.o.below A ae.o.lt) (af.o.below A af.o.lt) A (dk.o.below A);obtain⟨z0,z1,-⟩:=zc F.o;have f0:=F.o.free 0;have f1:=F.o.free 1;have a8:O ((w6.setCell ⟨b8,0,none⟩ (.int .i64 0)).setCell ⟨b8,1,none⟩ (.int .i64 0)=w6):=Hi (by
     rw[Qhv (v:=.int .i64 0) F.o (i:=0) rfl,Qhv (v:=.int .i64 0) F.o (i:=1) rfl])
    have f:=d.o.get (fun v=>SB v B0 26 #[.slice M n.length c1,.slice K l.length c2,.slice Q p.length c3]) (by
     (focus(repeat(first|exact mH|apply mT)))
     skip)
    obtain⟨X,x1,x2,-⟩:=zc f;clear f;have dl:=Hi (ck.o w6 cn.o);rw[<-a8.o] at X x1 x2;clear A W;go_wp2_with fail;rw[a8.o];clear z0 z1 f0 f1 X x1 x2;go_fit dl.o;rintro e w7 ⟨v1,v2,x,y,rfl,bz,b0,cq,cr,hx,hy,an⟩;obtain⟨be,dm,a9⟩:=Ib (bT a7.o an) (F.o.below an F.o.lt) (av.o.below an av.o.lt);obtain⟨p1,q1,b1,_⟩:=TG.tlst bz;obtain⟨p2,q2,hv2,_⟩:=TG.tlst b0;subst b1 hv2;obtain⟨dn,dp,cs⟩:=Ib bz b0 cq;have ct:O (y.length=p.length):=Hi (by rw[cr,ci.o];omega);obtain⟨HX,HY⟩:=Ia hx hy;obtain⟨z0,-⟩:=zc a9.o
    obtain⟨-,z1,-⟩:=zc a9.o;have f0:=a9.o.free 0;have f1:=a9.o.free 1;clear bz b0 cq cr hx hy an;go_wp2_with fail;go_meet
    case rel=>exact CarReady.stress bb.o dm.o a9.o be.o dn.o dp.o (by rw[cs.o];omega) (by rw[ct.o];omega) (fun u U=>(bw.o u U).mono (fun e w' h=>Qnm h ci.o cj.o cs.o ct.o HX.o HY.o))
 case rest=>
 obtain⟨w5,rfl⟩:∃w5,w5=wc:=⟨wc,rfl⟩;obtain⟨c',dq,p1,p2,q1,q2,x,y,s8,s9,tx,ty,lx,ly,D,bi⟩:=hcut;obtain⟨C,J,dr,ds,am,dt,H⟩:=If s8 s9 tx ty D bi (d.o.below D);clear d;have d:=H;clear H s8 s9 tx ty D bi G ad I cb;go_wp2_with fail;go_loopw [44] (fun iv wr=>∃k:Nat,k<=2/\iv=.int .i64 k/\Below w5.heap.size w5 wr) (fun iv _=>2 - (intOf iv).toNat)
 case atStart=>exact⟨0,by decide,rfl,Below.refl _ _⟩
 case round=>
  obtain⟨k,hk,rfl,b2⟩:=hrel;obtain⟨b3,H⟩:=Ia b2 (d.o.below b2);clear d b2;have d:=H;clear H;by_cases ei:k<2
  .
   have ej:(k:Int)<2:=by omega
   have aa:=d.o.get (fun v=>SB v bo 26 #[.slice (some ⟨R,0,none⟩) n.length (n.length+3),.slice (some ⟨S,0,none⟩) l.length (l.length+3),.slice (some ⟨T,0,none⟩) p.length (p.length+3)]) (by
    (focus(repeat(first|exact mH|apply mT)))
    skip)
   obtain⟨y0,y1,y2,-⟩:=zc aa;clear aa;have du:=Hi (dt.o wr (bT am.o b3.o));go_wp2_with fail;clear y0 y1 y2;go_fit du.o;rintro e w6 ⟨v1,v2,rfl,b4,b5,A⟩;obtain⟨r1,b1,t1⟩:=b4.tlst;obtain⟨r2,hv2,t2⟩:=b5.tlst;subst b1 hv2;obtain⟨cu,cv⟩:=Ia b4.spw b5.spw;obtain⟨ek,ag⟩:=nm w6.heap.size;obtain⟨V7,ao⟩:=nm ((w6.alloc (.cells #[.slice r1 x.length x.length,.slice r2 y.length y.length] 50)).alloc (.cells #[.int .i64 c',.int .i64 dq] 31));have ah:Below w6.heap.size w6 V7:=by rw[<-ao];exact Below.new2 w6 _ _
   obtain⟨bj,be⟩:=Ia ah (bT A ah);have aq:=Hi (bT b3.o be.o);have ba:=Ug ao ag;have cw:=Uh ao ag;have cx:=Hi (Qhc r1 r2 p1 p2 x.length y.length q1 q2 x y V7 (t1.below ah) (t2.below ah) (dr.o.below aq.o) (ds.o.below aq.o) (by omega) (by omega));obtain⟨cy,cz,-⟩:=zc (C.o.below aq.o C.o.lt);obtain⟨c0,c4,-⟩:=zc (J.o.below aq.o J.o.lt)
   obtain⟨s0,s1,-⟩:=zc ba.o;obtain⟨s2,s3,-⟩:=zc cw.o;rw[<-ao] at cy cz c0 c4;rw[<-ao,<-ag] at s0 s1 s2 s3;obtain⟨dv,c5⟩:=Ia ao ag;clear b4 b5 t1 t2 A ah ao ag;go_wp2_with fail;rw[dv.o];simp only[c5.o];clear cy cz c0 c4 s0 s1 s2 s3;go_fit cx.o;rintro e w8 ⟨rfl,ai⟩;obtain⟨bk,bl,dw,dx⟩:=Ic (bT be.o ai) (ba.o.below ai ba.o.lt) ((cu.o.below bj.o).below ai) ((cv.o.below bj.o).below ai);obtain⟨s0,-⟩:=zc bl.o;clear ai cx;go_wp2_with fail;clear s0;go_fit (Qhs dw.o lx bk.o.size)
   rintro e w9 ⟨rfl,c6,bm,c7⟩;obtain⟨bn,dy⟩:=Ia (bk.o.trans c6) (bm _ _ dx.o);obtain⟨-,s1,-⟩:=zc (c7 _ _ _ bl.o (by decide));clear c6 bm c7;go_wp2_with fail;clear s1;go_fit (Qhs dy.o ly bn.o.size);rintro e em ⟨rfl,bp,_,_⟩;have b6:=Hi (bT b3.o (bn.o.trans bp));clear bp;go_wp2;go_roundw
   case rel=>exact⟨k+1,by omega,by go_num,b6.o⟩
   case measure=>simp[intOf];omega
  .
   obtain rfl:k=2:=by omega
   have aa:=d.o.get (fun v=>SB v bo 26 #[.slice (some ⟨R,0,none⟩) n.length (n.length+3),.slice (some ⟨S,0,none⟩) l.length (l.length+3),.slice (some ⟨T,0,none⟩) p.length (p.length+3)]) (by
    (focus(repeat(first|exact mH|apply mT)))
    skip)
   obtain⟨y0,y1,y2,-⟩:=zc aa;clear aa;have f:=d.o.get (fun v=>SB v B0 26 #[.slice M n.length c1,.slice K l.length c2,.slice Q p.length c3]) (by
    (focus(repeat(first|exact mH|apply mT)))
    skip)
   obtain⟨X,x1,x2,-⟩:=zc f;clear f;go_wp2_with fail;clear X x1 x2 y0 y1 y2;have q:=d.o.get Marks3 (by
    (focus(repeat(first|exact mH|apply mT)))
    skip)
   have ay:=d.o.get (fun v=>Lent v R S T n l p) (by
    (focus(repeat(first|exact mH|apply mT)))
    skip)
   have ab:=d.o.get (fun v=>FrRow v M K Q c1 c2 c3 n l p) (by
    (focus(repeat(first|exact mH|apply mT)))
    skip)
   go_fit (Qo5 R S T M K Q c1 c2 c3 n l p wr q ay ab n1 n2 n3);rintro e w6 ⟨rfl,A⟩;clear q ay ab;have H:=Hi (d.o.below A);clear d;have d:=H;clear H;clear A;have q:=d.o.get MarkL (by
    (focus(repeat(first|exact mH|apply mT)))
    skip)
   have m0:w6.cell? ⟨0,0,none⟩=some (.int .i64 (-9)):=q.l0;have m1:w6.cell? ⟨0,1,none⟩=some (.string ⟨#[]⟩):=q.l1;have m2:w6.cell? ⟨0,2,none⟩=some (.string ⟨#[]⟩):=q.l2;clear q;have az:=d.o.get (fun v=>ARow L3.cells v (some ⟨Y,0,none⟩) (E.length+3) (E++ [loadMark,loadMark,loadMark])) (by
    (focus(repeat(first|exact mH|apply mT)))
    skip)
   have a0:=d.o.get (fun v=>ARow L3.cells v al cl E) (by
    (focus(repeat(first|exact mH|apply mT)))
    skip)
   have dz:=Hi (Qvr Y al cl E (-9) ⟨#[]⟩ ⟨#[]⟩ w6 az a0 bq);clear az a0;go_wp2_with fail;clear m0 m1 m2;go_fit dz.o;rintro e w7 ⟨rfl,an⟩;have H:=Hi (d.o.below an);clear d;have d:=H;clear H;clear an;go_wp2;go_ret;exact⟨rfl,d.o.base⟩
end Go.Proofs.YtppkmifkpjkgpaaGreatDoor
namespace Go.Proofs.YtppkmifkpjkgpaaGreatDoor
open Go.ChangeShapes Go.WideShapes Go.ChangeAt Go.RowKit
open Go.Proofs.Tryz
set_option linter.unusedSimpArgs false
set_option linter.unusedVariables false
set_option maxHeartbeats 8000000
set_option maxRecDepth 1000000
theorem gLoad:prog.globalNamed "rafter/raftersame.Load" =some 0:=by kernel_rfl
theorem gLoadType:(prog.globals[0]?).map (·.type)=some 62:=by kernel_rfl
theorem Qt7{W:Vz}{rest:List (String × DataW Unit)}(h:laidMet prog (("rafter/raftersame.Load",Rows.laid_rafter_raftersame_Load) :: rest) W):MarkL W:=by
 obtain⟨s,⟨g,t,j,e,p,q,k,l,a,m,_,_⟩,_⟩:=h;obtain rfl:=Option.some.inj (gLoad.symm.trans k);obtain rfl:=Option.some.inj (gLoadType.symm.trans l);obtain⟨b,d,f⟩:=Qkx underlying62 underlying3 underlying56 underlying54 Qgu cellsInt Qda Qbv rfl rfl rfl rfl rfl rfl rfl rfl m;simp only[Rows.laid_rafter_raftersame_Load,loadD,textD,DataW.agg.injEq,List.cons.injEq,DataW.lit.injEq,Lit.string.injEq,Lit.int.injEq,true_and,and_true] at f;obtain⟨n,o,r⟩:=f;have c:∀i,W.cell? ⟨0,i,none⟩=j.toList[i]?:=fun i=>by rw[World.var?_cell gLoad a i];simp
 rw[d] at c;refine⟨?_,?_,?_⟩
 . rw[c 0,n];rfl
 . rw[c 1,<-Qbf o.symm];rfl
 . rw[c 2,<-Qbf r.symm];rfl
namespace stillCarries
theorem Qt8(H:Type)(enc:TypeId × Value->H)(W:Vz)(g:Nat)(a:Vw)(r z:List (DataW H))(f:List MemPlace)
 (c:∀(j:Nat) t v,Tryz.f4.params[j]?=some t->a[j]?=some v->Value.okWide prog W .any g t v)
 (A:DataW.Whole enc prog Tryz.f4.params.toList Rows.stillCarriesSpec.vars false W a.toList r z f) (hk:Rows.uptoSmall H (r++z)=true) (hG:Glob W) (G:Marks3 W) (I:MarkL W):
 Calls prog 4 a W fun e s=>∃v,e=.returned v/\Rows.stillCarriesSpec.post enc prog Tryz.f4 false true false false W a v s:=by
 have i:=A;obtain⟨p,q,k,J,rfl,K,L⟩:=A;have B:DataW.TrodAll enc prog W 0 (fun _=>true) true Tryz.f4.params.toList a.toList r p:=k;rw[Tryz.params4] at B c;obtain⟨M,N,d0,d1,u,w,rfl,rfl,rfl,C,D⟩:=trodAll_two B;obtain⟨rfl,rfl⟩:=trodVars_none J;clear k;obtain⟨cs,rfl,O⟩:=okWide_struct underlying26 (c 0 26 M rfl rfl);obtain⟨P,ll,Q,rfl⟩:=okWide_slice underlying59 (c 1 59 N rfl rfl);unfold Rows.uptoSmall at hk;have y:=of_decide_eq_true hk;rw[List.append_nil] at y;obtain⟨R,S,T,c1,c2,c3,E,U,V,rfl,X,Y,n1,Z,n3,aa⟩:=Qt6 (Nat.le_trans (Qku (by simp)) y) C;obtain⟨o,rfl,hl,ab⟩:=Que D;have F:Rows.uptoBulk d0+Rows.uptoBulk d1<=1048576:=by
  have:=y;simp only[Rows.uptoBulkAll] at this;omega
 have hj:=Qkz (H:=H) E;have hw:=Qk0 (H:=H) o;have hn:=Qeo (H:=H) loadD (fun e=>(Qky e).1) o;obtain⟨vs,hv⟩:=LVal.ex o (fun l h=>by have:=Qe2 h;omega);have m:∀x∈ u++w++ [],x.block<W.heap.size:=fun x n=>i.lt x n
 refine(Qnq R S T P c1 c2 c3 Q E U V o vs W hG G I X Y hl hv n1 Z n3 (by omega) (by omega)).mono ?_;rintro e s ⟨rfl,d⟩;refine⟨_,rfl,[d0,d1],[],u++w++ [],[],u++(w++ []),[],i,trodAll_cons_mk (shut_bool underlying4 _) trodAll_mk0,?_,rfl,d.frame _,fun h=>by cases h⟩
 show DataW.TrodAll enc prog s 0 (fun b=>decide (b<W.heap.size)) true Tryz.f4.params.toList _ [d0,d1] _
 rw[Tryz.params4];exact trodAll_cons_mk (Below.trod Qkt Qt4 Qt5 C d (fun x n=>m x (by simp[n]))) (trodAll_cons_mk (Below.trod Qkt Quc Qud D d (fun x n=>m x (by simp[n]))) trodAll_mk0)
theorem glob{W:Vz}(b:laidMetH prog Rows.stillCarriesUptoRow.laid W)(a:W.ShapedOpen prog):Glob W:=
 ⟨Qtv a,Qtu (Qam (Qam (show laidMet prog Rows.stillCarriesUptoRow.laid W from b)))⟩
theorem mark{W:Vz}(a:laidMetH prog Rows.stillCarriesUptoRow.laid W):Marks3 W:=
 Qtz (Qam (Qam (Qam (Qam (show laidMet prog Rows.stillCarriesUptoRow.laid W from a)))))
theorem markl{W:Vz}(a:laidMetH prog Rows.stillCarriesUptoRow.laid W):MarkL W:=
 Qt7 (Qam (Qam (Qam (Qam (Qam (Qam (Qam (show laidMet prog Rows.stillCarriesUptoRow.laid W from a))))))))
end stillCarries
def tabledK(w:Vz):World:=tabledF (put 0 Rows.laid_rafter_raftersame_Load w)
end Go.Proofs.YtppkmifkpjkgpaaGreatDoor
namespace Go.Proofs.YtppkmifkpjkgpaaGreatDoor
open Go.Proofs.Tryz
set_option linter.unusedSimpArgs false
set_option linter.unusedVariables false
set_option maxHeartbeats 8000000
set_option maxRecDepth 1000000
namespace stillCarries
open Go.ChangeShapes Go.WideShapes Go.ChangeAt Go.RowKit
set_option linter.unusedVariables false
set_option linter.unusedSimpArgs false
theorem Qua(a:Os):laidMet prog Rows.stillCarriesUptoRow.laid ((tabledK (World.holding prog a ⟨#[],#[],[]⟩)).forCall (fun _ _=>0) ⟨#[],#[.agg #[.slice none 0 0,.slice none 0 0,.slice none 0 0],.slice none 0 0],[]⟩).memory:=
 laidMet_of_run' 8 (by kernel_rfl) (by kernel_rfl)
theorem reads(a:Os){H:Type}(enc:TypeId × Value->H):∃places,DataW.whole enc prog ((tabledK (World.holding prog a ⟨#[],#[],[]⟩)).forCall (fun _ _=>0) ⟨#[],#[.agg #[.slice none 0 0,.slice none 0 0,.slice none 0 0],.slice none 0 0],[]⟩).memory Tryz.f4.params.toList Rows.stillCarriesSpec.vars false #[Value.agg #[.slice none 0 0,.slice none 0 0,.slice none 0 0],.slice none 0 0].toList 8=some ([.agg [.nil,.nil,.nil],.nil],[],places):=
 ⟨[],by kernel_rfl⟩
theorem Qub(d:Os)(a:d.Started)(H:Type)(enc:TypeId × Value->H)(F:Stop.Interp):
 ReturnsInHanded {} Tryz.checked d 4 .any ((Rows.OpenSpec.upto Rows.stillCarriesSpec).preRow enc prog Tryz.f4 Rows.stillCarriesUptoRow.domain false Rows.stillCarriesUptoRow.laid) (((Rows.OpenSpec.upto Rows.stillCarriesSpec).at F).post enc prog Tryz.f4 false true false false):=by
 obtain⟨places,j⟩:=reads d enc;refine returnsInHanded_of_row (C:=Tryz.checked) (s:=Rows.OpenSpec.upto Rows.stillCarriesSpec) own a (by kernel_rfl) func4
  (witness_row_at (enc:=enc) (C:=Tryz.checked) false (tabledK (World.holding prog d ⟨#[],#[],[]⟩)) #[.agg #[.slice none 0 0,.slice none 0 0,.slice none 0 0],.slice none 0 0] rfl (by kernel_rfl) (by kernel_rfl) (by kernel_rfl)
    (OpenSpec.preRow_of_cond 8 j (by kernel_rfl) (fun k hk=>by cases hk;kernel_rfl) (by kernel_rfl) (Qua d))) ?_
 intro W e f l m b g n _ c _ h i _;exact Qt8 H enc W e f l m b g n (c _ rfl) (glob h i) (mark h) (markl h)
end stillCarries
namespace stillCarries
open Go.ChangeShapes Go.WideShapes Go.ChangeAt Go.RowKit
set_option linter.unusedVariables false
set_option linter.unusedSimpArgs false
theorem Qt9:joinedFacts prog 4 Tryz.f4 (Rows.OpenSpec.upto Rows.stillCarriesSpec).bare Rows.stillCarriesUptoRow=true:=by
 unfold joinedFacts;simp only[Bool.and_eq_true]
 repeat' with_reducible apply And.intro
 all_goals (as_aux_lemma=>kernel_rfl)
theorem named:prog.funcNamed Rows.stillCarriesUptoRow.func=some 4:=by kernel_rfl
theorem said:Rows.StillCarriesUptoSaid:=
 OpenClaim.holds_of_cond 4 Tryz.f4 rfl rfl rfl rfl rfl rfl rfl ⟨rfl,rfl,rfl,rfl,rfl⟩ rfl rfl rfl rfl rfl named func4 Qt9
  (of_decide_eq_true (by kernel_rfl)) (by unfold Func.isWrapper;first|(rw [if_pos (by decide +kernel)];kernel_rfl)|(rw [if_neg (by decide +kernel)];exact⟨rfl,rfl⟩))
  (fun b a H enc _ F=>by rw[OpenClaim.pre_eq_preRow];exact Qub b a H enc F)
theorem plain(f:FuncId)(a:Func)(d:Tryz.pinned.checked.prog.funcNamed "rafter/rafterlaw.StillCarries" =some f)(b:Tryz.pinned.checked.prog.funcs[f]?=some a):
 false=Tryz.pinned.checked.prog.looks []/\∀(j:Nat) t,a.params[j]?=some t->Tryz.pinned.checked.prog.wantsStandIn t=false:=by
 obtain rfl:f=4:=Option.some.inj ((show prog.funcNamed "rafter/rafterlaw.StillCarries" =some 4 by kernel_rfl).symm.trans d) |>.symm;obtain rfl:a=Tryz.f4:=(Option.some.inj (func4.symm.trans b)).symm;refine⟨by kernel_rfl,fun j t c=>?_⟩;rw[Tryz.params4] at c;have:=Array.mem_of_getElem? c;simp only[List.mem_toArray,List.mem_cons,List.not_mem_nil,or_false] at this;rcases this with rfl|rfl
 . exact(show prog.wantsStandIn 26=false by kernel_rfl)
 . exact(show prog.wantsStandIn 59=false by kernel_rfl)
end stillCarries
theorem stillCarries_upto:Rows.StillCarriesUptoCardSaid:=
 Claim7.holds_tied_plain_at .later [] _ _ _ _ stillCarries.said (fun _ h=>by cases h) (by kernel_rfl) (fun _ h=>by cases h) stillCarriesUpto_row_tie rfl ⟨rfl,rfl⟩ (by kernel_rfl) rfl stillCarries.plain (by kernel_rfl)
end Go.Proofs.YtppkmifkpjkgpaaGreatDoor
