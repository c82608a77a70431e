/- package arch: slacksOf: the slacks that have a line. -/
import Derived.Deep.WholeRow
import Derived.Test.YtldjeecnapgakaaGreatDoorV40ArkN
import Derived.Test.YtldjeecnapgakaaGreatDoorV38ArkJ
namespace Go.Proofs.YtldjeecnapgakaaGreatDoor
open Go Go.RowKit Go.Shelf
open Go.Proofs.Tryz
set_option linter.unusedSimpArgs false
set_option linter.unusedVariables false
set_option maxHeartbeats 8000000
set_option maxRecDepth 1000000
attribute [local go_sem] Oper.semAt_some
theorem info3:(prog.info? 113).map (·.size)=some 36:=by kernel_rfl
theorem S4.cells3_one{w:World}{A E:Nat}{r s t:S4}(hr:S4.ok w A E r)(hs:S4.ok w A E s)(ht:S4.ok w A E t):(S4.cells3 r s t).all (·.oneCell')=true:=by
 have h1:=hr.ones;have h2:=hs.ones;have h3:=ht.ones;simp[S4.cells3,h1,h2,h3]
def abq(pm po:S4->Rat)(r s t:S4):Rat:=pm s*(s.a.q - r.a.q+(t.a.q - s.a.q)) - po r*(t.a.q - s.a.q) - po t*(s.a.q - r.a.q)
def thN(ts:List FE)(x:Thr):Rat:=abq (fun t=>t.l.q) (fun t=>t.u.q) (stn ts x.1) (stn ts x.2.1) (stn ts x.2.2)
def thR(ts:List FE)(x:Thr):Rat:=abq (fun t=>t.u.q) (fun t=>t.l.q) (stn ts x.1) (stn ts x.2.1) (stn ts x.2.2)
def thB(ts:List FE)(x:Thr):Rat:=abq (fun t=>t.s.q) (fun t=>t.s.q) (stn ts x.1) (stn ts x.2.1) (stn ts x.2.2)
def btw(ts:List FE)(x:Thr)(h:Rat):Prop:=thN ts x<=h*thB ts x/\h*thB ts x<=thR ts x
def inTh(n:Nat)(x:Thr):Prop:=x.1<x.2.1/\x.2.1<x.2.2/\x.2.2<n
def slackOK(n:Nat)(ts:List FE)(h:Rat):Prop:=0<=h/\∀i j k,i<j->j<k->k<n->btw ts (i,j,k) h
theorem Qkz{n:Nat}{ts:List FE}{x:Thr}{pre:List Thr}{a a':Rat}{m m':Option Rat}(hx:inTh n x)(hp:0<=thB ts x)(hi:∀h,InR a m h↔0<=h/\∀y,y∈ pre->btw ts y h)
 (h:(thB ts x=0/\(thN ts x<=0/\0<=thR ts x)/\a'=a/\m'=m)∨(thB ts x≠0/\a'=cutL a (thN ts x / thB ts x)/\m'=cutM m (thR ts x / thB ts x))):∀h,InR a' m' h↔0<=h/\∀y,y∈ pre++ [x]->btw ts y h:=by
 intro s;have key:(∀y,y∈ pre++ [x]->btw ts y s)↔(∀y,y∈ pre->btw ts y s)/\btw ts x s:=by
  simp only[List.mem_append,List.mem_singleton];constructor
  . intro h1;exact⟨fun y hy=>h1 y (Or.inl hy),h1 x (Or.inr rfl)⟩
  .
   rintro⟨h1,h2⟩ y (hy|rfl)
   . exact h1 y hy
   . exact h2
 rw[key,<-and_assoc,<-hi];rcases h with ⟨h0,h1,rfl,rfl⟩|⟨h0,rfl,rfl⟩
 .
  have:btw ts x s:=by
   unfold btw;rw[h0];exact(Qfy s).2 h1
  exact⟨fun h=>⟨h,this⟩,fun h=>h.1⟩
 . exact Qkc (by grind) s
def SlkSays(n K:Nat)(ts:List FE)(w:World)(e:Ending)(w':World):Prop:=
 Below w.heap.size w w'/\∃(a m:FE) (o ok:Bool),e=.returned (.tuple #[.agg #[a.x,a.y,a.z,m.x,m.y,m.z,.bool o],.bool ok])/\FE.ok w' a/\FE.ok w' m/\a.k<=K/\m.k<=K/\
  ((ok=false/\∀h,¬slackOK n ts h)∨(ok=true/\InR a.q (mostOf m o) a.q/\∀h,InR a.q (mostOf m o) h↔slackOK n ts h))
def zero7:Array Value:=#[.bool false,.slice none 0 0,.slice none 0 0,.bool false,.slice none 0 0,.slice none 0 0,.bool false]
structure SlkI (w:World) (B g n K:Nat) (ts:List FE) (pre:List Thr) (U:World):Prop where
 th:∀x,x∈ pre->inTh n x
 sk:∃a m o,SkAt U (B+5) a m o/\a.k<=K+K/\m.k<=K+K/\∀h,InR a.q (mostOf m o) h↔0<=h/\∀y,y∈ pre->btw ts y h
 r2:SB U B 65 zero7
 r3:SB U (B+1) 4 #[.bool false]
 f4:SB U (B+2) 76 #[.func (.func 64) #[] #[]]
 f5:SB U (B+3) 76 #[.func (.func 65) #[] #[]]
 f6:SB U (B+4) 76 #[.func (.func 66) #[] #[]]
 env:EnvT g (B+6) n ts U
 base:Below w.heap.size w U
 big:B+7<=U.heap.size
structure SlkX (w:World) (B n:Nat) (ts:List FE) (U:World):Prop where
 none:∃x,inTh n x/\∀h,¬btw ts x h
 r2:SB U B 65 zero7
 r3:SB U (B+1) 4 #[.bool false]
 base:Below w.heap.size w U
theorem SlkI.below{w U V:World}{B g n K:Nat}{ts:List FE}{pre:List Thr}(h:SlkI w B g n K ts pre U)(hb:Below U.heap.size U V):SlkI w B g n K ts pre V:=by
 obtain⟨a,m,o,h1,h2,h3,h4⟩:=h.sk;exact⟨h.th,⟨a,m,o,h1.below hb,h2,h3,h4⟩,h.r2.below hb h.r2.lt,h.r3.below hb h.r3.lt,h.f4.below hb h.f4.lt,h.f5.below hb h.f5.lt,h.f6.below hb h.f6.lt,⟨h.env.1.below hb,h.env.2.below hb h.env.2.lt⟩,h.base.trans (hb.mono h.base.size),Nat.le_trans h.big hb.size⟩
theorem NoC.ne{U:World}{l b:Nat}{t:TypeId}{C:Array Value}(hn:NoC U l)(hs:SB U b t C):b≠l:=fun e=>by subst e;have:=hn _ hs;cases this
theorem FE.ok.onlyN{U V:World}{l:Nat}{t:FE}(h:FE.ok U t)(ho:Only l U V)(hn:NoC U l):FE.ok V t:=⟨h.1.onlyN ho hn,h.2⟩
theorem SlkI.put{w U:World}{B g n K l:Nat}{ts:List FE}{pre:List Thr}{ob:Obj}(h:SlkI w B g n K ts pre U)(hl:w.heap.size<=l)(hn:NoC U l):SlkI w B g n K ts pre (U.putObj l ob):=by
 obtain⟨a,m,o,h1,h2,h3,h4⟩:=h.sk;have ho:=Only.put U l ob;exact⟨h.th,⟨a,m,o,⟨h1.blk.only ho (hn.ne h1.blk),h1.least.onlyN ho hn,h1.most.onlyN ho hn⟩,h2,h3,h4⟩,h.r2.only ho (hn.ne h.r2),h.r3.only ho (hn.ne h.r3),h.f4.only ho (hn.ne h.f4),h.f5.only ho (hn.ne h.f5),h.f6.only ho (hn.ne h.f6),⟨h.env.1.onlyN ho hn,h.env.2.only ho (hn.ne h.env.2)⟩,Only.fresh h.base ho hl,by have:=h.big;have:=ho.size;omega⟩
theorem SlkX.put{w U:World}{B n l:Nat}{ts:List FE}{ob:Obj}(h:SlkX w B n ts U)(hl:w.heap.size<=l)(hn:NoC U l):SlkX w B n ts (U.putObj l ob):=
 ⟨h.none,h.r2.only (Only.put U l ob) (hn.ne h.r2),h.r3.only (Only.put U l ob) (hn.ne h.r3),Only.fresh h.base (Only.put U l ob) hl⟩
theorem SB.newAt{w:World}{b:Nat}(h:w.heap.size=b)(t:TypeId)(C:Array Value):SB (w.alloc (.cells C t)) b t C:=h ▸ SB.new w t C
theorem SlkI.begin{w V V5:World}{B g n:Nat}{ts:List FE}(ht:TBlk 82 w g ts)(hB:w.heap.size=B)
 (hV:(((((w.alloc (.cells #[.bool false,.slice none 0 0,.slice none 0 0,.bool false,.slice none 0 0,.slice none 0 0,.bool false] 65)).alloc (.cells #[.bool false] 4)).alloc (.cells #[.func (.func 64) #[] #[]] 76)).alloc (.cells #[.func (.func 65) #[] #[]] 76)).alloc (.cells #[.func (.func 66) #[] #[]] 76)).alloc (.cells #[.bool false,.slice none 0 0,.slice none 0 0,.bool false,.slice none 0 0,.slice none 0 0,.bool true] 65)=V)
 (hV5:V5=V.alloc (.cells #[.slice (some ⟨g,0,none⟩) n n] 68)):V.heap.size=B+6/\V5.heap.size=B+7/\∀K,1<=K->SlkI w B g n K ts [] V5:=by
 obtain⟨W1,h1⟩:∃W,w.alloc (.cells #[.bool false,.slice none 0 0,.slice none 0 0,.bool false,.slice none 0 0,.slice none 0 0,.bool false] 65)=W:=⟨_,rfl⟩;rw[h1] at hV;obtain⟨W2,h2⟩:∃W,W1.alloc (.cells #[.bool false] 4)=W:=⟨_,rfl⟩;rw[h2] at hV;obtain⟨W3,h3⟩:∃W,W2.alloc (.cells #[.func (.func 64) #[] #[]] 76)=W:=⟨_,rfl⟩;rw[h3] at hV;obtain⟨W4,h4⟩:∃W,W3.alloc (.cells #[.func (.func 65) #[] #[]] 76)=W:=⟨_,rfl⟩;rw[h4] at hV;obtain⟨W5,h5⟩:∃W,W4.alloc (.cells #[.func (.func 66) #[] #[]] 76)=W:=⟨_,rfl⟩;rw[h5] at hV;have z1:W1.heap.size=B+1:=by rw[<-h1,World.size_alloc,hB]
 have z2:W2.heap.size=B+2:=by rw[<-h2,World.size_alloc,z1]
 have z3:W3.heap.size=B+3:=by rw[<-h3,World.size_alloc,z2]
 have z4:W4.heap.size=B+4:=by rw[<-h4,World.size_alloc,z3]
 have z5:W5.heap.size=B+5:=by rw[<-h5,World.size_alloc,z4]
 have z6:V.heap.size=B+6:=by rw[<-hV,World.size_alloc,z5]
 have z7:V5.heap.size=B+7:=by rw[hV5,World.size_alloc,z6]
 have s1:SB W1 B 65 zero7:=by rw[<-h1];exact SB.newAt hB _ _
 have s2:SB W2 (B+1) 4 #[.bool false]:=by rw[<-h2];exact SB.newAt z1 _ _
 have s3:SB W3 (B+2) 76 #[.func (.func 64) #[] #[]]:=by rw[<-h3];exact SB.newAt z2 _ _
 have s4:SB W4 (B+3) 76 #[.func (.func 65) #[] #[]]:=by rw[<-h4];exact SB.newAt z3 _ _
 have s5:SB W5 (B+4) 76 #[.func (.func 66) #[] #[]]:=by rw[<-h5];exact SB.newAt z4 _ _
 have s6:SB V (B+5) 65 #[.bool false,.slice none 0 0,.slice none 0 0,.bool false,.slice none 0 0,.slice none 0 0,.bool true]:=by rw[<-hV];exact SB.newAt z5 _ _
 have s7:SB V5 (B+6) 68 #[.slice (some ⟨g,0,none⟩) n n]:=by rw[hV5];exact SB.newAt z6 _ _
 have b1:Below B w W1:=by rw[<-h1,<-hB];exact(Below.refl _ _).alloc lZ _
 have b2:Below B w W2:=by rw[<-h2];exact b1.alloc (by omega) _
 have b3:Below B w W3:=by rw[<-h3];exact b2.alloc (by omega) _
 have b4:Below B w W4:=by rw[<-h4];exact b3.alloc (by omega) _
 have b5:Below B w W5:=by rw[<-h5];exact b4.alloc (by omega) _
 have b6:Below B w V:=by rw[<-hV];exact b5.alloc (by omega) _
 have b7:Below w.heap.size w V5:=by rw[hV5,hB];exact b6.alloc (by omega) _
 have e2:∀{g' t C},SB W1 g' t C->SB W2 g' t C:=fun h=>by rw[<-h2];exact h.alloc _
 have e3:∀{g' t C},SB W2 g' t C->SB W3 g' t C:=fun h=>by rw[<-h3];exact h.alloc _
 have e4:∀{g' t C},SB W3 g' t C->SB W4 g' t C:=fun h=>by rw[<-h4];exact h.alloc _
 have e5:∀{g' t C},SB W4 g' t C->SB W5 g' t C:=fun h=>by rw[<-h5];exact h.alloc _
 have e6:∀{g' t C},SB W5 g' t C->SB V g' t C:=fun h=>by rw[<-hV];exact h.alloc _
 have e7:∀{g' t C},SB V g' t C->SB V5 g' t C:=fun h=>by rw[hV5];exact h.alloc _
 refine⟨z6,z7,fun K hK=>⟨fun x hx=>(by cases hx),⟨FE.nil,FE.nil,true,⟨e7 s6,FE.ok.nil _,FE.ok.nil _⟩,?_,?_,fun h=>?_⟩,e7 (e6 (e5 (e4 (e3 (e2 s1))))),e7 (e6 (e5 (e4 (e3 s2)))),e7 (e6 (e5 (e4 s3))),e7 (e6 (e5 s4)),e7 (e6 s5),⟨ht.below b7,s7⟩,b7,by omega⟩⟩
 . show 1<=K+K
   omega
 . show 1<=K+K
   omega
 .
  show InR (0:Rat) none h↔_
  unfold InR;simp
theorem Makes.more{w w':World}{q:Rat}{k K:Nat}{e:Ending}(h:Makes w (FF q k) e w')(hk:k<=K):Makes w (FF q K) e w':=by
 obtain⟨v,h1,h2,h3⟩:=h;exact⟨v,h1,h2,FF.mono h3 hk⟩
theorem SlkI.next{w U V:World}{B g n K:Nat}{ts:List FE}{pre:List Thr}{x:Thr}{a m a' m':FE}{o o':Bool}(h:SlkI w B g n K ts pre U)(hs:SkAt U (B+5) a m o)(hi:∀h,InR a.q (mostOf m o) h↔0<=h/\∀y,y∈ pre->btw ts y h)
 (ho:Only (B+5) U V) (hs':SkAt V (B+5) a' m' o') (ka:a'.k<=K+K) (km:m'.k<=K+K) (hx:inTh n x) (hp:0<=thB ts x) (hg:g<B) (hB:w.heap.size=B)
 (hc:(thB ts x=0/\(thN ts x<=0/\0<=thR ts x)/\a'.q=a.q/\mostOf m' o'=mostOf m o)∨(thB ts x≠0/\a'.q=cutL a.q (thN ts x / thB ts x)/\mostOf m' o'=cutM (mostOf m o) (thR ts x / thB ts x))):SlkI w B g n K ts (pre++ [x]) V:=by
 refine⟨fun y hy=>?_,⟨a',m',o',hs',ka,km,Qkz hx hp hi hc⟩,h.r2.only ho (by omega),h.r3.only ho (by omega),h.f4.only ho (by omega),h.f5.only ho (by omega),h.f6.only ho (by omega),⟨⟨h.env.1.blk.only ho (by omega),fun t ht=>hs.keep ho (h.env.1.ok t ht)⟩,h.env.2.only ho (by omega)⟩,Only.fresh h.base ho (by omega),Nat.le_trans h.big ho.size⟩;rcases List.mem_append.1 hy with h1|h1
 . exact h.th y h1
 . obtain rfl:=List.mem_singleton.1 h1
   exact hx
theorem KeepsOthers.of_only{g:Nat}{U V:World}{t:TypeId}{C:Array Value}(ho:Only g U V)(hs:SB U g t C):KeepsOthers U V:=⟨ho.size,fun k o hk hc=>by
 have hne:k≠g:=by
  rintro rfl;have h1:U.heap[k]?=some (.cells C t (0,0)):=hs;rw[hk] at h1;cases h1;cases hc
 exact(ho.block k (Array.getElem?_eq_some_iff.1 hk).1 hne).trans hk⟩
theorem Qd8{X S:World}{B:Nat}{v0 v1 v2 v3 v4 v5 v6:Value}(h2:SB X B 65 zero7)(e:((((((X.setCell ⟨B,0,none⟩ v0).setCell ⟨B,1,none⟩ v1).setCell ⟨B,2,none⟩ v2).setCell ⟨B,3,none⟩ v3).setCell ⟨B,4,none⟩ v4).setCell ⟨B,5,none⟩ v5).setCell ⟨B,6,none⟩ v6=S):SB S B 65 #[v0,v1,v2,v3,v4,v5,v6]/\Only B X S/\KeepsOthers X S:=by
 subst e;exact⟨((((((h2.set 0 v0).set 1 v1).set 2 v2).set 3 v3).set 4 v4).set 5 v5).set 6 v6,(((((((Only.refl B X).setCell _ _).setCell _ _).setCell _ _).setCell _ _).setCell _ _).setCell _ _).setCell _ _,
  ((((((KeepsOthers.setCell X _ _).trans (KeepsOthers.setCell _ _ _)).trans (KeepsOthers.setCell _ _ _)).trans (KeepsOthers.setCell _ _ _)).trans (KeepsOthers.setCell _ _ _)).trans (KeepsOthers.setCell _ _ _)).trans (KeepsOthers.setCell _ _ _)⟩
theorem Qd9{tmps:Array Value}{w:World}{g g':Nat}{C:Array Value}{b:Bool}(hp:tmps.getD 2 undef=.pointer (some ⟨g,0,none⟩))(hp':tmps.getD 3 undef=.pointer (some ⟨g',0,none⟩))(h1:SB w g 65 C)(hC:C.size=7)(h2:SB w g' 4 #[.bool b]):
 (results Tryz.f30 tmps).run prog w=.ok (.tuple #[.agg C,.bool b]) w:=by
 have e1:tmps[2]?.getD undef=.pointer (some ⟨g,0,none⟩):=by simpa using hp
 have e2:tmps[3]?.getD undef=.pointer (some ⟨g',0,none⟩):=by simpa using hp'
 have hr:(Tryz.f30).results=#[.cell 2 65,.cell 3 4]:=rfl;obtain⟨c0,-⟩:=zc h2;have hl:(loadVar 4 ⟨g',0,none⟩).run prog w=.ok (.bool b) w:=by
  simp[loadVar,go_sem,run_underlying underlying4,c0]
 have hi:(prog.info? 65).map (·.size)=some C.size:=by rw[hC];kernel_rfl
 simp[results,hr,e1,e2,asAddr,hl,run_loadVar_row w g 65 65 C (0,0) _ h1 underlying65 rfl hi]
theorem Qk0{P:Program}{id n:Nat}{ops:Array Oper}{Q:Exit->Act->World->Prop}{a:Act}{w:World}(h:(Code.region id ops true).wp P (OnlyN Q) a w):(Code.region id ops true).wpIn Fence.wide n P Q a w:=
 Code.wpIn_mono (Q:=OnlyN Q) (fun e a w hq=>by cases e<;>first|exact hq|exact(hq:False).elim) (wpIn_wide.2 h)
def Sk7(g:Nat)(a m:FE)(o:Bool)(v:World):Prop:=v.cell? ⟨g,0,none⟩=some a.x/\v.cell? ⟨g,1,none⟩=some a.y/\v.cell? ⟨g,2,none⟩=some a.z/\v.cell? ⟨g,3,none⟩=some m.x/\v.cell? ⟨g,4,none⟩=some m.y/\v.cell? ⟨g,5,none⟩=some m.z/\v.cell? ⟨g,6,none⟩=some (.bool o)
theorem SkAt.ones{w:World}{g:Nat}{a m:FE}{o:Bool}(h:SkAt w g a m o):(∀(p:Addr) (w:World),(store p a.x).run prog w=stored prog w p a.x .plain)/\(∀(p:Addr) (w:World),(store p a.y).run prog w=stored prog w p a.y .plain)/\(∀(p:Addr) (w:World),(store p a.z).run prog w=stored prog w p a.z .plain)/\(∀(p:Addr) (w:World),(store p m.x).run prog w=stored prog w p m.x .plain)/\(∀(p:Addr) (w:World),(store p m.y).run prog w=stored prog w p m.y .plain)/\(∀(p:Addr) (w:World),(store p m.z).run prog w=stored prog w p m.z .plain):=by
 obtain⟨o1,o2,o3⟩:=FracV.one h.least.1;obtain⟨o4,o5,o6⟩:=FracV.one h.most.1;exact⟨Qaa prog o1,Qaa prog o2,Qaa prog o3,Qaa prog o4,Qaa prog o5,Qaa prog o6⟩
theorem SkAt.sk7{w:World}{g:Nat}{a m:FE}{o:Bool}(h:SkAt w g a m o):Sk7 g a m o w:=h.cells
theorem Qa9:NoU64 zero7:=Qdm fun v hv n=>by
 unfold zero7 at hv;simp at hv;rcases hv with rfl|rfl|rfl|rfl|rfl|rfl|rfl<;>exact nofun
theorem Qc0{b:Bool}:NoU64 #[Value.bool b]:=Qdm fun v hv n=>by
 simp at hv;subst hv;exact nofun
theorem Qga{S:World}{D:Nat}{x:Option (List Deferred)}(h:S.heap[D]?=some (.deferred x)):NoC S D:=fun o ho=>by
 rw[h] at ho;cases ho;rfl
theorem Qk1{g A E n K:Nat}{ts:List FE}{w:World}(ht:TBlk 82 w g ts)(hl:ts.length=n*4)(hn:n<=10)(hs:∀i,i<n->(stn ts i).a.k<=A/\(stn ts i).l.k<=A/\(stn ts i).u.k<=A/\(stn ts i).s.k<=E)(hAE:A<=E)(hp:∀i j k,i<j->j<k->k<n->0<=thB ts (i,j,k))(hK:3*E+8*A+7<=K)(hk:4*K<60000000000):
 Calls prog 30 #[.slice (some ⟨g,0,none⟩) n n] w (SlkSays n (K+K) ts w):=by
 obtain⟨B,hB⟩:=nm w.heap.size;obtain⟨V,hV⟩:=nm ((((((w.alloc (.cells zero7 65)).alloc (.cells #[.bool false] 4)).alloc (.cells #[.func (.func 64) #[] #[]] 76)).alloc (.cells #[.func (.func 65) #[] #[]] 76)).alloc (.cells #[.func (.func 66) #[] #[]] 76)).alloc (.cells #[.bool false,.slice none 0 0,.slice none 0 0,.bool false,.slice none 0 0,.slice none 0 0,.bool true] 65));have hgB:g<B:=by rw[<-hB];exact ht.blk.lt
 obtain⟨HT,HLE,HS,HP,HBE,HVE⟩:=Ie ht hl hs hp hB hV;clear ht hl hs hp hB hV;unfold zero7 at HVE;have f1:=Qaa prog (v:=.func (.func 64) #[] #[]) rfl;have f2:=Qaa prog (v:=.func (.func 65) #[] #[]) rfl;have f3:=Qaa prog (v:=.func (.func 66) #[] #[]) rfl;refine(callsIn_wide (n:=6)).1 ?_;refine callsIn_of_wp_marks func30 rfl trivial ?_ rfl;simp only[ntmps30,List.size_toArray,List.length_cons,List.length_nil,Nat.reduceAdd,Nat.reduceSub,Array.replicate_succ,Array.replicate_zero,List.push_toArray,List.append_toArray,List.nil_append,List.cons_append]
 gi_wp2
 rw[HVE.o];simp only[HBE.o,Nat.add_assoc,Nat.reduceAdd];clear f1 f2 f3;refine⟨trivial,callsIn_wide.2 ((Qkx g n V).mono ?_)⟩;rintro e V5 ⟨rfl,hV5⟩;have hi:=SlkI.begin HT.o HBE.o HVE.o hV5;rw[hi.1];obtain⟨HI0,HSZ⟩:=Ia (hi.2.2 K (by omega)) hi.2.1;clear hi;have HV5:=Hi hV5;clear hV5 HVE
 gi_wp2
 try rw[<-HV5.o]
 refine Qsd (α:=Thr) (F:=Fence.wide) (R:=B+5) (Env:=EnvT g (B+6) n ts) rfl (by decide) (gf:=114) (lb:=#[.pointer (some ⟨B+6,0,none⟩)]) rfl trivial (enters_of func114 (by kernel_rfl) rfl)
  (by rw[HSZ.o];omega) (Qky HLE.o hn (by decide) (by rw[HSZ.o];omega)) rfl
  (SlkI w B g n K ts) (fun _ U=>SlkX w B n ts U)
  (fun pre U V h hb=>h.below hb)
  (fun pre U l o hl hn h=>h.put (by have:=HSZ.o;have:=HBE.o;omega) hn)
  (fun pre U l o hl hn h=>h.put (by have:=HSZ.o;have:=HBE.o;omega) hn)
  (fun x U V hx hb=>⟨hx.1,hx.2.1,hx.2.2.1,hx.2.2.2.below hb⟩)
  (fun x U l o hl hn hx=>⟨hx.1,hx.2.1,hx.2.2.1,hx.2.2.2.onlyN (Only.put U l o) hn⟩)
  (fun pre U h=>⟨by rw[HSZ.o];exact h.big,h.env⟩) HI0.o
  (fun x a' U=>∃b8,B+7<=b8/\a'= { tmps:=#[.slice (some ⟨g,0,none⟩) n n,undef,.pointer (some ⟨B,0,none⟩),.pointer (some ⟨B+1,0,none⟩),.pointer (some ⟨B+2,0,none⟩),.pointer (some ⟨B+3,0,none⟩),.pointer (some ⟨B+4,0,none⟩),.pointer (some ⟨B+5,0,none⟩),.pointer (some ⟨b8,0,none⟩),undef,undef,.agg #[.bool false,.slice none 0 0,.slice none 0 0,.bool false,.slice none 0 0,.slice none 0 0,.bool true],.slice (some ⟨g,0,none⟩) n n,.func (.func 114) #[] #[.pointer (some ⟨B+6,0,none⟩)],encT ts x,undef,undef,undef,undef,undef,undef,undef,undef,undef,undef,undef,undef,undef,undef,undef,undef,undef,undef,undef,undef,undef,undef,undef,undef,undef,undef,undef,undef],defers:=[] }/\SB U b8 113 (S4.cells3 (stn ts x.1) (stn ts x.2.1) (stn ts x.2.2)))
  (fun x a' U l o hl hn ⟨b8,h1,h2,h3⟩=>⟨b8,h1,h2,h3.only (Only.put U l o) (hn.ne h3)⟩) ?assign ?body ?done ?stop
 case assign=>
  rintro l ⟨i,j,k⟩ U KK hsz ⟨h1,h2,h3,htb⟩ hKK;dsimp only at h1 h2 h3;have hok:∀q,q<n->S4.ok U A E (stn ts q):=fun q hq=>by
   obtain⟨o1,o2,o3,o4⟩:=htb.okAt HLE.o hq;obtain⟨k1,k2,k3,k4⟩:=HS.o q hq;exact⟨o1,o2,o3,o4,k1,k2,k3,k4⟩
  obtain⟨C,hC⟩:=nm (S4.cells3 (stn ts i) (stn ts j) (stn ts k));have HC1:O (C.all (·.oneCell')=true):=Hi (by rw[<-hC];exact S4.cells3_one (hok i (by omega)) (hok j (by omega)) (hok k (by omega)));have HC2:O (C.size=36):=Hi (by rw[<-hC];rfl);have hz:∀{Z:Array Value},Z.size=36->(storeCells ⟨U.heap.size,0,none⟩ C.toList).run prog (U.alloc (.cells Z 113))=.ok () (U.alloc (.cells C 113)):=fun h=>run_storeCells_new U _ _ C (by rw[HC2.o];exact info3) (by rw[h,HC2.o]) HC1.o
  obtain⟨HKK,HC⟩:=Ia hKK hC;clear hKK hok htb hC;dsimp only[encT];rw[HC.o]
  gi_wp2
  exact HKK.o _ _ (bR.alloc lZ _) ⟨U.heap.size,by have:=HSZ.o;omega,by rw[<-HC.o];rfl,by rw[HC.o];exact SB.new U _ _⟩
 case body=>
  rintro l pre ⟨i,j,k⟩ a' U hl hI ⟨h1,h2,h3,htb⟩ ⟨b8,hb8,rfl,hs8⟩;dsimp only at h1 h2 h3 hs8;have hok:∀q,q<n->S4.ok U A E (stn ts q):=fun q hq=>by
   obtain⟨o1,o2,o3,o4⟩:=htb.okAt HLE.o hq;obtain⟨k1,k2,k3,k4⟩:=HS.o q hq;exact⟨o1,o2,o3,o4,k1,k2,k3,k4⟩
  have hoi:=hok i (by omega);have hoj:=hok j (by omega);have hok':=hok k (by omega);have HTH:O (inTh n (i,j,k)):=Hi ⟨h1,h2,h3⟩;have HBY:=Hi (HP.o i j k h1 h2 h3);obtain⟨C,hC⟩:=nm (S4.cells3 (stn ts i) (stn ts j) (stn ts k));have HC2:O (C.size=36):=Hi (by rw[<-hC];rfl);dsimp only[encT];rw[hC] at hs8 ⊢;have HC:=Hi hC;have HTN:O (thN ts (i,j,k)=abq (fun t=>t.l.q) (fun t=>t.u.q) (stn ts i) (stn ts j) (stn ts k)):=Hi rfl;have HTR:O (thR ts (i,j,k)=abq (fun t=>t.u.q) (fun t=>t.l.q) (stn ts i) (stn ts j) (stn ts k)):=Hi rfl;have HTB:O (thB ts (i,j,k)=abq (fun t=>t.s.q) (fun t=>t.s.q) (stn ts i) (stn ts j) (stn ts k)):=Hi rfl;obtain⟨r,hr⟩:=nm (stn ts i);obtain⟨s,hs⟩:=nm (stn ts j);obtain⟨t,ht⟩:=nm (stn ts k);rw[hr] at hoi HC HTN HTR HTB;rw[hs] at hoj HC HTN HTR HTB;rw[ht] at hok' HC HTN HTR HTB;obtain⟨Y,hY⟩:=nm U.drew
  have hby:Below U.heap.size U Y:=by rw[<-hY];exact(Below.refl _ _).drew
  obtain⟨HI,HIU,H8,HR,HSS,HT3,HYE,HUY⟩:=Ig (hI.below hby) hI.big (hs8.below hby hs8.lt) (hoi.below hby) (hoj.below hby) (hok'.below hby) hY hby;clear hC hI htb hs8 hok hoi hoj hok' h1 h2 h3 hr hs ht hY hby;have HAN:O (∀u,Below Y.heap.size Y u->Calls prog 68 #[.agg C,.func (.func 64) #[] #[],.func (.func 65) #[] #[]] u (Makes u (FF (thN ts (i,j,k)) K))):=Hi (fun u hb=>by
   rw[<-HC.o,HTN.o]
   exact(Qd5 (AccV.low A E) (AccV.high A E) (HR.o.below hb) (HSS.o.below hb) (HT3.o.below hb) (by omega)).mono (fun e w' h=>h.more (by omega)))
  have HAR:O (∀u,Below Y.heap.size Y u->Calls prog 68 #[.agg C,.func (.func 65) #[] #[],.func (.func 64) #[] #[]] u (Makes u (FF (thR ts (i,j,k)) K))):=Hi (fun u hb=>by
   rw[<-HC.o,HTR.o]
   exact(Qd5 (AccV.high A E) (AccV.low A E) (HR.o.below hb) (HSS.o.below hb) (HT3.o.below hb) (by omega)).mono (fun e w' h=>h.more (by omega)))
  have HAB:O (∀u,Below Y.heap.size Y u->Calls prog 68 #[.agg C,.func (.func 66) #[] #[],.func (.func 66) #[] #[]] u (Makes u (FF (thB ts (i,j,k)) K))):=Hi (fun u hb=>by
   rw[<-HC.o,HTB.o]
   exact(Qd5 (AccV.shape A E) (AccV.shape A E) (HR.o.below hb) (HSS.o.below hb) (HT3.o.below hb) (by omega)).mono (fun e w' h=>h.more (by omega)))
  clear HTN HTR HTB HR HSS HT3 HC;have szU:B+7<=U.heap.size:=by have:=HUY.o.size;have:=HIU.o;omega
  gi_wp2
  refine RegG.beginIn 10 (fun j=>some (bif j == 8 then 9 else bif j == 9 then 10 else 15+j)) (by kernel_rfl) (by kernel_rfl) (by kernel_rfl) (by kernel_rfl) rfl ?_;rw[HYE.o];refine RegG.pu (c:=.agg C) [] (fun w hb=>?_) ?_
  .
   intro K hK;rw[if_pos (by rfl)];refine wp_load_row 113 (.tmp 8) rfl b8 rfl 113 C (0,0) _ (SB.below (H8.o) hb (H8.o).lt) underlying113 rfl (by rw[HC2.o];exact info3) ?_;go_simp;exact hK
  refine RegG.pu (c:=?_) [] (fun w hb=>?_) ?_;rotate_left
  .
   intro K hK;have e4:=((HI.o.below hb).f4).cell 0;simp only[List.getElem?_toArray,List.getElem?_cons_zero] at e4;go_simp;exact hK
  refine RegG.pu (c:=?_) [] (fun w hb=>?_) ?_;rotate_left
  .
   intro K hK;have e4:=((HI.o.below hb).f5).cell 0;simp only[List.getElem?_toArray,List.getElem?_cons_zero] at e4;go_simp;exact hK
  refine RegG.ca (φ:=FF (thN ts (i,j,k)) K) [0,1,2] (FF.stays _ _) (fun w hb=>?_) ?_
  .
   intro K hK;go_simp;exact Makes.use (HAN.o _ hb) hK
  refine RegG.pu (c:=.agg C) [] (fun w hb=>?_) ?_
  .
   intro K hK;rw[if_pos (by rfl)];refine wp_load_row 113 (.tmp 8) rfl b8 rfl 113 C (0,0) _ (SB.below (H8.o) hb (H8.o).lt) underlying113 rfl (by rw[HC2.o];exact info3) ?_;go_simp;exact hK
  refine RegG.pu (c:=?_) [] (fun w hb=>?_) ?_;rotate_left
  .
   intro K hK;have e4:=((HI.o.below hb).f5).cell 0;simp only[List.getElem?_toArray,List.getElem?_cons_zero] at e4;go_simp;exact hK
  refine RegG.pu (c:=?_) [] (fun w hb=>?_) ?_;rotate_left
  .
   intro K hK;have e4:=((HI.o.below hb).f4).cell 0;simp only[List.getElem?_toArray,List.getElem?_cons_zero] at e4;go_simp;exact hK
  refine RegG.ca (φ:=FF (thR ts (i,j,k)) K) [4,5,6] (FF.stays _ _) (fun w hb=>?_) ?_
  .
   intro K hK;go_simp;exact Makes.use (HAR.o _ hb) hK
  refine RegG.ca (φ:=BoxF Y.heap.size) [] (BoxF.stays _) (fun w hb=>?_) ?_
  .
   intro K hK;go_simp;exact hK _ _ (bR.alloc lZ _) ⟨w.heap.size,rfl,hb.size,SB.new w _ _⟩
  refine RegG.ca (φ:=BoxF Y.heap.size) [] (BoxF.stays _) (fun w hb=>?_) ?_
  .
   intro K hK;go_simp;exact hK _ _ (bR.alloc lZ _) ⟨w.heap.size,rfl,hb.size,SB.new w _ _⟩
  refine RegG.two (by simp only[List.nil_append,List.cons_append,List.length_append,List.length_cons,List.length_nil,Nat.reduceAdd]) (by rfl) (by rfl) (by rfl) (by kernel_rfl) (fun u9 hb=>?_);simp only[FinG,List.nil_append,List.cons_append,Qak,Act.put,List.setIfInBounds_toArray,List.set_cons_zero,List.set_cons_succ,Nat.reduceAdd,Nat.reduceBEq,cond_true,cond_false];intro v6 h6 v13 h13 v14 h14 v15 h15 hap;have hnx:=hap 8 9 9 10 (by decide) (by decide) (by kernel_rfl) (by kernel_rfl) (by decide) (by kernel_rfl) (by kernel_rfl);clear hap;obtain⟨p9,rfl,hb7,h7⟩:=h14;obtain⟨p10,rfl,hb8',h8⟩:=h15;have hne:p9≠p10:=fun e=>hnx (by subst e;rfl)
  clear hnx;obtain⟨x1,x2,x3,rfl⟩:=h6.parts;obtain⟨y1,y2,y3,rfl⟩:=h13.parts;obtain⟨o1,o2,o3⟩:=h6.1.one;have s1:=Qaa prog o1;have s2:=Qaa prog o2;have s3:=Qaa prog o3;clear o1 o2 o3;obtain⟨o1,o2,o3⟩:=h13.1.one;have z1:=Qaa prog o1;have z2:=Qaa prog o2;have z3:=Qaa prog o3;clear o1 o2 o3;have t7:=TBlk.box h7 (FF.zero _);obtain⟨c0,c1,c2⟩:=cells3 h7;obtain⟨d0,d1,d2⟩:=cells3 h8;have f0:=h7.free 0;have f1:=h7.free 1;have f2:=h7.free 2;have g0:=h8.free 0;have g1:=h8.free 1;have g2:=h8.free 2;obtain⟨hn',ho⟩:=t7.set (k:=0) (e:=⟨x1,x2,x3,_,_⟩) (by simp) h6;simp only[Nat.zero_mul,Nat.zero_add,List.set_cons_zero] at hn' ho;obtain⟨HH13,HH8,HN,HO,HB9⟩:=Id (t7.keep ho (t:=⟨y1,y2,y3,_,_⟩) h13) (h8.only ho hne.symm) hn' ho hb;clear hn' ho t7 h6 h13 h7 h8 hb;intro K1 hK1;go_simp;refine hK1 _ _ ?_;intro K2 hK2;clear hK1
  obtain⟨U1,hU1⟩:∃U,((u9.setCell ⟨p9,0,none⟩ x1).setCell ⟨p9,1,none⟩ x2).setCell ⟨p9,2,none⟩ x3=U:=⟨_,rfl⟩;rw[hU1] at HN HO HH13 HH8 ⊢;clear hU1 c0 c1 c2 d0 d1 d2 f0 f1 f2 g0 g1 g2 s1 s2 s3;have t8:=TBlk.box HH8.o (FF.zero _);obtain⟨d0,d1,d2⟩:=cells3 HH8.o;have g0:=HH8.o.free 0;have g1:=HH8.o.free 1;have g2:=HH8.o.free 2;obtain⟨hn',ho⟩:=t8.set (k:=0) (e:=⟨y1,y2,y3,_,_⟩) (by simp) HH13.o;simp only[Nat.zero_mul,Nat.zero_add,List.set_cons_zero] at hn' ho;obtain⟨HN8,HO8,HT8⟩:=Ib hn' ho t8;clear hn' ho t8;go_simp;refine hK2 _ _ ?_;clear hK2 d0 d1 d2 g0 g1 g2 z1 z2 z3;obtain⟨X,hX⟩:∃U,((U1.setCell ⟨p10,0,none⟩ y1).setCell ⟨p10,1,none⟩ y2).setCell ⟨p10,2,none⟩ y3=U:=⟨_,rfl⟩;rw[hX] at HN8 HO8 ⊢;clear hX;have HYX:O (Below Y.heap.size Y X):=Hi (Only.fresh (Only.fresh HB9.o HO.o hb7) HO8.o hb8');have H7X:=Hi (HN.o.apart HT8.o HO8.o hne)
  clear HN HO HO8 HT8 HH8 HH13 HB9;obtain⟨Z,hZ⟩:=nm X.drew;have hxz:Below X.heap.size X Z:=by rw[<-hZ];exact(Below.refl _ _).drew
  have HYZ:O (Below Y.heap.size Y Z):=Hi (HYX.o.trans (hxz.mono HYX.o.size));obtain⟨H9,H10,HZE⟩:=Ib (H7X.o.below hxz) (HN8.o.below hxz) hZ;clear H7X HN8 hxz hZ HYX HAN HAR HYE;have F9:O (FF (thN ts (i,j,k)) K (.agg #[x1,x2,x3]) Z):=Hi (H9.o.ok _ (List.mem_singleton.2 rfl));have F10:O (FF (thR ts (i,j,k)) K (.agg #[y1,y2,y3]) Z):=Hi (H10.o.ok _ (List.mem_singleton.2 rfl));obtain⟨am,mm,om,hsk,kam,kmm,hin⟩:=(HI.o.below HYZ.o).sk;obtain⟨HSK,HIN⟩:=Ia hsk hin;clear hsk hin;dsimp only[OnlyN]
  gi_wp2
  refine RegG.beginIn 6 (fun j=>some (23+j)) (by kernel_rfl) (by kernel_rfl) (by kernel_rfl) (by kernel_rfl) rfl ?_;rw[HZE.o];refine RegG.pu (c:=?_) [] (fun w hb=>?_) ?_;rotate_left
  .
   intro K hK;obtain⟨p0,p1,p2⟩:=cells3 ((H9.o.below hb).blk);go_simp;exact hK
  refine RegG.pu (c:=?_) [] (fun w hb=>?_) ?_;rotate_left
  .
   intro K hK;obtain⟨p0,p1,p2⟩:=cells3 ((H10.o.below hb).blk);go_simp;exact hK
  refine RegG.pu (c:=.agg C) [] (fun w hb=>?_) ?_
  .
   intro K hK;rw[if_pos (by rfl)];refine wp_load_row 113 (.tmp 8) rfl b8 rfl 113 C (0,0) _ (SB.below (H8.o.below HYZ.o H8.o.lt) hb (H8.o.below HYZ.o H8.o.lt).lt) underlying113 rfl (by rw[HC2.o];exact info3) ?_;go_simp;exact hK
  refine RegG.pu (c:=?_) [] (fun w hb=>?_) ?_;rotate_left
  .
   intro K hK;have e4:=(((HI.o.below HYZ.o).below hb).f6).cell 0;simp only[List.getElem?_toArray,List.getElem?_cons_zero] at e4;go_simp;exact hK
  refine RegG.pu (c:=?_) [] (fun w hb=>?_) ?_;rotate_left
  .
   intro K hK;have e4:=(((HI.o.below HYZ.o).below hb).f6).cell 0;simp only[List.getElem?_toArray,List.getElem?_cons_zero] at e4;go_simp;exact hK
  refine RegG.ca (φ:=FF (thB ts (i,j,k)) K) [2,3,4] (FF.stays _ _) (fun w hb=>?_) ?_
  .
   intro K hK;go_simp;exact Makes.use (HAB.o _ (HYZ.o.trans (hb.mono HYZ.o.size))) hK
  refine RegG.two (by simp only[List.nil_append,List.cons_append,List.length_append,List.length_cons,List.length_nil,Nat.reduceAdd]) (by rfl) (by rfl) (by rfl) (by kernel_rfl) (fun u9 hb=>?_);simp only[FinG,List.nil_append,List.cons_append,Qak,Act.put,List.setIfInBounds_toArray,List.set_cons_zero,List.set_cons_succ,Nat.reduceAdd,Nat.reduceBEq,cond_true,cond_false];intro v5 h5 hap;clear hap;obtain⟨w1,w2,w3,rfl⟩:=h5.parts;obtain⟨HB5,HBZ⟩:=Ia h5 hb;clear h5 hb;intro K1 hK1;go_simp;refine(Qkw (g:=B+5) (K:=K) (a:=am) (m:=mm) (o:=om) (nd:=⟨x1,x2,x3,thN ts (i,j,k),K⟩) (rm:=⟨y1,y2,y3,thR ts (i,j,k),K⟩) (bb:=⟨w1,w2,w3,thB ts (i,j,k),K⟩) (HSK.o.below HBZ.o) (F9.o.below HBZ.o) (F10.o.below HBZ.o) HB5.o kam kmm lZ lZ lZ hk).mono ?_;rintro e X8 ⟨ho,a2,m2,o2,hsk2,ka2,km2,hcase⟩;dsimp only at hcase;obtain⟨HO8,HS2⟩:=Ia ho hsk2
  have HUZ:=Hi (HUY.o.trans (HYZ.o.mono HUY.o.size));obtain⟨HU9,HNX,HI9⟩:=Ib (HUZ.o.trans (HBZ.o.mono HUZ.o.size)) (fun hc=>SlkI.next ((HI.o.below HYZ.o).below HBZ.o) (HSK.o.below HBZ.o) HIN.o ho hsk2 ka2 km2 HTH.o HBY.o hgB HBE.o hc) ((HI.o.below HYZ.o).below HBZ.o);clear ho hsk2;rcases hcase with ⟨q1,rfl,q3,q4⟩|⟨q1,rfl,q3,q4⟩
  .
   by_cases hq:thN ts (i,j,k)<=0/\0<=thR ts (i,j,k)
   .
    have e1:(decide (thN ts (i,j,k)<=0) && decide (0<=thR ts (i,j,k)))=true:=by simp[hq]
    rw[e1];have HN9:=Hi (HNX.o (Or.inl ⟨q1,hq,q3,q4⟩));clear q1 q3 q4 hq e1 HNX;refine hK1 _ _ ?_;clear hK1;intro K2 hK2;go_simp;refine hK2 _ _ ?_;clear hK2;dsimp only[OnlyN]
    gi_wp2
    exact⟨(Only.of_below HU9.o).trans HO8.o,HN9.o⟩
   .
    have e1:(decide (thN ts (i,j,k)<=0) && decide (0<=thR ts (i,j,k)))=false:=by
     rw[Bool.and_eq_false_iff,decide_eq_false_iff_not,decide_eq_false_iff_not];exact Classical.not_and_iff_not_or_not.1 hq
    rw[e1];have HNO:O (∃x,inTh n x/\∀h,¬btw ts x h):=Hi ⟨(i,j,k),HTH.o,fun h hb=>hq (by
     unfold btw at hb;rw[q1] at hb
     exact(Qfy h).1 hb)⟩
    clear q1 q3 q4 hq e1 HNX;refine hK1 _ _ ?_;clear hK1;intro K2 hK2;go_simp;refine hK2 _ _ ?_;clear hK2;dsimp only[OnlyN];have hr2:=HI9.o.r2.only HO8.o (by omega);have hr3:=HI9.o.r3.only HO8.o (by omega);have z0:=hr2.cell 0;have z1:=hr2.cell 1;have z2:=hr2.cell 2;have z3:=hr2.cell 3;have z4:=hr2.cell 4;have z5:=hr2.cell 5;have z6:=hr2.cell 6;have z7:=hr3.cell 0;simp only[zero7,List.getElem?_toArray,List.getElem?_cons_zero,List.getElem?_cons_succ] at z0 z1 z2 z3 z4 z5 z6 z7;have f0:=hr2.free 0;have f1:=hr2.free 1;have f2:=hr2.free 2;have f3:=hr2.free 3;have f4:=hr2.free 4;have f5:=hr2.free 5;have f6:=hr2.free 6;have f7:=hr3.free 0;obtain⟨HR2,HR3,HBX8⟩:=Ib hr2 hr3 (Only.fresh HI9.o.base HO8.o (by have:=HBE.o;omega));clear hr2 hr3
    obtain⟨S1,hS1⟩:∃S,((((((X8.setCell ⟨B,0,none⟩ (.bool false)).setCell ⟨B,1,none⟩ (.slice none 0 0)).setCell ⟨B,2,none⟩ (.slice none 0 0)).setCell ⟨B,3,none⟩ (.bool false)).setCell ⟨B,4,none⟩ (.slice none 0 0)).setCell ⟨B,5,none⟩ (.slice none 0 0)).setCell ⟨B,6,none⟩ (.bool false)=S:=⟨_,rfl⟩;obtain⟨g2,o2,k2⟩:=Qd8 HR2.o hS1;obtain⟨HG2,HO2,HK2,HS1⟩:=Ic g2 o2 k2 hS1;clear g2 o2 k2 hS1
    gi_wp2
    rw[HS1.o];have hr3:=HR3.o.only HO2.o (by omega);have o3:Only (B+1) S1 (S1.setCell ⟨B+1,0,none⟩ (.bool false)):=(Only.refl _ _).setCell _ _;exact⟨(((KeepsOthers.of_below HU9.o).trans (KeepsOthers.of_only HO8.o (HSK.o.below HBZ.o).blk)).trans HK2.o).trans (KeepsOthers.setCell S1 _ _),HNO.o,HG2.o.only o3 (by omega),hr3.set 0 _,Only.fresh (Only.fresh HBX8.o HO2.o (Nat.le_of_eq HBE.o)) o3 (by have:=HBE.o;omega)⟩
  .
   have HN9:=Hi (HNX.o (Or.inr ⟨q1,q3,q4⟩));clear q1 q3 q4 HNX;refine hK1 _ _ ?_;clear hK1;intro K2 hK2;go_simp;refine hK2 _ _ ?_;clear hK2;dsimp only[OnlyN]
   gi_wp2
   exact⟨(Only.of_below HU9.o).trans HO8.o,HN9.o⟩
 case done=>
  rintro D xs U hD hall hI hK9;obtain⟨a,m,o,hsk,ka,km,hin⟩:=hI.sk;have HALL:O (∀h,InR a.q (mostOf m o) h↔slackOK n ts h):=Hi (fun h=>by
   rw[hin h];unfold slackOK;refine and_congr_right (fun _=>⟨fun hh i j k h1 h2 h3=>hh _ (hall i j k h1 h2 h3),fun hh y hy=>?_⟩);obtain⟨y1,y2,y3⟩:=y;have:=hI.th _ hy
   exact hh y1 y2 y3 this.1 this.2.1 this.2.2)
  obtain⟨Y,hY⟩:=nm U.drew;have hby:Below U.heap.size U Y:=by rw[<-hY];exact(Below.refl _ _).drew
  obtain⟨HSK,HR2,HR3,HBW⟩:=Ic (hsk.below hby) (hI.r2.below hby hI.r2.lt) (hI.r3.below hby hI.r3.lt) (hI.base.trans (hby.mono hI.base.size));have HKD:O (Y.heap[D]?=some (.deferred (some []))):=Hi ((hby.block D (Array.getElem?_eq_some_iff.1 hK9).1).trans hK9);have HYE:=Hi hY;have hDB:B+7<=D:=by have:=HSZ.o;omega
  clear hK9 hI hall hin hsk hY hby hD
  gi_wp2
  refine Qk0 ?_;cases o with
  |true=>
   have hT:=HSK.o.sk7;refine AnyE.beg (S:=fun _=>True) (T:=Sk7 (B+5) a m true) (D:=[11,12]) (by kernel_rfl) trivial (by rw[HYE.o];exact hT) ?_;rw[HYE.o];refine Plan.of [0,1,2,3,4,5,6,7,8,9,10] ?_;refine AnyE.tp (v:=?_) (by simp only[List.getElem?_toArray,List.getElem?_cons_zero,List.getElem?_cons_succ];exact rfl) (by kernel_rfl) (by kernel_rfl) (by kernel_rfl) (by kernel_rfl) (by exact fun _ _ _ h=>h) (fun _=>trivial) hT (Or.inl ⟨by rfl,?_⟩) ?_
   rotate_left
   (focus(intro wq hTw;obtain⟨q0,q1,q2,q3,q4,q5,q6⟩:=hTw;first|(go_simp;done)|(go_simp;with_reducible rfl)));(try simp only[Act.put,List.setIfInBounds_toArray,List.set_cons_zero,List.set_cons_succ]);refine AnyE.tp (v:=?_) (by simp only[List.getElem?_toArray,List.getElem?_cons_zero,List.getElem?_cons_succ];exact rfl) (by kernel_rfl) (by kernel_rfl) (by kernel_rfl) (by kernel_rfl) (by exact fun _ _ _ h=>h) (fun _=>trivial) hT (Or.inl ⟨by rfl,?_⟩) ?_
   rotate_left
   (focus(intro wq hTw;obtain⟨q0,q1,q2,q3,q4,q5,q6⟩:=hTw;first|(go_simp;done)|(go_simp;with_reducible rfl)));(try simp only[Act.put,List.setIfInBounds_toArray,List.set_cons_zero,List.set_cons_succ]);refine AnyE.tp (v:=?_) (by simp only[List.getElem?_toArray,List.getElem?_cons_zero,List.getElem?_cons_succ];exact rfl) (by kernel_rfl) (by kernel_rfl) (by kernel_rfl) (by kernel_rfl) (by exact fun _ _ _ h=>h) (fun _=>trivial) hT (Or.inl ⟨by rfl,?_⟩) ?_
   rotate_left
   (focus(intro wq hTw;obtain⟨q0,q1,q2,q3,q4,q5,q6⟩:=hTw;first|(go_simp;done)|(go_simp;with_reducible rfl)));(try simp only[Act.put,List.setIfInBounds_toArray,List.set_cons_zero,List.set_cons_succ]);refine AnyE.tp (v:=?_) (by simp only[List.getElem?_toArray,List.getElem?_cons_zero,List.getElem?_cons_succ];exact rfl) (by kernel_rfl) (by kernel_rfl) (by kernel_rfl) (by kernel_rfl) (by exact fun _ _ _ h=>h) (fun _=>trivial) hT (Or.inl ⟨by rfl,?_⟩) ?_
   rotate_left
   (focus(intro wq hTw;obtain⟨q0,q1,q2,q3,q4,q5,q6⟩:=hTw;first|(go_simp;done)|(go_simp;with_reducible rfl)));(try simp only[Act.put,List.setIfInBounds_toArray,List.set_cons_zero,List.set_cons_succ]);refine AnyE.tp (v:=undef) (by simp only[List.getElem?_toArray,List.getElem?_cons_zero,List.getElem?_cons_succ];exact rfl) (by kernel_rfl) (by kernel_rfl) (by kernel_rfl) (by kernel_rfl) (by exact fun _ _ _ h=>h) (fun _=>trivial) hT (Or.inr ⟨by kernel_rfl,rfl⟩) ?_;(try simp only[Act.put,List.setIfInBounds_toArray,List.set_cons_zero,List.set_cons_succ]);refine AnyE.tp (v:=undef) (by simp only[List.getElem?_toArray,List.getElem?_cons_zero,List.getElem?_cons_succ];exact rfl) (by kernel_rfl) (by kernel_rfl) (by kernel_rfl) (by kernel_rfl) (by exact fun _ _ _ h=>h) (fun _=>trivial) hT (Or.inr ⟨by kernel_rfl,rfl⟩) ?_
   (try simp only[Act.put,List.setIfInBounds_toArray,List.set_cons_zero,List.set_cons_succ]);refine AnyE.tp (v:=undef) (by simp only[List.getElem?_toArray,List.getElem?_cons_zero,List.getElem?_cons_succ];exact rfl) (by kernel_rfl) (by kernel_rfl) (by kernel_rfl) (by kernel_rfl) (by exact fun _ _ _ h=>h) (fun _=>trivial) hT (Or.inr ⟨by kernel_rfl,rfl⟩) ?_;(try simp only[Act.put,List.setIfInBounds_toArray,List.set_cons_zero,List.set_cons_succ]);refine AnyE.tp (v:=undef) (by simp only[List.getElem?_toArray,List.getElem?_cons_zero,List.getElem?_cons_succ];exact rfl) (by kernel_rfl) (by kernel_rfl) (by kernel_rfl) (by kernel_rfl) (by exact fun _ _ _ h=>h) (fun _=>trivial) hT (Or.inr ⟨by kernel_rfl,rfl⟩) ?_;(try simp only[Act.put,List.setIfInBounds_toArray,List.set_cons_zero,List.set_cons_succ])
   refine AnyE.tp (v:=undef) (by simp only[List.getElem?_toArray,List.getElem?_cons_zero,List.getElem?_cons_succ];exact rfl) (by kernel_rfl) (by kernel_rfl) (by kernel_rfl) (by kernel_rfl) (by exact fun _ _ _ h=>h) (fun _=>trivial) hT (Or.inr ⟨by kernel_rfl,rfl⟩) ?_;(try simp only[Act.put,List.setIfInBounds_toArray,List.set_cons_zero,List.set_cons_succ]);refine AnyE.tp (v:=undef) (by simp only[List.getElem?_toArray,List.getElem?_cons_zero,List.getElem?_cons_succ];exact rfl) (by kernel_rfl) (by kernel_rfl) (by kernel_rfl) (by kernel_rfl) (by exact fun _ _ _ h=>h) (fun _=>trivial) hT (Or.inr ⟨by kernel_rfl,rfl⟩) ?_;(try simp only[Act.put,List.setIfInBounds_toArray,List.set_cons_zero,List.set_cons_succ])
   refine AnyE.tp (v:=?_) (by simp only[List.getElem?_toArray,List.getElem?_cons_zero,List.getElem?_cons_succ];exact rfl) (by kernel_rfl) (by kernel_rfl) (by kernel_rfl) (by kernel_rfl) (by exact fun _ _ _ h=>h) (fun _=>trivial) hT (Or.inl ⟨by rfl,?_⟩) ?_
   rotate_left
   (focus(intro wq hTw;obtain⟨q0,q1,q2,q3,q4,q5,q6⟩:=hTw;first|(go_simp;done)|(go_simp;with_reducible rfl)));(try simp only[Act.put,List.setIfInBounds_toArray,List.set_cons_zero,List.set_cons_succ]);refine Plan.done ?_;have z0:=HR2.o.cell 0;have z1:=HR2.o.cell 1;have z2:=HR2.o.cell 2;have z3:=HR2.o.cell 3;have z4:=HR2.o.cell 4;have z5:=HR2.o.cell 5;have z6:=HR2.o.cell 6;simp only[zero7,List.getElem?_toArray,List.getElem?_cons_zero,List.getElem?_cons_succ] at z0 z1 z2 z3 z4 z5 z6;have f0:=HR2.o.free 0;have f1:=HR2.o.free 1;have f2:=HR2.o.free 2;have f3:=HR2.o.free 3;have f4:=HR2.o.free 4;have f5:=HR2.o.free 5;have f6:=HR2.o.free 6;obtain⟨s1,s2,s3,s4,s5,s6⟩:=HSK.o.ones
   obtain⟨S1,hS1⟩:∃S,((((((Y.setCell ⟨B,0,none⟩ a.x).setCell ⟨B,1,none⟩ a.y).setCell ⟨B,2,none⟩ a.z).setCell ⟨B,3,none⟩ m.x).setCell ⟨B,4,none⟩ m.y).setCell ⟨B,5,none⟩ m.z).setCell ⟨B,6,none⟩ (.bool true)=S:=⟨_,rfl⟩;obtain⟨g2,o2,k2⟩:=Qd8 HR2.o hS1;obtain⟨HS1,HG2,HO2,HK2⟩:=Ic hS1 g2 o2 k2;have hT1:Sk7 (B+5) a m true S1:=SkAt.sk7 ⟨HSK.o.blk.only o2 (by omega),⟨HSK.o.least.1.only o2 HR2.o Qa9,HSK.o.least.2⟩,⟨HSK.o.most.1.only o2 HR2.o Qa9,HSK.o.most.2⟩⟩;clear hS1 g2 o2 k2;refine AnyE.one (i:=11) (by kernel_rfl) rfl (fun KK hK=>?_);go_simp;rw[HS1.o];refine hK.out _ _ ⟨fun h=>absurd (by decide) h,hT1⟩ ?_;clear hK KK hT z0 z1 z2 z3 z4 z5 z6 f0 f1 f2 f3 f4 f5 f6 s1 s2 s3 s4 s5 s6;(try simp only[Act.put,List.setIfInBounds_toArray,List.set_cons_zero,List.set_cons_succ]);have hr3:=HR3.o.only HO2.o (by omega);have z0:=hr3.cell 0
   simp only[List.getElem?_toArray,List.getElem?_cons_zero] at z0;have f0:=hr3.free 0;obtain⟨S,hS⟩:=nm (S1.setCell ⟨B+1,0,none⟩ (.bool true));have HG3:O (SB S (B+1) 4 #[.bool true]):=Hi (by rw[<-hS];exact hr3.set 0 _);have o3:Only (B+1) S1 S:=by rw[<-hS];exact(Only.refl _ _).setCell _ _
   have HG4:=Hi (HG2.o.only o3 (by omega));have HFA:O (FE.ok S a):=Hi ⟨(HSK.o.least.1.only HO2.o HR2.o Qa9).only o3 hr3 Qc0,HSK.o.least.2⟩;have HFM:O (FE.ok S m):=Hi ⟨(HSK.o.most.1.only HO2.o HR2.o Qa9).only o3 hr3 Qc0,HSK.o.most.2⟩;have HBS:O (Below w.heap.size w S):=Hi (Only.fresh (Only.fresh HBW.o HO2.o (Nat.le_of_eq HBE.o)) o3 (by have:=HBE.o;omega));have HDS:O (S.heap[D]?=some (.deferred (some []))):=Hi (by rw[<-hS];exact(KeepsOthers.setCell S1 _ _).same D _ (HK2.o.same D _ HKD.o rfl) rfl);have hT2:Sk7 (B+5) a m true S:=SkAt.sk7 ⟨(HSK.o.blk.only HO2.o (by omega)).only o3 (by omega),HFA.o,HFM.o⟩;have HSE:=Hi hS;clear hr3 hS o3;refine AnyE.one (i:=12) (by kernel_rfl) rfl (fun KK hK=>?_);go_simp;rw[HSE.o];refine hK.out _ _ ⟨fun h=>absurd (by decide) h,hT2⟩ ?_;clear hK KK hT1 hT2 z0 f0
   (try simp only[Act.put,List.setIfInBounds_toArray,List.set_cons_zero,List.set_cons_succ]);refine AnyE.done (by kernel_rfl) ?_ _;dsimp only[OnlyN]
   gi_wp2
   refine⟨by simp,.inl ⟨_,_,rfl,run_takeDeferred HDS.o,?_⟩⟩;have hnD:=Qga HDS.o;refine⟨_,Qd9 rfl rfl (HG4.o.only (Only.put S D _) (by omega)) rfl (HG3.o.only (Only.put S D _) (by omega)),Only.fresh HBS.o (Only.put S D _) (by have:=HBE.o;omega),a,m,true,true,rfl,HFA.o.onlyN (Only.put S D _) hnD,HFM.o.onlyN (Only.put S D _) hnD,ka,km,?_⟩;exact Or.inr ⟨rfl,⟨Rat.le_refl,fun m hm=>by cases hm⟩,HALL.o⟩
  |false=>
   have hT:=HSK.o.sk7;obtain⟨C,hC⟩:=nm (cmpQ a.q m.q);have HCE:=Hi hC;clear hC;refine AnyE.beg (S:=fun _=>True) (T:=Sk7 (B+5) a m false) (D:=[11,12]) (by kernel_rfl) trivial (by rw[HYE.o];exact hT) ?_;rw[HYE.o];refine Plan.of [0,1,2,3,4,5,6,7,8,9,10] ?_;refine AnyE.tp (v:=?_) (by simp only[List.getElem?_toArray,List.getElem?_cons_zero,List.getElem?_cons_succ];exact rfl) (by kernel_rfl) (by kernel_rfl) (by kernel_rfl) (by kernel_rfl) (by exact fun _ _ _ h=>h) (fun _=>trivial) hT (Or.inl ⟨by rfl,?_⟩) ?_
   rotate_left
   (focus(intro wq hTw;obtain⟨q0,q1,q2,q3,q4,q5,q6⟩:=hTw;first|(go_simp;done)|(go_simp;with_reducible rfl)));(try simp only[Act.put,List.setIfInBounds_toArray,List.set_cons_zero,List.set_cons_succ]);refine AnyE.tp (v:=?_) (by simp only[List.getElem?_toArray,List.getElem?_cons_zero,List.getElem?_cons_succ];exact rfl) (by kernel_rfl) (by kernel_rfl) (by kernel_rfl) (by kernel_rfl) (by exact fun _ _ _ h=>h) (fun _=>trivial) hT (Or.inl ⟨by rfl,?_⟩) ?_
   rotate_left
   (focus(intro wq hTw;obtain⟨q0,q1,q2,q3,q4,q5,q6⟩:=hTw;first|(go_simp;done)|(go_simp;with_reducible rfl)));(try simp only[Act.put,List.setIfInBounds_toArray,List.set_cons_zero,List.set_cons_succ]);refine AnyE.tp (v:=?_) (by simp only[List.getElem?_toArray,List.getElem?_cons_zero,List.getElem?_cons_succ];exact rfl) (by kernel_rfl) (by kernel_rfl) (by kernel_rfl) (by kernel_rfl) (by exact fun _ _ _ h=>h) (fun _=>trivial) hT (Or.inl ⟨by rfl,?_⟩) ?_
   rotate_left
   (focus(intro wq hTw;obtain⟨q0,q1,q2,q3,q4,q5,q6⟩:=hTw;first|(go_simp;done)|(go_simp;with_reducible rfl)));(try simp only[Act.put,List.setIfInBounds_toArray,List.set_cons_zero,List.set_cons_succ]);refine AnyE.tp (v:=?_) (by simp only[List.getElem?_toArray,List.getElem?_cons_zero,List.getElem?_cons_succ];exact rfl) (by kernel_rfl) (by kernel_rfl) (by kernel_rfl) (by kernel_rfl) (by exact fun _ _ _ h=>h) (fun _=>trivial) hT (Or.inl ⟨by rfl,?_⟩) ?_
   rotate_left
   (focus(intro wq hTw;obtain⟨q0,q1,q2,q3,q4,q5,q6⟩:=hTw;first|(go_simp;done)|(go_simp;with_reducible rfl)));(try simp only[Act.put,List.setIfInBounds_toArray,List.set_cons_zero,List.set_cons_succ]);refine AnyE.tp (v:=?_) (by simp only[List.getElem?_toArray,List.getElem?_cons_zero,List.getElem?_cons_succ];exact rfl) (by kernel_rfl) (by kernel_rfl) (by kernel_rfl) (by kernel_rfl) (by exact fun _ _ _ h=>h) (fun _=>trivial) hT (Or.inl ⟨by rfl,?_⟩) ?_
   rotate_left
   (focus(intro wq hTw;obtain⟨q0,q1,q2,q3,q4,q5,q6⟩:=hTw;first|(go_simp;done)|(go_simp;with_reducible rfl)));(try simp only[Act.put,List.setIfInBounds_toArray,List.set_cons_zero,List.set_cons_succ]);refine AnyE.tp (v:=?_) (by simp only[List.getElem?_toArray,List.getElem?_cons_zero,List.getElem?_cons_succ];exact rfl) (by kernel_rfl) (by kernel_rfl) (by kernel_rfl) (by kernel_rfl) (by exact fun _ _ _ h=>h) (fun _=>trivial) hT (Or.inl ⟨by rfl,?_⟩) ?_
   rotate_left
   (focus(intro wq hTw;obtain⟨q0,q1,q2,q3,q4,q5,q6⟩:=hTw;first|(go_simp;done)|(go_simp;with_reducible rfl)));(try simp only[Act.put,List.setIfInBounds_toArray,List.set_cons_zero,List.set_cons_succ]);refine AnyE.tp (v:=?_) (by simp only[List.getElem?_toArray,List.getElem?_cons_zero,List.getElem?_cons_succ];exact rfl) (by kernel_rfl) (by kernel_rfl) (by kernel_rfl) (by kernel_rfl) (by exact fun _ _ _ h=>h) (fun _=>trivial) hT (Or.inl ⟨by rfl,?_⟩) ?_
   rotate_left
   (focus(intro wq hTw;obtain⟨q0,q1,q2,q3,q4,q5,q6⟩:=hTw;first|(go_simp;done)|(go_simp;with_reducible rfl)));(try simp only[Act.put,List.setIfInBounds_toArray,List.set_cons_zero,List.set_cons_succ]);refine AnyE.tp (v:=?_) (by simp only[List.getElem?_toArray,List.getElem?_cons_zero,List.getElem?_cons_succ];exact rfl) (by kernel_rfl) (by kernel_rfl) (by kernel_rfl) (by kernel_rfl) (by exact fun _ _ _ h=>h) (fun _=>trivial) hT (Or.inl ⟨by rfl,?_⟩) ?_
   rotate_left
   (focus(intro wq hTw;obtain⟨q0,q1,q2,q3,q4,q5,q6⟩:=hTw;first|(go_simp;done)|(go_simp;with_reducible rfl)));(try simp only[Act.put,List.setIfInBounds_toArray,List.set_cons_zero,List.set_cons_succ]);refine AnyE.op (by kernel_rfl) (by simp only[List.getElem?_toArray,List.getElem?_cons_zero,List.getElem?_cons_succ];exact rfl) (fun KK hK=>?_);go_simp;refine Makes.use (FF.compare HSK.o.least HSK.o.most (by omega)) ?_;rintro _ W hbW rfl;rw[HCE.o];obtain⟨HSKW,HR2W,HR3W,HBWW⟩:=Ic (HSK.o.below hbW) (HR2.o.below hbW HR2.o.lt) (HR3.o.below hbW HR3.o.lt) (HBW.o.trans (hbW.mono HBW.o.size));have HKDW:O (W.heap[D]?=some (.deferred (some []))):=Hi ((hbW.block D (Array.getElem?_eq_some_iff.1 HKD.o).1).trans HKD.o);clear hbW hT HSK HR2 HR3 HBW HKD;have HSK:=HSKW;have HR2:=HR2W;have HR3:=HR3W;have HBW:=HBWW;have HKD:=HKDW;clear HSKW HR2W HR3W HBWW HKDW
   have hT:=HSK.o.sk7;refine hK.out _ _ ⟨fun _ _=>trivial,hT⟩ ?_;clear hK KK;(try simp only[Act.put,List.setIfInBounds_toArray,List.set_cons_zero,List.set_cons_succ]);refine AnyE.tp (v:=?_) (by simp only[List.getElem?_toArray,List.getElem?_cons_zero,List.getElem?_cons_succ];exact rfl) (by kernel_rfl) (by kernel_rfl) (by kernel_rfl) (by kernel_rfl) (by exact fun _ _ _ h=>h) (fun _=>trivial) hT (Or.inl ⟨by rfl,?_⟩) ?_
   rotate_left
   (focus(intro wq hTw;obtain⟨q0,q1,q2,q3,q4,q5,q6⟩:=hTw;first|(go_simp;done)|(go_simp;with_reducible rfl)));(try simp only[Act.put,List.setIfInBounds_toArray,List.set_cons_zero,List.set_cons_succ]);refine AnyE.tp (v:=?_) (by simp only[List.getElem?_toArray,List.getElem?_cons_zero,List.getElem?_cons_succ];exact rfl) (by kernel_rfl) (by kernel_rfl) (by kernel_rfl) (by kernel_rfl) (by exact fun _ _ _ h=>h) (fun _=>trivial) hT (Or.inl ⟨by rfl,?_⟩) ?_
   rotate_left
   (focus(intro wq hTw;obtain⟨q0,q1,q2,q3,q4,q5,q6⟩:=hTw;first|(go_simp;done)|(go_simp;with_reducible rfl)));(try simp only[Act.put,List.setIfInBounds_toArray,List.set_cons_zero,List.set_cons_succ]);refine Plan.done ?_;have z0:=HR2.o.cell 0;have z1:=HR2.o.cell 1;have z2:=HR2.o.cell 2;have z3:=HR2.o.cell 3;have z4:=HR2.o.cell 4;have z5:=HR2.o.cell 5;have z6:=HR2.o.cell 6;simp only[zero7,List.getElem?_toArray,List.getElem?_cons_zero,List.getElem?_cons_succ] at z0 z1 z2 z3 z4 z5 z6;have f0:=HR2.o.free 0;have f1:=HR2.o.free 1;have f2:=HR2.o.free 2;have f3:=HR2.o.free 3;have f4:=HR2.o.free 4;have f5:=HR2.o.free 5;have f6:=HR2.o.free 6;obtain⟨s1,s2,s3,s4,s5,s6⟩:=HSK.o.ones
   obtain⟨S1,hS1⟩:∃S,((((((W.setCell ⟨B,0,none⟩ a.x).setCell ⟨B,1,none⟩ a.y).setCell ⟨B,2,none⟩ a.z).setCell ⟨B,3,none⟩ m.x).setCell ⟨B,4,none⟩ m.y).setCell ⟨B,5,none⟩ m.z).setCell ⟨B,6,none⟩ (.bool false)=S:=⟨_,rfl⟩;obtain⟨g2,o2,k2⟩:=Qd8 HR2.o hS1;obtain⟨HS1,HG2,HO2,HK2⟩:=Ic hS1 g2 o2 k2;have hT1:Sk7 (B+5) a m false S1:=SkAt.sk7 ⟨HSK.o.blk.only o2 (by omega),⟨HSK.o.least.1.only o2 HR2.o Qa9,HSK.o.least.2⟩,⟨HSK.o.most.1.only o2 HR2.o Qa9,HSK.o.most.2⟩⟩;clear hS1 g2 o2 k2;refine AnyE.one (i:=11) (by kernel_rfl) rfl (fun KK hK=>?_);go_simp;rw[HS1.o];refine hK.out _ _ ⟨fun h=>absurd (by decide) h,hT1⟩ ?_;clear hK KK hT z0 z1 z2 z3 z4 z5 z6 f0 f1 f2 f3 f4 f5 f6 s1 s2 s3 s4 s5 s6;(try simp only[Act.put,List.setIfInBounds_toArray,List.set_cons_zero,List.set_cons_succ]);have hr3:=HR3.o.only HO2.o (by omega);have z0:=hr3.cell 0
   simp only[List.getElem?_toArray,List.getElem?_cons_zero] at z0;have f0:=hr3.free 0;obtain⟨S,hS⟩:=nm (S1.setCell ⟨B+1,0,none⟩ (.bool (decide (C<=0))));have HG3:O (SB S (B+1) 4 #[.bool (decide (C<=0))]):=Hi (by rw[<-hS];exact hr3.set 0 _);have o3:Only (B+1) S1 S:=by rw[<-hS];exact(Only.refl _ _).setCell _ _
   have HG4:=Hi (HG2.o.only o3 (by omega));have HFA:O (FE.ok S a):=Hi ⟨(HSK.o.least.1.only HO2.o HR2.o Qa9).only o3 hr3 Qc0,HSK.o.least.2⟩;have HFM:O (FE.ok S m):=Hi ⟨(HSK.o.most.1.only HO2.o HR2.o Qa9).only o3 hr3 Qc0,HSK.o.most.2⟩;have HBS:O (Below w.heap.size w S):=Hi (Only.fresh (Only.fresh HBW.o HO2.o (Nat.le_of_eq HBE.o)) o3 (by have:=HBE.o;omega));have HDS:O (S.heap[D]?=some (.deferred (some []))):=Hi (by rw[<-hS];exact(KeepsOthers.setCell S1 _ _).same D _ (HK2.o.same D _ HKD.o rfl) rfl);have hT2:Sk7 (B+5) a m false S:=SkAt.sk7 ⟨(HSK.o.blk.only HO2.o (by omega)).only o3 (by omega),HFA.o,HFM.o⟩;have HSE:=Hi hS;clear hr3 hS o3;refine AnyE.one (i:=12) (by kernel_rfl) rfl (fun KK hK=>?_);go_simp;rw[HSE.o];refine hK.out _ _ ⟨fun h=>absurd (by decide) h,hT2⟩ ?_;clear hK KK hT1 hT2 z0 f0
   (try simp only[Act.put,List.setIfInBounds_toArray,List.set_cons_zero,List.set_cons_succ]);refine AnyE.done (by kernel_rfl) ?_ _;dsimp only[OnlyN]
   gi_wp2
   refine⟨by simp,.inl ⟨_,_,rfl,run_takeDeferred HDS.o,?_⟩⟩;have hnD:=Qga HDS.o;refine⟨_,Qd9 rfl rfl (HG4.o.only (Only.put S D _) (by omega)) rfl (HG3.o.only (Only.put S D _) (by omega)),Only.fresh HBS.o (Only.put S D _) (by have:=HBE.o;omega),a,m,false,(decide (C<=0)),rfl,HFA.o.onlyN (Only.put S D _) hnD,HFM.o.onlyN (Only.put S D _) hnD,ka,km,?_⟩;by_cases hle:C<=0
   .
    refine Or.inr ⟨decide_eq_true hle,⟨Rat.le_refl,fun m' hm=>?_⟩,HALL.o⟩;cases hm;exact(Qbn _ _).1 (by rw[HCE.o];exact hle)
   .
    refine Or.inl ⟨decide_eq_false hle,fun h hs=>hle ?_⟩;have:=(HALL.o h).2 hs;rw[<-HCE.o];exact(Qbn _ _).2 (Rat.le_trans this.1 (this.2 _ rfl))
 case stop=>
  rintro D pre U hD _ hX hK9;obtain⟨HX,HKD⟩:=Ia hX hK9;have hDB:B+7<=D:=by have:=HSZ.o;omega
  clear hX hK9 hD
  gi_wp2
  refine⟨by simp,.inl ⟨_,_,rfl,run_takeDeferred HKD.o,?_⟩⟩;refine⟨_,Qd9 rfl rfl (HX.o.r2.only (Only.put U D _) (by omega)) rfl (HX.o.r3.only (Only.put U D _) (by omega)),Only.fresh HX.o.base (Only.put U D _) (by have:=HBE.o;omega),FE.nil,FE.nil,false,false,rfl,FE.ok.nil _,FE.ok.nil _,?_,?_,Or.inl ⟨rfl,fun h hs=>?_⟩⟩
  . show 1<=K+K
    omega
  . show 1<=K+K
    omega
  . obtain⟨⟨x1,x2,x3⟩,hx,hno⟩:=HX.o.none
    exact hno h (hs.2 x1 x2 x3 hx.1 hx.2.1 hx.2.2)
end Go.Proofs.YtldjeecnapgakaaGreatDoor
