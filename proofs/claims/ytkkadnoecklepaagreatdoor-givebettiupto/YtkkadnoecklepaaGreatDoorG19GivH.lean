import Derived.Test.YtkkadnoecklepaaGreatDoorG18GivA
namespace Go.Proofs.YtkkadnoecklepaaGreatDoor
open Go.RowKit
open Go.Proofs.Tryz
set_option linter.unusedSimpArgs false
set_option linter.unusedVariables false
set_option maxHeartbeats 8000000
set_option maxRecDepth 1000000
theorem Qob:(prog.info? 4).map (fun i=>(i.zero,i.size,i.bytes))=some (some (.bool false),1,1):=by kernel_rfl
theorem Qoc:(prog.info? 3).map (fun i=>(i.zero,i.size,i.bytes))=some (some (.int .i64 0),1,8):=by kernel_rfl
def boolsV(l:List Bool):List Value:=l.map Value.bool
theorem Qod(n:Nat):madeCells #[Value.bool false] n=(boolsV (List.replicate n false)).toArray:=by
 unfold madeCells boolsV;apply Array.ext
 . simp
 . intro i a b
   simp[Nat.mod_one]
theorem Qoe(n:Nat)(a:n<=1000)(w:Vz):
 (Instr.makeSlice 210 (.int .i64 n) (.int .i64 n)).run prog w=.ok (.slice (some ⟨w.heap.size,0,none⟩) n n) (w.alloc (.cells (boolsV (List.replicate n false)).toArray 4)):=by
 rw[<-Qod];exact Go.run_make_row' 210 4 (.bool false) 1 underlying210 Qob rfl .i64 .i64 n (by omega) (by omega) w
theorem SB.boolAt{w:Vz}{g:Nat}{t:Vr}{l:List Bool}(h:SB w g t (boolsV l).toArray)(i:Nat):w.cell? ⟨g,i,none⟩=(l[i]?).map Value.bool:=by
 rw[h.cell];simp[boolsV]
abbrev IG(w:Vz)(B:Nat)(v:Value)(l:Vy):Prop:=Grow w B 3 1 IsI v l.length (l.map (fun n:Nat=>Value.int .i64 n))
theorem IG.app{w:Vz}{B nb c:Nat}{v:Value}{l:Vy}{x:Nat}(h:IG w B v l)(m:w.cell? ⟨nb,0,none⟩=some (.int .i64 x))(z:l.length<=1000)(hB:B<=w.heap.size)(ty:Vr):
 ∃d a,appR prog 155 ty v (.slice (some ⟨nb,0,none⟩) 1 c) w=.ok d a/\IG a B d (l++ [x])/\Below B w a/\w.grownBy a v.ownBlock:=by
 obtain⟨i,n,o⟩:=Option.map_eq_some_iff.1 Qoc;injection o with p e
 injection e with e q
 obtain⟨d,a,r,s,k,_⟩:=Grow.app h (P:=prog) (t:=155) (ty:=ty) underlying155 n p e q rfl (by decide) (fun u b=>⟨_,by simpa [Value.cells] using b⟩) ⟨nb,0,none⟩ 1 c [.int .i64 x] rfl (fun j u f=>by
  match j,f with
  |0,f=>
   obtain rfl:=Option.some.inj f
   exact m) (fun u b=>by obtain rfl:=List.mem_singleton.1 b;rfl) (fun u b=>by obtain rfl:=List.mem_singleton.1 b;exact⟨_,rfl⟩) (by omega) (by decide) hB
 refine⟨d,a,r,?_,Qlm k (fun g y=>(h.lt y).1) hB,k⟩
 show Grow _ _ _ _ _ _ (l++ [x]).length ((l++ [x]).map _)
 rw[List.length_append,List.length_singleton,List.map_append];exact s
theorem IG.slice{w:Vz}{B:Nat}{v:Value}{l:Vy}(h:IG w B v l):∃a b,v=.slice a l.length b/\CRow w a (l.map (fun n:Nat=>Value.int .i64 n)):=by
 obtain⟨a,b,e,_,c,_⟩:=Grow.slice h;exact⟨a,b,e,c⟩
theorem Qof{w c:Vz}{b:Nat}{t:Vr}{C:Vw}{row:Option Nat}(h:SB w b t C)(d:w.grownBy c row)(a:some b≠row):SB c b t C:=by
 have hl:=h.lt;unfold SB at h ⊢;rw[d.block b hl a];exact h
def freeW(vh:Vy)(w:Nat):Bool:=!(vh.contains w)
theorem Qog{vh:Vy}{k r n:Nat}(b:vh[k]?=some r)(c:r<n):((List.range n).map (fun w=>(vh.take k).contains w)).set r true=(List.range n).map (fun w=>(vh.take (k+1)).contains w):=by
 apply List.ext_getElem?;intro i;rw[List.getElem?_set,List.take_add_one,b];by_cases a:r=i
 . subst a
   simp[c]
 .
  rw[if_neg a];rcases Nat.lt_or_ge i n with h|h
  . simp[List.getElem?_range h,a,Ne.symm a]
  . simp[List.getElem?_eq_none (by simpa using h:(List.range n).length<=i)]
theorem Qoh(a1 a2 a3:Vx)(c1 c2 c3 nb N:Nat)(t:List S2)(b:List H3)(vh:Vy)(w:Vz)(hf:ARow H3.cells w a3 c3 b)(n1:t.length<=10)(n3:b.length<=20)(hl:vh.length=b.length)(hv:∀(i:Nat) (h:H3) (r:Nat),b[i]?=some h->vh[i]?=some r->HoldV t.length h r)(hN:2*t.length=N):
 Calls prog 111 #[.agg #[.slice a1 t.length c1,.slice a2 nb c2,.slice a3 b.length c3]] w fun e I=>∃v,e=.returned v/\IG I w.heap.size v (Giv.frs (freeW vh) N)/\Below w.heap.size w I:=by
 obtain⟨V,hV⟩:=nm (w.alloc (.cells #[.slice a1 t.length c1,.slice a2 nb c2,.slice a3 b.length c3] 26));have u:Bl w V:=by rw[<-hV];exact(Below.refl _ _).alloc lZ _
 have J:=Uc hV;obtain⟨HF,K,L,ai,HL,HN,M⟩:=If (hf.below u) u hV hv hl hN (Qcm a1 a2 a3 c1 c2 c3 t.length nb b.length V n1);have aw:N<=20:=by omega
 clear hf u hV hv hl hN;go_enter func111,ntmps111;go_wp2_with fail;rw[L.o];go_fit M.o;rintro e w1 ⟨rfl,g⟩;have eN:2*(t.length:Int)=(N:Int):=by have:=HN.o;omega
 rw[eN];have P:=Qoe N (by omega) w1;obtain⟨V1,l⟩:=nm (w1.alloc (.cells (boolsV (List.replicate N false)).toArray 4));have d:Bl w1 V1:=by rw[<-l];exact(Below.refl _ _).alloc lZ _
 have Q:=Uc l;have R:=Hi (g.trans (d.mono g.size));have k2:=(J.o.below R.o J.o.lt).cell 2;simp only[List.getElem?_toArray,List.getElem?_cons_zero,List.getElem?_cons_succ] at k2;obtain⟨G,hG⟩:=nm w1.heap.size;have aj:O (V.heap.size<=G):=Hi (by rw[<-hG];exact g.size);rw[hG] at Q P;rw[l] at P;clear g d l M L hG eN;go_wp2_with fail;go_loopw [14] (fun y wr=>∃k:Nat,k<=b.length/\y=.int .i64 k/\SB wr G 4 (boolsV ((List.range N).map (fun x=>(vh.take k).contains x))).toArray/\Below V.heap.size V wr) (fun y _=>b.length - (intOf y).toNat)
 case atStart=>
  refine⟨0,by omega,rfl,?_,R.o⟩;have e:(List.range N).map (fun x=>(vh.take 0).contains x)=List.replicate N false:=by
   apply List.ext_getElem?;intro i;rw[List.getElem?_map,List.getElem?_replicate];rcases Nat.lt_or_ge i N with h|h
   . rw[List.getElem?_range h,if_pos h]
     rfl
   . rw[if_neg (by omega),List.getElem?_eq_none (by simpa using h)]
     rfl
  rw[e];exact Q.o
 case round=>
  obtain⟨k,hk,rfl,a,S⟩:=hrel;obtain⟨z,HB⟩:=Ia a S;clear a S;by_cases ak:k<b.length
  .
   obtain⟨h,hh⟩:∃h,b[k]?=some h:=⟨b[k],gE ak⟩;obtain⟨r,hr⟩:∃r,vh[k]?=some r:=⟨vh[k]'(by have:=HL.o;omega),gE (by have:=HL.o;omega)⟩;obtain⟨j,hj,ax,A⟩:=(ai.o k h r hh hr).ex;obtain⟨ay,az,rfl,a0,d0,d1,d2⟩:=(HF.o.below HB.o).hold hh;rw[hj] at d0;obtain⟨X,hX⟩:=nm (wr.alloc (.cells #[.int .i64 j,.int .i64 h.w,.string h.q] 86));have B:Bl wr X:=by rw[<-hX];exact(Below.refl _ _).alloc lZ _
   obtain⟨T,U,W,al⟩:=Ic (Qew j h.w h.q X (by omega)) (HB.o.trans (B.mono HB.o.size)) (z.o.below B z.o.lt) hX;have D:O (r<N):=Hi (by have:=HN.o;rw[A];split<;>omega);have am:O ((if h.w=1 then 2*(j:Int) else 2*(j:Int)+1)=(r:Int)):=Hi (by rw[A];split<;>simp);have HR:=Hi hr;have q1:((k:Int)<(b.length:Int)):=by omega
   clear hh hr hj A hX B;go_wp2_with fail;rw[al.o];go_fit T.o;rintro e w2 ⟨rfl,d⟩;rw[am.o];have m:=W.o.below d W.o.lt;have Z:=m.boolAt r;have f0:=m.free r;rw[List.getElem?_map,List.getElem?_range D.o,Option.map_some,Option.map_some] at Z;have q2:((r:Int)<(N:Int)):=by have:=D.o;omega
   obtain⟨an,ao⟩:=Ia m (U.o.trans (d.mono U.o.size));clear m d T d0 d1 d2;go_wp2;go_roundw
   case rel=>
    refine⟨k+1,by omega,by go_num,?_,Only.fresh ao.o ((Only.refl G w2).setCell r _) aj.o⟩;have E:=an.o.set r (.bool true);rw[List.setIfInBounds_toArray] at E;have e:(boolsV ((List.range N).map (fun x=>(vh.take k).contains x))).set r (.bool true)=boolsV ((List.range N).map (fun x=>(vh.take (k+1)).contains x)):=by
     rw[<-Qog HR.o D.o];unfold boolsV;rw[List.map_set]
    rw[e] at E;exact E
   case measure=>simp[intOf];omega
  .
   have e:k=b.length:=by omega
   have a:=z.o;rw[e,<-HL.o,List.take_length] at a;have ap:=Hi a;clear a e;go_wp2_with fail;go_loopw [6,25] (fun ov y wq=>∃i:Nat,i<=N/\y=.int .i64 i/\IG wq w.heap.size ov (Giv.frs (freeW vh) i)/\SB wq G 4 (boolsV ((List.range N).map (fun x=>vh.contains x))).toArray/\Below w.heap.size w wq) (fun _ y _=>N - (intOf y).toNat)
   case atStart=>exact⟨0,by omega,rfl,Grow.nil _ _ _ _ _,ap.o,K.o.trans (HB.o.mono K.o.size)⟩
   case round=>
    obtain⟨i,hi,rfl,F,a,S⟩:=hrel;obtain⟨n,p,s⟩:=Ib F a S;obtain⟨oa,oc,aq,_⟩:=F.slice;subst aq;clear F a S;by_cases aa:i<N
    .
     have Z:=p.o.boolAt i;rw[List.getElem?_map,List.getElem?_range aa,Option.map_some,Option.map_some] at Z;have q1:((i:Int)<(N:Int)):=by omega
     have ab:=Hi (Giv.frs_succ (freeW vh) i);cases hc:vh.contains i with
     |true=>
      rw[hc] at Z;have HE:O (Giv.frs (freeW vh) (i+1)=Giv.frs (freeW vh) i):=Hi (by rw[ab.o,if_neg (by unfold freeW;rw[hc];decide)]);clear hc;go_wp2;go_roundw
      case rel=>exact⟨i+1,by omega,by go_num,by rw[HE.o];exact n.o,p.o,s.o⟩
      case measure=>simp[intOf];omega
     |false=>
      rw[hc] at Z;have HE:O (Giv.frs (freeW vh) (i+1)=Giv.frs (freeW vh) i++ [i]):=Hi (by rw[ab.o,if_pos (by unfold freeW;rw[hc];decide)]);obtain⟨Y,hY⟩:=nm (wr.alloc (.cells #[.int .i64 i] 3));have f:Bl wr Y:=by rw[<-hY];exact(Below.refl _ _).alloc lZ _
      have ad:Y.cell? ⟨wr.heap.size,0,none⟩=some (.int .i64 i):=by rw[<-hY];exact Qbz wr _ _
      have H:=s.o.trans (f.mono s.o.size);obtain⟨v',I,ae,af,ag,ah⟩:=IG.app (Grow.below n.o f) (x:=i) (nb:=wr.heap.size) (c:=1) ad (Nat.le_trans (Giv.frs_len _ _) (by omega)) H.size 155;have ar:O (SB I G 4 (boolsV ((List.range N).map (fun x=>vh.contains x))).toArray):=Hi (by
       have E:=p.o.below f p.o.lt;exact Qof E ah (fun e=>by
        obtain⟨C,h2,_⟩:=Grow.sb (Grow.below n.o f) e.symm;unfold SB at E h2;rw[E] at h2;have h3:=Option.some.inj h2;injection h3 with _ h4
        exact absurd h4 (by decide)))
      rw[<-hY] at ae;have au:=Hi af;have av:O (Bl w I):=Hi (H.trans ag);clear hc hY f ad af ag H ah;go_wp2;go_roundw
      case rel=>exact⟨i+1,by omega,by go_num,by rw[HE.o];exact au.o,ar.o,av.o⟩
      case measure=>simp[intOf];omega
    .
     obtain rfl:i=N:=by omega
     go_wp2;go_ret;exact⟨_,rfl,n.o,s.o⟩
def hldM(vh:Vy)(hb:Nat->Rat):Nat->Vec
 |0,_=>0
 |k+1,w=>if vh[k]?=some w then hb k else hldM vh hb k w
structure RB (w:Vz) (g n K:Nat) (x:Vec) (us:List FE):Prop where
 blk:QBlk w g us
 len:us.length=n
 val:∀(i:Nat) (t:FE),us[i]?=some t->t.q=x i/\t.k<=K
theorem RB.below{w a:Vz}{g n K:Nat}{x:Vec}{us:List FE}(h:RB w g n K x us)(b:Bl w a):RB a g n K x us:=⟨h.blk.below b,h.len,h.val⟩
theorem RB.new(w:Vz)(n K:Nat)(C:Vw)(hC:C=((List.replicate n FE.zero).flatMap FE.cells).toArray)(b:0<K):RB (w.alloc (.cells C 107)) w.heap.size n K (fun _=>0) (List.replicate n FE.zero):=
 ⟨QBlk.new w n C hC,List.length_replicate,fun i t a=>by
   rw[List.getElem?_replicate] at a
   split at a
   . cases a
     exact⟨rfl,b⟩
   . cases a⟩
theorem RB.set{w:Vz}{g n K k:Nat}{x:Vec}{us:List FE}{a b c:Value}{q:Rat}(h:RB w g n K x us)(hk:k<n)(f:FF q K (.agg #[a,b,c]) w)(y:Vec)(j:∀i,y i=if i=k then q else x i):
 RB (((w.setCell ⟨g,k*3,none⟩ a).setCell ⟨g,k*3+1,none⟩ b).setCell ⟨g,k*3+2,none⟩ c) g n K y (us.set k ⟨a,b,c,q,K⟩):=by
 refine⟨h.blk.set (e:=⟨a,b,c,q,K⟩) (by rw[h.len];exact hk) f,by rw[List.length_set,h.len],fun i t d=>?_⟩;rw[List.getElem?_set] at d;rw[j i]
 split at d
 .
  rename_i e;subst e
  split at d
  . cases d
    exact⟨by rw[if_pos rfl],Nat.le_refl _⟩
  . cases d
 .
  rename_i e;rw[if_neg (fun h=>e h.symm)];exact h.val i t d
theorem RB.at{w:Vz}{g n K k:Nat}{x:Vec}{us:List FE}(h:RB w g n K x us)(hk:k<n):∃a b c,w.cell? ⟨g,k*3,none⟩=some a/\w.cell? ⟨g,k*3+1,none⟩=some b/\w.cell? ⟨g,k*3+2,none⟩=some c/\FF (x k) K (.agg #[a,b,c]) w:=by
 obtain⟨t,d⟩:∃t,us[k]?=some t:=⟨us[k]'(by have:=h.len;omega),gE (by have:=h.len;omega)⟩;obtain⟨b,o,e,_,t0,t1,t2⟩:=h.blk.row.at d;cases e;simp only[Nat.zero_add] at t0 t1 t2;have f:=h.val k t d;refine⟨_,_,_,t0,t1,t2,?_⟩;rw[<-f.1];exact FF.mono (h.blk.row.get d) f.2
theorem RB.cells{w:Vz}{g n K k:Nat}{x:Vec}{us:List FE}{t:FE}(h:RB w g n K x us)(a:us[k]?=some t):w.cell? ⟨g,k*3,none⟩=some t.x/\w.cell? ⟨g,k*3+1,none⟩=some t.y/\w.cell? ⟨g,k*3+2,none⟩=some t.z:=by
 obtain⟨b,o,e,_,t0,t1,t2⟩:=h.blk.row.at a;cases e;simp only[Nat.zero_add] at t0 t1 t2;exact⟨t0,t1,t2⟩
theorem RB.fe{w:Vz}{g n K k:Nat}{x:Vec}{us:List FE}{t:FE}(h:RB w g n K x us)(a:us[k]?=some t):FF (x k) K (.agg #[t.x,t.y,t.z]) w:=by
 have b:=h.val k t a;rw[<-b.1];exact FF.mono (h.blk.row.get a) b.2
theorem RB.get{w:Vz}{g n K k:Nat}{x:Vec}{us:List FE}(h:RB w g n K x us)(hk:k<n):∃t,us[k]?=some t:=⟨us[k]'(by have:=h.len;omega),gE (by have:=h.len;omega)⟩
theorem RB.only{w c:Vz}{g n K a n' K':Nat}{x y:Vec}{us vs:List FE}(h:RB w g n K x us)(d:RB w a n' K' y vs)(e:Only a w c)(b:g≠a):RB c g n K x us:=⟨h.blk.other d.blk e b,h.len,h.val⟩
theorem Qoi(a1 a2 a3:Vx)(c1 c2 c3 nb N:Nat)(u:List S2)(a:List H3)(vh:Vy)(v:Nat->Rat)(w:Vz)(hg:Glob w)(hf:ARow H3.cells w a3 c3 a)(n1:u.length<=10)(n3:a.length<=20)(hl:vh.length=a.length)(hv:∀(i:Nat) (h:H3) (r:Nat),a[i]?=some h->vh[i]?=some r->HoldV u.length h r)(hq:∀(i:Nat) (h:H3),a[i]?=some h->QOf h.q.data.toList (v i)/\h.q.size<=1048576)(hN:2*u.length=N):
 Calls prog 110 #[.agg #[.slice a1 u.length c1,.slice a2 nb c2,.slice a3 a.length c3]] w fun e w'=>∃g us,e=.returned (.slice (some ⟨g,0,none⟩) N N)/\w.heap.size<=g/\RB w' g N 4194305 (hldM vh v a.length) us/\Below w.heap.size w w':=by
 obtain⟨V,hV⟩:=nm (w.alloc (.cells #[.slice a1 u.length c1,.slice a2 nb c2,.slice a3 a.length c3] 26));have m:Bl w V:=by rw[<-hV];exact(Below.refl _ _).alloc lZ _
 have J:=Uc hV;obtain⟨HF,HG,x,L,ad,HL,HN,HQ,M⟩:=Ih (hf.below m) (hg.below m) m hV hv hl hN hq (Qcm a1 a2 a3 c1 c2 c3 u.length nb a.length V n1);have an:N<=20:=by omega
 clear hf m hV hv hl hN hg hq;go_enter func110,ntmps110;go_wp2_with fail;rw[L.o];go_fit M.o;rintro e w1 ⟨rfl,n⟩;have eN:2*(u.length:Int)=(N:Int):=by have:=HN.o;omega
 rw[eN];have y:=Qa4 N (by omega) w1;obtain⟨MC,z⟩:=nm (((List.replicate N FE.zero).flatMap FE.cells).toArray);rw[z] at y;obtain⟨V1,p⟩:=nm (w1.alloc (.cells MC 107));have P:Bl w1 V1:=by rw[<-p];exact(Below.refl _ _).alloc lZ _
 have Q:O (RB V1 w1.heap.size N 4194305 (fun _=>0) (List.replicate N FE.zero)):=Hi (by rw[<-p];exact RB.new w1 N 4194305 MC z.symm (by decide));have R:=Hi (n.trans (P.mono n.size));have k2:=(J.o.below R.o J.o.lt).cell 2;simp only[List.getElem?_toArray,List.getElem?_cons_zero,List.getElem?_cons_succ] at k2;obtain⟨G,hG⟩:=nm w1.heap.size;have S:O (V.heap.size<=G):=Hi (by rw[<-hG];exact n.size);rw[hG] at Q y;rw[p] at y;clear n P p M L hG eN z;go_wp2_with fail;go_loopw [12] (fun iv wr=>∃(k:Nat) (us:List FE),k<=a.length/\iv=.int .i64 k/\RB wr G N 4194305 (hldM vh v k) us/\Below V.heap.size V wr) (fun iv _=>a.length - (intOf iv).toNat)
 case atStart=>exact⟨0,_,by omega,rfl,Q.o,R.o⟩
 case round=>
  obtain⟨k,us,hk,rfl,T,U⟩:=hrel;obtain⟨W,HB⟩:=Ia T U;clear T U;by_cases ae:k<a.length
  .
   obtain⟨h,hh⟩:∃h,a[k]?=some h:=⟨a[k],gE ae⟩;obtain⟨r,hr⟩:∃r,vh[k]?=some r:=⟨vh[k]'(by have:=HL.o;omega),gE (by have:=HL.o;omega)⟩;obtain⟨j,hj,ap,A⟩:=(ad.o k h r hh hr).ex;obtain⟨aq,ar,rfl,au,d0,d1,d2⟩:=(HF.o.below HB.o).hold hh;rw[hj] at d0;have Y:=Hi (HQ.o k h hh);obtain⟨X,hX⟩:=nm (wr.alloc (.cells #[.int .i64 j,.int .i64 h.w,.string h.q] 86));have B:Bl wr X:=by rw[<-hX];exact(Below.refl _ _).alloc lZ _
   have C:=Uc hX;have HJ:O (j<=10):=Hi (by omega);have Z:=Hi hX;have D:O (r<N):=Hi (by have:=HN.o;rw[A];split<;>omega);have af:O ((if h.w=1 then 2*(j:Int) else 2*(j:Int)+1)=(r:Int)):=Hi (by rw[A];split<;>simp);have HR:=Hi hr;have ag:O (∀w,Calls prog 56 #[.agg #[.int .i64 j,.int .i64 h.w,.string h.q]] w (Makes w (Is (.int .i64 r)))):=Hi (fun w=>(Qew j h.w h.q w HJ.o).mono (fun e w' h=>⟨_,h.1,h.2,by rw[af.o];rfl⟩));obtain⟨E,aa⟩:=Ia (HB.o.trans (B.mono HB.o.size)) (W.o.below B);have q1:((k:Int)<(a.length:Int)):=by omega
   clear hh hr hj A hX B;go_wp2_with fail;rw[Z.o];have s:Bl X X.drew:=bR.drew;have l:=C.o.below s C.o.lt;obtain⟨F,H,I⟩:=Ib (l.cell 0) (l.cell 1) (l.cell 2);simp only[List.getElem?_toArray,List.getElem?_cons_zero,List.getElem?_cons_succ] at F H I;obtain⟨ab,t,ah⟩:=Ib l.lt (E.o.trans (s.mono E.o.size)) (aa.o.below s);clear s l Z C aa E d0 d1 d2;generalize hR0:wr.heap.size=R0 at*;have ao:=Hi hR0;clear hR0;have q2:((r:Int)<(N:Int)):=by have:=D.o;omega
   refine RegG.bg 7 (fun j=>some (16+j)) ?_;refine RegG.pu (c:=?_) [] (fun w d=>?_) ?_;rotate_left
   .
    intro K b;go_simp;exact b
   refine RegG.pu (c:=?_) [] (fun w d=>?_) ?_;rotate_left
   .
    intro K b;obtain⟨e0,e1,e2⟩:=Jb d ab.o F.o H.o I.o;go_simp;exact b
   refine RegG.ca (φ:=Is (.int .i64 r)) [1] ((fun _ _ _ _ h=>h)) (fun w d=>?_) ?_
   .
    intro K b;go_simp;exact Makes.use (ag.o w) b
   refine RegG.pu (c:=?_) [] (fun w d=>?_) ?_;rotate_left
   .
    intro K b;go_simp;exact b
   refine RegG.pu (c:=?_) [3] (fun w d=>?_) ?_;rotate_left
   .
    intro K b;obtain⟨e0,e1,e2⟩:=Jb d ab.o F.o H.o I.o;go_simp;exact b
   refine RegG.ca (φ:=FF (v k) 4194305) [4] (FF.stays _ _) (fun w d=>?_) ?_
   .
    intro K b;go_simp;exact Makes.use (FF.of (HG.o.below (t.o.trans (d.mono t.o.size))) Y.o.1 Y.o.2 (by decide) (by decide)) b
   refine RegG.pu (c:=?_) [0,2] (fun w d=>?_) ?_;rotate_left
   .
    intro K b;go_simp;exact b
   refine RegG.last (by simp only[List.nil_append,List.cons_append,List.length_append,List.length_cons,List.length_nil,Nat.reduceAdd]) (by rfl) (by rfl) (by kernel_rfl) (fun x2 d=>?_);simp only[FinG,List.nil_append,List.cons_append,Qad,Act.put,List.setIfInBounds_toArray,List.set_cons_zero,List.set_cons_succ,Nat.reduceAdd,Nat.reduceBEq,cond_true,cond_false];intro v5 h5 K b;obtain⟨x',y',z',rfl⟩:=h5.parts;obtain⟨o1,o2,o3⟩:=h5.1.one;have ai:=Qaa prog o1;have aj:=Qaa prog o2;have ak:=Qaa prog o3;have f:=ah.o.below d;obtain⟨y0,y1,y2,c0,c1,c2,_⟩:=f.at D.o;have f0:=f.blk.blk.free (r*3);have f1:=f.blk.blk.free (r*3+1);have f2:=f.blk.blk.free (r*3+2);have al:=Hi (f.set D.o h5 (hldM vh v (k+1)) (fun i=>by
    show (if vh[k]?=some i then v k else hldM vh v k i)=_
    rw[HR.o];by_cases e:i=r
    . rw[if_pos (by rw[e]),if_pos e]
    . rw[if_neg (fun h=>e (Option.some.inj h).symm),if_neg e]))
   have am:=Hi (t.o.trans (d.mono t.o.size));clear o1 o2 o3 f h5 d;go_simp;refine b _ _ ?_;clear b c0 c1 c2 f0 f1 f2 ai aj ak;go_wp2;go_roundw
   case rel=>exact⟨k+1,_,by omega,by go_num,al.o,Only.fresh am.o ((((Only.refl G x2).setCell (r*3) x').setCell (r*3+1) y').setCell (r*3+2) z') S.o⟩
   case measure=>simp[intOf];omega
  .
   obtain rfl:k=a.length:=by omega
   go_wp2;go_ret;exact⟨G,us,rfl,Nat.le_trans x.o.size S.o,W.o,x.o.trans (HB.o.mono x.o.size)⟩
def NewF(B:Nat):Fact:=fun v w=>∃b,v=.pointer (some ⟨b,0,none⟩)/\B<=b/\SB w b 107 #[.bool false,.slice none 0 0,.slice none 0 0]
theorem NewF.stays(B:Nat):Stays (NewF B):=fun _ _ _ c ⟨b,e,d,a⟩=>⟨b,e,d,a.below c a.lt⟩
def strq(p:Nat × Nat × Rat × Rat)(v:Vec):Rat:=p.2.2.1*(v (2*p.2.1) - v (2*p.1))+p.2.2.2*(v (2*p.2.1+1) - v (2*p.1+1))
def stretchV(vb:List (Nat × Nat × Rat × Rat))(x:Vec):Vec:=fun i=>strq (vb.getD i (0,0,0,0)) x
def firstV(x:Vec)(k:Nat):Vec:=fun i=>if i<k then x i else 0
theorem row_x(j r:Nat)(w:Vz)(a:j<=10)(b:2*j=r):Calls prog 108 #[.int .i64 j] w (Makes w (Is (.int .i64 r))):=
 (Qcn j w a).mono fun e f ⟨c,d⟩=>⟨_,c,by rw[d];exact Below.refl _ _,by rw[<-b];simp[Is]⟩
theorem row_y(j r:Nat)(w:Vz)(a:j<=10)(b:2*j+1=r):Calls prog 109 #[.int .i64 j] w (Makes w (Is (.int .i64 r))):=
 (Qco j w a).mono fun e f ⟨c,d⟩=>⟨_,c,by rw[d];exact Below.refl _ _,by rw[<-b];simp[Is]⟩
theorem Qoj(a1 a2 a3:Vx)(c1 c2 c3 nh gm N y KS:Nat)(js:List S2)(z:List B6)(vb:List (Nat × Nat × Rat × Rat))(x:Vec)(ms:List FE)(w:Vz)(hg:Glob w)(hj:ARow S2.cells w a1 c1 js)(hf:ARow B6.cells w a2 c2 z)(n1:js.length<=10)(n2:z.length<=24)(hl:vb.length=z.length)(hv:∀(i:Nat) (b:B6) (p:Nat × Nat × Rat × Rat),z[i]?=some b->vb[i]?=some p->BarV 1048576 js b p)(hm:RB w gm N y x ms)(hN:2*js.length=N)(d:KS=2*(8388611+(2*y+1))+1)(dv:y<=1000000000):
 Calls prog 115 #[.agg #[.slice a1 js.length c1,.slice a2 z.length c2,.slice a3 nh c3],.slice (some ⟨gm,0,none⟩) N N] w fun e w'=>∃g us,e=.returned (.slice (some ⟨g,0,none⟩) z.length z.length)/\w.heap.size<=g/\RB w' g z.length KS (firstV (stretchV vb x) z.length) us/\Below w.heap.size w w':=by
 obtain⟨V,hV⟩:=nm (w.alloc (.cells #[.slice a1 js.length c1,.slice a2 z.length c2,.slice a3 nh c3] 26));have I:Bl w V:=by rw[<-hV];exact(Below.refl _ _).alloc lZ _
 have ah:=Qa4 z.length (by omega) V;obtain⟨MC,b1⟩:=nm (((List.replicate z.length FE.zero).flatMap FE.cells).toArray);rw[b1] at ah;obtain⟨V1,ai⟩:=nm (V.alloc (.cells MC 107));have b3:Bl V V1:=by rw[<-ai];exact(Below.refl _ _).alloc lZ _
 have b4:O (RB V1 V.heap.size z.length KS (fun _=>0) (List.replicate z.length FE.zero)):=Hi (by rw[<-ai];exact RB.new V z.length KS MC b1.symm (by omega));have cj:=Hi (I.trans (b3.mono I.size));have aj:SB V w.heap.size 26 #[.slice a1 js.length c1,.slice a2 z.length c2,.slice a3 nh c3]:=by rw[<-hV];exact SB.new w _ _
 have ck:=Hi (aj.below b3 aj.lt);have k1:=aj.cell 1;have dw:=ck.o.cell 1;simp only[List.getElem?_toArray,List.getElem?_cons_zero,List.getElem?_cons_succ] at k1 dw;obtain⟨HG,HJ,HF,HM,HV,HL,HN,HK,dz⟩:=Ih hg hj hf (hm.below cj.o) hv hl hN (And.intro d dv) n1;have ea:O (gm<w.heap.size):=Hi hm.blk.blk.lt;obtain⟨G,hG⟩:=nm V.heap.size;have a0:O (w.heap.size<G):=Hi (by rw[<-hG];exact aj.lt);have ep:O (G<V1.heap.size):=Hi (by rw[<-hG];exact b4.o.blk.blk.lt);rw[hG] at b4 ah;obtain⟨eq,eo⟩:=Ia hV ai;rw[ai] at ah;rw[<-hV] at ah k1;clear I hV b3 ai aj b1 hG hg hj hf hv hl hm hN d;go_enter func115,ntmps115;go_wp2_with fail;clear ah k1
 go_loopw [19] (fun iv wr=>∃(k:Nat) (us:List FE),k<=z.length/\iv=.int .i64 k/\RB wr G z.length KS (firstV (stretchV vb x) k) us/\SB wr w.heap.size 26 #[.slice a1 js.length c1,.slice a2 z.length c2,.slice a3 nh c3]/\RB wr gm N y x ms/\Below w.heap.size w wr) (fun iv _=>z.length - (intOf iv).toNat)
 case atStart=>
  refine⟨0,List.replicate z.length FE.zero,by omega,rfl,?_,ck.o,HM.o,cj.o⟩;have e:firstV (stretchV vb x) 0=fun _=>0:=funext fun i=>by unfold firstV;rw[if_neg (by omega)]
  rw[e];exact b4.o
 case round=>
  obtain⟨k,us,hk,rfl,cl,ak,cm,R⟩:=hrel;obtain⟨cn,a4,eb,HB⟩:=Ic cl ak cm R;clear cl ak cm R;by_cases b5:k<z.length
  .
   obtain⟨b,b6⟩:∃b,z[k]?=some b:=⟨z[k],gE b5⟩;obtain⟨p,hp⟩:∃p,vb[k]?=some p:=⟨vb[k]'(by have:=HL.o;omega),gE (by have:=HL.o;omega)⟩;have I:=HV.o k b p b6 hp;obtain⟨s,t,x1,y1,x2,y2,e1,e2,z1,z2,z3,z4,q1,q2,q3,q4,ex,ey⟩:=I.ex;obtain⟨bb,bo,rfl,er,d0,d1,d2,d3,d4,d5⟩:=(HF.o.below HB.o).bar b6;obtain⟨A,hA⟩:=nm p.1;obtain⟨B,hB⟩:=nm p.2.1;have a5:=I.a;have R:=I.b;rw[hA] at a5 e1;rw[hB] at R e2;have ec:=(gZ e1).1;have ed:=(gZ e2).1;have cp:O (A<=10):=Hi (by omega);have cq:O (B<=10):=Hi (by omega);obtain⟨X,hX⟩:=nm (wr.alloc (.cells #[.int .i64 b.a,.int .i64 b.b,.string b.c,.string b.e,.string b.l,.string b.m] 84));have a6:Bl wr X:=by rw[<-hX];exact(Below.refl _ _).alloc lZ _
   have cr:SB X wr.heap.size 84 #[.int .i64 b.a,.int .i64 b.b,.string b.c,.string b.e,.string b.l,.string b.m]:=by rw[<-hX];exact SB.new wr _ _
   have a7:=Hi (HB.o.trans (a6.mono HB.o.size));have b7:=Hi (Qg8 a1 (some ⟨bb,bo,none⟩) a3 c1 c2 c3 z.length nh A B 1048576 js b s t X (HG.o.below a7.o) (HJ.o.below a7.o) a5 R e1 e2 dz.o z1 z2 z3 z4 (by decide) q1 q2 q3 q4);rw[<-ex,<-ey] at b7;have kf:=a4.o.below a6 a4.o.lt;have x0:=kf.cell 0;have b8:=kf.cell 1;have b9:=kf.cell 2;simp only[List.getElem?_toArray,List.getElem?_cons_zero,List.getElem?_cons_succ] at x0 b8 b9;rw[<-hX] at x0 b8 b9;obtain⟨cb,cs⟩:=Ia cr hX;have q5:((k:Int)<(z.length:Int)):=by omega
   obtain⟨ee,ct,a8⟩:=Ib hp a6 (And.intro hA (And.intro hB (And.intro a5 R)));have a9:O (2*A+1<N/\2*B+1<N):=Hi (by have:=HN.o;omega);clear b6 hp I e1 e2 z1 z2 z3 z4 q1 q2 q3 q4 ex ey hA hB a5 R hX a6 cr kf ec ed;go_wp2_with fail;rw[cs.o];go_fit b7.o;rintro e w1 ⟨v1,v2,v3,u1,u2,u3,rfl,W⟩;have cu:FF p.2.2.1 8388611 (.agg #[v1,v2,v3]) w1:=W.get (List.Mem.tail _ (List.Mem.head _));have cv:FF p.2.2.2 8388611 (.agg #[u1,u2,u3]) w1:=W.get (List.Mem.head _);obtain⟨HX,HY⟩:=Ia cu cv;obtain⟨⟨nx,ax,lx,cx,bx,mx,dx,ex,_⟩,_,_⟩:=cu;obtain⟨⟨ny,ay,ly,cy,b2,my,dy,ey,_⟩,_,_⟩:=cv;simp only[Value.agg.injEq,Array.mk.injEq,List.cons.injEq,and_true] at ex ey;obtain⟨rfl,rfl,rfl⟩:=ex;obtain⟨rfl,rfl,rfl⟩:=ey;have cw:=Hi W.base;clear W b7 x0 b8 b9
   obtain⟨V2,al⟩:=nm ((w1.alloc (.cells #[.bool nx,.slice ax lx cx,.slice bx mx dx] 107)).alloc (.cells #[.bool ny,.slice ay ly cy,.slice b2 my dy] 107));have ba:Bl w1 V2:=by rw[<-al];exact Below.new2 w1 _ _
   have cz:FB p.2.2.1 8388611 V2 w1.heap.size:=⟨_,_,_,by
    rw[<-al]
    exact(SB.new w1 _ _).below (bR.alloc lZ _) (by rw[World.size_alloc];omega),HX.o.below ba⟩
   have c4:FB p.2.2.2 8388611 V2 (w1.heap.size+1):=⟨_,_,_,by rw[<-al];exact SB.new2 w1 _ _ _ _,HY.o.below ba⟩;have bl:=Hi al;have bc:Bl X V2:=cw.o.trans (ba.mono cw.o.size);obtain⟨bm,c5,c6,c7,am⟩:=Id (a7.o.trans (bc.mono a7.o.size)) (ct.o.trans (bc.mono ct.o.size)) cz c4 (cb.o.below bc cb.o.lt);clear al ba cz c4 bc HX HY;go_wp2_with fail;rw[bl.o];obtain⟨Y,hY⟩:=nm V2.drew;have ae:Bl V2 Y:=by rw[<-hY];exact(Below.refl _ _).drew
   obtain⟨S,c8,bd⟩:=Ib hY (bm.o.trans (ae.mono bm.o.size)) (c5.o.trans (ae.mono c5.o.size));have be:=am.o.below ae am.o.lt;obtain⟨D,E,F⟩:=Ib be.lt (be.cell 0) (be.cell 1);simp only[List.getElem?_toArray,List.getElem?_cons_zero,List.getElem?_cons_succ] at E F;rw[a8.o.2.2.1] at E;rw[a8.o.2.2.2] at F;obtain⟨n,bn,bp⟩:=Ib (eb.o.below bd.o) (c6.o.below ae) (c7.o.below ae);obtain⟨J,c9⟩:∃r,2*A=r:=⟨_,rfl⟩;obtain⟨L,da⟩:∃r,2*B=r:=⟨_,rfl⟩;obtain⟨M,db⟩:∃r,2*A+1=r:=⟨_,rfl⟩;obtain⟨P,dc⟩:∃r,2*B+1=r:=⟨_,rfl⟩;obtain⟨dd,bq,de,df⟩:=Ic c9 da db dc;have g1:((J:Int)<(N:Int)):=by have:=a9.o;omega
   have g2:((L:Int)<(N:Int)):=by have:=a9.o;omega
   have g3:((M:Int)<(N:Int)):=by have:=a9.o;omega
   have g4:((P:Int)<(N:Int)):=by have:=a9.o;omega
   obtain⟨ta,dg⟩:=n.o.get (k:=J) (by omega);obtain⟨tb,dh⟩:=n.o.get (k:=L) (by omega);obtain⟨sa,di⟩:=n.o.get (k:=M) (by omega);obtain⟨sb,ak⟩:=n.o.get (k:=P) (by omega);obtain⟨dj,br,af,ag⟩:=Ic di ak dg dh;have dk:O (y+y<68719476000):=Hi (by omega);have bf:=Hi (cn.o.below bd.o);clear hY ae be c9 da db dc dg dh di ak cb am cs bl c6 c7;generalize bh:wr.heap.size=R0 at*;have an:=Hi bh;generalize bi:w1.heap.size=W1 at*;have dl:=Hi bi;clear bh bi;refine RegG.bg 14 (fun j=>bif j == 13 then some 10 else some (30+j)) ?_;rw[S.o];refine RegG.pu (c:=?_) [] (fun w f=>?_) ?_;rotate_left
   .
    intro K d;go_simp;exact d
   refine RegG.pu (c:=?_) [] (fun w f=>?_) ?_;rotate_left
   .
    intro K d;go_simp;exact d
   refine RegG.pu (c:=?_) [1] (fun w f=>?_) ?_;rotate_left
   .
    intro K d;obtain⟨e0,e1⟩:=Ja f D.o E.o F.o;go_simp;exact d
   refine RegG.ca (φ:=Is (.int .i64 (L:Nat))) [2] ((fun _ _ _ _ h=>h)) (fun w f=>?_) ?_
   .
    intro K d;go_simp;exact Makes.use (row_x B L w cq.o bq.o) d
   refine RegG.pu (c:=?_) [0,3] (fun w f=>?_) ?_;rotate_left
   .
    intro K d;go_simp;exact d
   refine RegG.pu (c:=?_) [4] (fun w f=>?_) ?_;rotate_left
   .
    intro K d;obtain⟨d0,d1,d2⟩:=(n.o.below f).cells ag.o;go_simp;exact d
   refine RegG.pu (c:=?_) [] (fun w f=>?_) ?_;rotate_left
   .
    intro K d;go_simp;exact d
   refine RegG.pu (c:=?_) [] (fun w f=>?_) ?_;rotate_left
   .
    intro K d;go_simp;exact d
   refine RegG.pu (c:=?_) [7] (fun w f=>?_) ?_;rotate_left
   .
    intro K d;obtain⟨e0,e1⟩:=Ja f D.o E.o F.o;go_simp;exact d
   refine RegG.ca (φ:=Is (.int .i64 (J:Nat))) [8] ((fun _ _ _ _ h=>h)) (fun w f=>?_) ?_
   .
    intro K d;go_simp;exact Makes.use (row_x A J w cp.o dd.o) d
   refine RegG.pu (c:=?_) [6,9] (fun w f=>?_) ?_;rotate_left
   .
    intro K d;go_simp;exact d
   refine RegG.pu (c:=?_) [10] (fun w f=>?_) ?_;rotate_left
   .
    intro K d;obtain⟨d0,d1,d2⟩:=(n.o.below f).cells af.o;go_simp;exact d
   refine RegG.ca (φ:=FF (x L - x J) (y+y+1)) [5,11] (FF.stays _ _) (fun w f=>?_) ?_
   .
    intro K d;go_simp;exact Makes.use (FF.minus ((n.o.below f).fe ag.o) ((n.o.below f).fe af.o) dk.o) d
   refine RegG.ca (φ:=NewF Y.heap.size) [] (NewF.stays _) (fun w f=>?_) ?_
   .
    intro K d;go_simp;exact d _ _ (bR.alloc lZ _) ⟨_,rfl,f.size,SB.new w _ _⟩
   refine RegG.last (by simp only[List.nil_append,List.cons_append,List.length_append,List.length_cons,List.length_nil,Nat.reduceAdd]) (by rfl) (by rfl) (by kernel_rfl) (fun x2 f=>?_);simp only[FinG,List.nil_append,List.cons_append,Qad,Act.put,List.setIfInBounds_toArray,List.set_cons_zero,List.set_cons_succ,Nat.reduceAdd,Nat.reduceBEq,cond_true,cond_false];intro ef H eg cc K d;obtain⟨ao,rfl,T,u⟩:=cc;obtain⟨x',y',z',rfl⟩:=H.parts;obtain⟨o1,o2,o3⟩:=H.1.one;have ap:=Qaa prog o1;have aq:=Qaa prog o2;have ar:=Qaa prog o3;have f0:=u.free 0;have f1:=u.free 1;have f2:=u.free 2;have c0:=u.cell 0;have c1:=u.cell 1;have c2:=u.cell 2;simp only[List.getElem?_toArray,List.getElem?_cons_zero,List.getElem?_cons_succ] at c0 c1 c2;obtain⟨Z6,hZ⟩:∃Z,((x2.setCell ⟨ao,0,none⟩ x').setCell ⟨ao,1,none⟩ y').setCell ⟨ao,2,none⟩ z'=Z:=⟨_,rfl⟩
   have bj:O (FB (x L - x J) (y+y+1) Z6 ao):=Hi (by rw[<-hZ];exact FB.set ⟨_,_,_,u,FF.zero _⟩ H);have aa:O (Bl Y Z6):=Hi (by rw[<-hZ];exact Only.fresh f ((((Only.refl ao x2).setCell 0 x').setCell 1 y').setCell 2 z') T);obtain⟨au,dt⟩:=Ia hZ T;clear o1 o2 o3 u H f hZ T;go_simp;rw[au.o];refine d _ _ ?_;clear d c0 c1 c2 f0 f1 f2 ap aq ar au;go_wp2_with fail;obtain⟨Y7,cd⟩:=nm Z6.drew;have cf:Bl Z6 Y7:=by rw[<-cd];exact(Below.refl _ _).drew
   have C:Bl Y Y7:=aa.o.trans (cf.mono aa.o.size);obtain⟨bt,dm,dn,dp,dq,bu,bv,dr,bw⟩:=Ih (bj.o.below cf) (ce C D.o E.o) (ce C D.o F.o) (Nat.lt_of_lt_of_le D.o C.size) (n.o.below C) (bn.o.below C) (bp.o.below C) (bf.o.below C) (c8.o.trans (C.mono c8.o.size));have av:=Hi ((a4.o.below (bd.o.trans (C.mono (by rw[<-an.o];exact bd.o.size))) (by rw[<-an.o];exact a4.o.lt)));clear S D E F n af ag bn bp bf;have S:=Hi cd;have D:=dp;have E:=dm;have F:=dn;have n:=dq;have af:=dj;have ag:=br;clear dp dm dn dq dj br cd cf C;refine RegG.bg 14 (fun j=>bif j == 13 then some 11 else some (43+j)) ?_;rw[S.o]
   refine RegG.pu (c:=?_) [] (fun w f=>?_) ?_;rotate_left
   .
    intro K d;go_simp;exact d
   refine RegG.pu (c:=?_) [] (fun w f=>?_) ?_;rotate_left
   .
    intro K d;go_simp;exact d
   refine RegG.pu (c:=?_) [1] (fun w f=>?_) ?_;rotate_left
   .
    intro K d;obtain⟨e0,e1⟩:=Ja f D.o E.o F.o;go_simp;exact d
   refine RegG.ca (φ:=Is (.int .i64 (P:Nat))) [2] ((fun _ _ _ _ h=>h)) (fun w f=>?_) ?_
   .
    intro K d;go_simp;exact Makes.use (row_y B P w cq.o df.o) d
   refine RegG.pu (c:=?_) [0,3] (fun w f=>?_) ?_;rotate_left
   .
    intro K d;go_simp;exact d
   refine RegG.pu (c:=?_) [4] (fun w f=>?_) ?_;rotate_left
   .
    intro K d;obtain⟨d0,d1,d2⟩:=(n.o.below f).cells ag.o;go_simp;exact d
   refine RegG.pu (c:=?_) [] (fun w f=>?_) ?_;rotate_left
   .
    intro K d;go_simp;exact d
   refine RegG.pu (c:=?_) [] (fun w f=>?_) ?_;rotate_left
   .
    intro K d;go_simp;exact d
   refine RegG.pu (c:=?_) [7] (fun w f=>?_) ?_;rotate_left
   .
    intro K d;obtain⟨e0,e1⟩:=Ja f D.o E.o F.o;go_simp;exact d
   refine RegG.ca (φ:=Is (.int .i64 (M:Nat))) [8] ((fun _ _ _ _ h=>h)) (fun w f=>?_) ?_
   .
    intro K d;go_simp;exact Makes.use (row_y A M w cp.o de.o) d
   refine RegG.pu (c:=?_) [6,9] (fun w f=>?_) ?_;rotate_left
   .
    intro K d;go_simp;exact d
   refine RegG.pu (c:=?_) [10] (fun w f=>?_) ?_;rotate_left
   .
    intro K d;obtain⟨d0,d1,d2⟩:=(n.o.below f).cells af.o;go_simp;exact d
   refine RegG.ca (φ:=FF (x P - x M) (y+y+1)) [5,11] (FF.stays _ _) (fun w f=>?_) ?_
   .
    intro K d;go_simp;exact Makes.use (FF.minus ((n.o.below f).fe ag.o) ((n.o.below f).fe af.o) dk.o) d
   refine RegG.ca (φ:=NewF Y7.heap.size) [] (NewF.stays _) (fun w f=>?_) ?_
   .
    intro K d;go_simp;exact d _ _ (bR.alloc lZ _) ⟨_,rfl,f.size,SB.new w _ _⟩
   refine RegG.last (by simp only[List.nil_append,List.cons_append,List.length_append,List.length_cons,List.length_nil,Nat.reduceAdd]) (by rfl) (by rfl) (by kernel_rfl) (fun x2 f=>?_);simp only[FinG,List.nil_append,List.cons_append,Qad,Act.put,List.setIfInBounds_toArray,List.set_cons_zero,List.set_cons_succ,Nat.reduceAdd,Nat.reduceBEq,cond_true,cond_false];intro ef H eg cc K d;obtain⟨aw,rfl,T,u⟩:=cc;obtain⟨x',y',z',rfl⟩:=H.parts;obtain⟨o1,o2,o3⟩:=H.1.one;have ap:=Qaa prog o1;have aq:=Qaa prog o2;have ar:=Qaa prog o3;have f0:=u.free 0;have f1:=u.free 1;have f2:=u.free 2;have c0:=u.cell 0;have c1:=u.cell 1;have c2:=u.cell 2;simp only[List.getElem?_toArray,List.getElem?_cons_zero,List.getElem?_cons_succ] at c0 c1 c2;obtain⟨Z7,hZ⟩:∃Z,((x2.setCell ⟨aw,0,none⟩ x').setCell ⟨aw,1,none⟩ y').setCell ⟨aw,2,none⟩ z'=Z:=⟨_,rfl⟩
   have ab:O (FB (x P - x M) (y+y+1) Z7 aw):=Hi (by rw[<-hZ];exact FB.set ⟨_,_,_,u,FF.zero _⟩ H);have ad:O (Bl Y7 Z7):=Hi (by rw[<-hZ];exact Only.fresh f ((((Only.refl aw x2).setCell 0 x').setCell 1 y').setCell 2 z') T);obtain⟨au,du⟩:=Ia hZ T;clear o1 o2 o3 u H f hZ T;go_simp;rw[au.o];refine d _ _ ?_;clear d c0 c1 c2 f0 f1 f2 ap aq ar au;go_wp2_with fail;obtain⟨Y8,cg⟩:=nm Z7.drew;have ch:Bl Z7 Y8:=by rw[<-cg];exact(Below.refl _ _).drew
   have Q:Bl Y7 Y8:=ad.o.trans (ch.mono ad.o.size);obtain⟨i1,i2,i3,ps,pf⟩:=ab.o.below ch;obtain⟨j1,j2,j3,rs,rf⟩:=bt.o.below Q;obtain⟨l1,l2,l3,ls,lf⟩:=bu.o.below Q;obtain⟨m1,m2,m3,az,mf⟩:=bv.o.below Q;obtain⟨P0,P1,P2,R1,R2,R3,L0,L1,L2⟩:=Ih (ps.cell 0) (ps.cell 1) (ps.cell 2) (rs.cell 0) (rs.cell 1) (rs.cell 2) (ls.cell 0) (ls.cell 1) (ls.cell 2);obtain⟨M0,M1,M2⟩:=Ib (az.cell 0) (az.cell 1) (az.cell 2);simp only[List.getElem?_toArray,List.getElem?_cons_zero,List.getElem?_cons_succ] at P0 P1 P2 R1 R2 R3 L0 L1 L2 M0 M1 M2;obtain⟨bk,PF⟩:=Ia (And.intro ps.lt (And.intro rs.lt (And.intro ls.lt az.lt))) pf;have eh:=Hi rf;obtain⟨LF,MF,bf,bz⟩:=Ic lf mf (dr.o.below Q) (bw.o.trans (Q.mono bw.o.size))
   obtain⟨b0,ds⟩:=Ia (av.o.below Q av.o.lt) (n.o.below Q);have ei:O (∀{q:Rat} {w:Vz} {e:Ending} {w':Vz},Makes w (FF q (8388611+(y+y+1)+(8388611+(y+y+1))+1)) e w'->Makes w (FF q KS) e w'):=Hi (fun ⟨v,h1,h2,h3⟩=>⟨v,h1,h2,h3.mono (by have:=HK.o.1;omega)⟩);have ci:O (8388611+(y+y+1)<68719476000/\8388611+(y+y+1)+(8388611+(y+y+1))<68719476000):=Hi (by omega);clear S;have S:=Hi cg;clear cg ch Q ps rs ls az pf rf lf mf ab bt bu bv dr av n;refine RegG.bg 10 (fun j=>some (56+j)) ?_;rw[S.o];refine RegG.pu (c:=?_) [] (fun w f=>?_) ?_;rotate_left
   .
    intro K d;go_simp;exact d
   refine RegG.pu (c:=?_) [] (fun w f=>?_) ?_;rotate_left
   .
    intro K d;go_simp;exact d
   refine RegG.pu (c:=?_) [] (fun w f=>?_) ?_;rotate_left
   .
    intro K d;obtain⟨e0,e1,e2⟩:=Jb f bk.o.2.2.1 L0.o L1.o L2.o;go_simp;exact d
   refine RegG.pu (c:=?_) [] (fun w f=>?_) ?_;rotate_left
   .
    intro K d;obtain⟨e0,e1,e2⟩:=Jb f bk.o.2.1 R1.o R2.o R3.o;go_simp;exact d
   refine RegG.ca (φ:=FF (p.2.2.1*(x L - x J)) (8388611+(y+y+1))) [2,3] (FF.stays _ _) (fun w f=>?_) ?_
   .
    intro K d;go_simp;exact Makes.use (FF.times (LF.o.below f) (eh.o.below f) ci.o.1) d
   refine RegG.pu (c:=?_) [] (fun w f=>?_) ?_;rotate_left
   .
    intro K d;obtain⟨e0,e1,e2⟩:=Jb f bk.o.2.2.2 M0.o M1.o M2.o;go_simp;exact d
   refine RegG.pu (c:=?_) [] (fun w f=>?_) ?_;rotate_left
   .
    intro K d;obtain⟨e0,e1,e2⟩:=Jb f bk.o.1 P0.o P1.o P2.o;go_simp;exact d
   refine RegG.ca (φ:=FF (p.2.2.2*(x P - x M)) (8388611+(y+y+1))) [5,6] (FF.stays _ _) (fun w f=>?_) ?_
   .
    intro K d;go_simp;exact Makes.use (FF.times (MF.o.below f) (PF.o.below f) ci.o.1) d
   refine RegG.ca (φ:=FF (p.2.2.1*(x L - x J)+p.2.2.2*(x P - x M)) KS) [4,7] (FF.stays _ _) (fun w f=>?_) ?_
   .
    intro v4 h4 v7 h7;intro K d;go_simp;exact Makes.use ((FF.plus h4 h7 ci.o.2).mono (fun e w' h=>ei.o h)) d
   refine RegG.pu (c:=?_) [0,1] (fun w f=>?_) ?_;rotate_left
   .
    intro K d;go_simp;exact d
   refine RegG.last (by simp only[List.nil_append,List.cons_append,List.length_append,List.length_cons,List.length_nil,Nat.reduceAdd]) (by rfl) (by rfl) (by kernel_rfl) (fun x3 f=>?_);simp only[FinG,List.nil_append,List.cons_append,Qad,Act.put,List.setIfInBounds_toArray,List.set_cons_zero,List.set_cons_succ,Nat.reduceAdd,Nat.reduceBEq,cond_true,cond_false];intro v4 _ v7 _ v8 h8 K d;obtain⟨x',y',z',rfl⟩:=h8.parts;obtain⟨o1,o2,o3⟩:=h8.1.one;have ap:=Qaa prog o1;have aq:=Qaa prog o2;have ar:=Qaa prog o3;have U:=bf.o.below f;obtain⟨y0,y1,y2,c0,c1,c2,_⟩:=U.at b5;have f0:=U.blk.blk.free (k*3);have f1:=U.blk.blk.free (k*3+1);have f2:=U.blk.blk.free (k*3+2);have ho:Only G x3 (((x3.setCell ⟨G,k*3,none⟩ x').setCell ⟨G,k*3+1,none⟩ y').setCell ⟨G,k*3+2,none⟩ z'):=(((Only.refl G x3).setCell (k*3) x').setCell (k*3+1) y').setCell (k*3+2) z'
   have ej:=Hi (U.set b5 h8 (firstV (stretchV vb x) (k+1)) (fun i=>by
    unfold firstV;by_cases e:i=k
    .
     subst e;rw[if_pos (by omega),if_pos rfl];unfold stretchV strq;rw[show vb.getD i (0,0,0,0)=p by rw[List.getD_eq_getElem?_getD,ee.o];rfl,a8.o.1,a8.o.2.1,de.o,df.o,dd.o,bq.o]
    .
     rw[if_neg e];by_cases e2:i<k
     . rw[if_pos (by omega),if_pos e2]
     . rw[if_neg (by omega),if_neg e2]))
   obtain⟨ek,em,en,HO⟩:=Ic (bz.o.trans (f.mono bz.o.size)) ((ds.o.below f).only U ho (by have:=ea.o;have:=a0.o;omega)) ((b0.o.below f b0.o.lt).only ho (by have:=a0.o;omega)) ho;clear o1 o2 o3 U h8 f ho;go_simp;refine d _ _ ?_;clear d c0 c1 c2 f0 f1 f2 ap aq ar;have bh:=an.o;have bi:=dl.o;subst bh;subst bi;go_wp2;go_roundw
   case rel=>exact⟨k+1,_,by omega,by go_num,ej.o,en.o,em.o,Only.fresh ek.o HO.o (Nat.le_of_lt a0.o)⟩
   case measure=>simp[intOf];omega
  .
   obtain rfl:k=z.length:=by omega
   go_wp2;go_ret;exact⟨G,us,rfl,Nat.le_of_lt a0.o,cn.o,HB.o⟩
theorem RB.mono{w:Vz}{g n K K':Nat}{x:Vec}{us:List FE}(h:RB w g n K x us)(b:K<=K'):RB w g n K' x us:=⟨h.blk,h.len,fun i t a=>⟨(h.val i t a).1,Nat.le_trans (h.val i t a).2 b⟩⟩
theorem RB.eq{w:Vz}{g n K:Nat}{x y:Vec}{us:List FE}(h:RB w g n K x us)(e:∀i,i<n->x i=y i):RB w g n K y us:=⟨h.blk,h.len,fun i t a=>⟨(h.val i t a).1.trans (e i (by have:=(gZ a).1;have:=h.len;omega)),(h.val i t a).2⟩⟩
def pulV(c s e:Vec)(k:Nat):Vec:=fun i=>if i<k then c i*(s i - e i) else s i
theorem Qok(a1 a2 a3:Vx)(c1 c2 c3 nh gm N Km v KP:Nat)(I:List S2)(h:List B6)(hs:List H3)(B:List (Nat × Nat × Rat × Rat))(x cv J:Vec)(ms:List FE)(w:Vz)(hg:Glob w)(hj:ARow S2.cells w a1 c1 I)(hf:ARow B6.cells w a2 c2 h)(n1:I.length<=10)(n2:h.length<=24)(hl:B.length=h.length)(hv:∀(i:Nat) (b:B6) (p:Nat × Nat × Rat × Rat),h[i]?=some b->B[i]?=some p->BarV 1048576 I b p)
 (aa:∀(i:Nat) (b:B6),h[i]?=some b->QOf b.c.data.toList (cv i)/\QOf b.e.data.toList (J i)/\b.c.size<=1048576/\b.e.size<=1048576) (hm:RB w gm N Km x ms) (hN:2*I.length=N) (d:v=2*(8388611+(2*Km+1))+1) (ab:Km<=1000000000) (ad:KP=4194305+(v+4194305+1)):
 Calls prog 54 #[.agg #[.slice a1 I.length c1,.slice a2 h.length c2,.slice a3 nh c3],.slice (some ⟨gm,0,none⟩) N N] w fun e w'=>∃g us,e=.returned (.slice (some ⟨g,0,none⟩) h.length h.length)/\w.heap.size<=g/\RB w' g h.length KP (fun i=>cv i*(stretchV B x i - J i)) us/\Below w.heap.size w w':=by
 obtain⟨V,hV⟩:=nm (w.alloc (.cells #[.slice a1 I.length c1,.slice a2 h.length c2,.slice a3 nh c3] 26));have n:Bl w V:=by rw[<-hV];exact(Below.refl _ _).alloc lZ _
 have ae:SB V w.heap.size 26 #[.slice a1 I.length c1,.slice a2 h.length c2,.slice a3 nh c3]:=by rw[<-hV];exact SB.new w _ _
 obtain⟨af,ag,HG,HF,av,L,ah,HK⟩:=Ig (Qoj a1 a2 a3 c1 c2 c3 nh gm N Km v I h B x ms V (hg.below n) (hj.below n) (hf.below n) n1 n2 hl hv (hm.below n) hN d ab) ae (hg.below n) (hf.below n) aa n hV (And.intro ad (And.intro d ab));clear n hV ae hg hj hf hl hv hm hN d aa ad;go_enter func54,ntmps54;go_wp2_with fail;rw[ah.o];go_fit af.o;rintro e w1 ⟨G,ai,rfl,aj,r,M⟩;have k1:=(ag.o.below M ag.o.lt).cell 1;simp only[List.getElem?_toArray,List.getElem?_cons_zero,List.getElem?_cons_succ] at k1;have aw:=Hi (r.mono (K':=KP) (by have:=HK.o;omega));have ax:O (∀(i:Nat) (t:FE),ai[i]?=some t->t.k<=v):=Hi (fun i t C=>(r.val i t C).2);obtain⟨ay,ak⟩:=Ia M aj;clear aj r M af ah;go_wp2_with fail
 go_loopw [14] (fun iv wr=>∃(k:Nat) (us:List FE),k<=h.length/\iv=.int .i64 k/\RB wr G h.length KP (pulV cv (stretchV B x) J k) us/\(∀(i:Nat) (t:FE),k<=i->us[i]?=some t->t.k<=v)/\Below V.heap.size V wr) (fun iv _=>h.length - (intOf iv).toNat)
 case atStart=>exact⟨0,ai,by omega,rfl,aw.o.eq (fun i hi=>by unfold firstV pulV;rw[if_pos hi,if_neg (by omega)]),fun i t _ C=>ax.o i t C,ay.o⟩
 case round=>
  obtain⟨k,us,hk,rfl,r,al,am⟩:=hrel;obtain⟨P,an,HB⟩:=Ib r al am;clear r am al;by_cases Q:k<h.length
  .
   obtain⟨b,R⟩:∃b,h[k]?=some b:=⟨h[k],gE Q⟩;obtain⟨bb,bo,rfl,bf,d0,d1,d2,d3,d4,d5⟩:=(HF.o.below HB.o).bar R;have D:=Hi (av.o k b R);obtain⟨X,hX⟩:=nm (wr.alloc (.cells #[.int .i64 b.a,.int .i64 b.b,.string b.c,.string b.e,.string b.l,.string b.m] 84));have S:Bl wr X:=by rw[<-hX];exact(Below.refl _ _).alloc lZ _
   have T:SB X wr.heap.size 84 #[.int .i64 b.a,.int .i64 b.b,.string b.c,.string b.e,.string b.l,.string b.m]:=by rw[<-hX];exact SB.new wr _ _
   have az:=Hi hX;have U:Bl X X.drew:=bR.drew;have E:=T.below U T.lt;obtain⟨W,Y⟩:=Ia (E.cell 2) (E.cell 3);simp only[List.getElem?_toArray,List.getElem?_cons_zero,List.getElem?_cons_succ] at W Y;have ao:=Hi E.lt;have Z:=S.trans (U.mono S.size);obtain⟨s,F⟩:=Ia (HB.o.trans (Z.mono HB.o.size)) (P.o.below Z);obtain⟨t,C⟩:=P.o.get Q;have ap:=Hi C;have a0:O (FF (stretchV B x k) v (.agg #[t.x,t.y,t.z]) X.drew):=Hi (by
    have h1:=F.o.val k t C;have h2:t.q=stretchV B x k:=h1.1.trans (by unfold pulV;rw[if_neg (by omega)]);have h3:=FF.mono (F.o.blk.row.get C) (an.o k t lZ C);rw[h2] at h3
    exact h3)
   have aq:O (v+4194305<68719476000/\4194305+(v+4194305+1)<68719476000):=Hi (by have:=HK.o;omega);have a4:O (4194305+(v+4194305+1)=KP):=Hi HK.o.1.symm;have q5:((k:Int)<(h.length:Int)):=by omega
   clear R hX S T U E Z C;go_wp2_with fail;rw[az.o];clear d0 d1 d2 d3 d4 d5;generalize H:wr.heap.size=R0 at*;have ar:=Hi H;clear H;refine RegG.bg 15 (fun j=>some (19+j)) ?_;refine RegG.pu (c:=?_) [] (fun w f=>?_) ?_;rotate_left
   .
    intro K d;go_simp;exact d
   refine RegG.pu (c:=?_) [] (fun w f=>?_) ?_;rotate_left
   .
    intro K d;go_simp;exact d
   refine RegG.pu (c:=?_) [] (fun w f=>?_) ?_;rotate_left
   .
    intro K d;go_simp;exact d
   refine RegG.pu (c:=?_) [2] (fun w f=>?_) ?_;rotate_left
   .
    intro K d;obtain⟨e0,e1⟩:=Ja f ao.o W.o Y.o;go_simp;exact d
   refine RegG.ca (φ:=FF (cv k) 4194305) [3] (FF.stays _ _) (fun w f=>?_) ?_
   .
    intro K d;go_simp;exact Makes.use (FF.of (HG.o.below (s.o.trans (f.mono s.o.size))) D.o.1 D.o.2.2.1 (by decide) (by decide)) d
   refine RegG.pu (c:=?_) [] (fun w f=>?_) ?_;rotate_left
   .
    intro K d;go_simp;exact d
   refine RegG.pu (c:=?_) [] (fun w f=>?_) ?_;rotate_left
   .
    intro K d;go_simp;exact d
   refine RegG.pu (c:=?_) [5,6] (fun w f=>?_) ?_;rotate_left
   .
    intro K d;go_simp;exact d
   refine RegG.pu (c:=?_) [7] (fun w f=>?_) ?_;rotate_left
   .
    intro K d;obtain⟨d0,d1,d2⟩:=(F.o.below f).cells ap.o;go_simp;exact d
   refine RegG.pu (c:=?_) [] (fun w f=>?_) ?_;rotate_left
   .
    intro K d;go_simp;exact d
   refine RegG.pu (c:=?_) [9] (fun w f=>?_) ?_;rotate_left
   .
    intro K d;obtain⟨e0,e1⟩:=Ja f ao.o W.o Y.o;go_simp;exact d
   refine RegG.ca (φ:=FF (J k) 4194305) [10] (FF.stays _ _) (fun w f=>?_) ?_
   .
    intro K d;go_simp;exact Makes.use (FF.of (HG.o.below (s.o.trans (f.mono s.o.size))) D.o.2.1 D.o.2.2.2 (by decide) (by decide)) d
   refine RegG.ca (φ:=FF (stretchV B x k - J k) (v+4194305+1)) [8,11] (FF.stays _ _) (fun w f=>?_) ?_
   .
    intro a5 a6;intro K d;go_simp;exact Makes.use ((a0.o.below f).minus a6 aq.o.1) d
   refine RegG.ca (φ:=FF (cv k*(stretchV B x k - J k)) (4194305+(v+4194305+1))) [4,12] (FF.stays _ _) (fun w f=>?_) ?_
   .
    intro v4 h4 a7 a8;intro K d;go_simp;exact Makes.use (h4.times a8 aq.o.2) d
   refine RegG.pu (c:=?_) [0,1] (fun w f=>?_) ?_;rotate_left
   .
    intro K d;go_simp;exact d
   refine RegG.last (by simp only[List.nil_append,List.cons_append,List.length_append,List.length_cons,List.length_nil,Nat.reduceAdd]) (by rfl) (by rfl) (by kernel_rfl) (fun x3 f=>?_);simp only[FinG,List.nil_append,List.cons_append,Qad,Act.put,List.setIfInBounds_toArray,List.set_cons_zero,List.set_cons_succ,Nat.reduceAdd,Nat.reduceBEq,cond_true,cond_false];intro v4 _ a5 _ a7 _ bh A K d;rw[a4.o] at A;obtain⟨x',y',z',rfl⟩:=A.parts;obtain⟨o1,o2,o3⟩:=A.1.one;have a9:=Qaa prog o1;have ba:=Qaa prog o2;have bc:=Qaa prog o3;have u:=F.o.below f;obtain⟨c0,c1,c2⟩:=u.cells ap.o;have f0:=u.blk.blk.free (k*3);have f1:=u.blk.blk.free (k*3+1);have f2:=u.blk.blk.free (k*3+2);have ho:Only G x3 (((x3.setCell ⟨G,k*3,none⟩ x').setCell ⟨G,k*3+1,none⟩ y').setCell ⟨G,k*3+2,none⟩ z'):=(((Only.refl G x3).setCell (k*3) x').setCell (k*3+1) y').setCell (k*3+2) z'
   have bd:=Hi (u.set Q A (pulV cv (stretchV B x) J (k+1)) (fun i=>by
    unfold pulV;by_cases e:i=k
    . subst e
      rw[if_pos (by omega),if_pos rfl]
    .
     rw[if_neg e];by_cases e2:i<k
     . rw[if_pos (by omega),if_pos e2]
     . rw[if_neg (by omega),if_neg e2]))
   obtain⟨be,HO⟩:=Ia (s.o.trans (f.mono s.o.size)) ho;clear o1 o2 o3 u A f ho;go_simp;refine d _ _ ?_;clear d c0 c1 c2 f0 f1 f2 a9 ba bc;have H:=ar.o;subst H;go_wp2;go_roundw
   case rel=>
    refine⟨k+1,_,by omega,by go_num,bd.o,fun i t' hi au=>?_,Only.fresh be.o HO.o ak.o⟩;rw[List.getElem?_set_ne (by omega)] at au;exact an.o i t' (by omega) au
   case measure=>simp[intOf];omega
  .
   obtain rfl:k=h.length:=by omega
   go_wp2;go_ret;exact⟨G,us,rfl,Nat.le_trans L.o.size ak.o,P.o.eq (fun i hi=>by unfold pulV;rw[if_pos hi]),L.o.trans (HB.o.mono L.o.size)⟩
theorem Qol(ts:List FE)(n i:Nat)(h:i<n):qAt (ts.take n) i=qAt ts i:=by
 unfold qAt;simp only[List.getD_eq_getElem?_getD,List.getElem?_map,List.getElem?_take_of_lt h]
theorem RB.qAt{w:Vz}{g n K:Nat}{x:Vec}{us:List FE}(h:RB w g n K x us){i:Nat}(b:i<n):qAt us i=x i:=by
 obtain⟨t,a⟩:=h.get b;rw[Qbb a];exact(h.val i t a).1
theorem GM.away{w u b:Vz}{B G W K g n K':Nat}{c:Vy}{M:Nat->Nat->Rat}{x:Vec}{us:List FE}(h:GM w u B G W K c M)(f:RB u g n K' x us)(d:Only g u b)(k:g<B):GM b b B G W K c M:=by
 refine⟨Below.refl _ _,h.o.only d (by have:=h.lo;omega),fun r e a=>?_,h.nd,h.ne,h.lo,h.los⟩;obtain⟨vs,i,j⟩:=h.row r e a;exact⟨vs,i.other f.blk d (by have:=h.los r e a;omega),j⟩
theorem GM.on{w u a:Vz}{B G W K:Nat}{b:Vy}{M:Nat->Nat->Rat}(h:GM w u B G W K b M)(c:Bl u a):GM a a B G W K b M:=by
 have:=h.below c;exact⟨Below.refl _ _,this.o,this.row,this.nd,this.ne,this.lo,this.los⟩
theorem Qom(Q R S:Vx)(c1 c2 c3 U N p T:Nat)(q:List S2)(a:List B6)(D:List H3)(A:List (Nat × Nat × Rat × Rat))(vh:Vy)(t:Vec)(us:List FE)(w:Vz)(hg:Glob w)(hf:FrRow w Q R S c1 c2 c3 q a D)(d:FrV 1048576 q a D A vh)(r:RB w U a.length p t us)(hN:2*q.length=N)(hK:T=24*(8388611+p+1)+1)(ar:p<=2500000000):
 Calls prog 55 #[.agg #[.slice Q q.length c1,.slice R a.length c2,.slice S D.length c3],.slice (some ⟨U,0,none⟩) a.length a.length] w fun e w'=>∃g au,e=.returned (.slice (some ⟨g,0,none⟩) N N)/\w.heap.size<=g/\RB w' g N T (Giv.putF a.length (balM A a.length vh) t) au/\Below w.heap.size w w':=by
 obtain⟨V,hV⟩:=nm (w.alloc (.cells #[.slice Q q.length c1,.slice R a.length c2,.slice S D.length c3] 26));have l:Bl w V:=by rw[<-hV];exact(Below.refl _ _).alloc lZ _
 have W:SB V w.heap.size 26 #[.slice Q q.length c1,.slice R a.length c2,.slice S D.length c3]:=by rw[<-hV];exact SB.new w _ _
 obtain⟨X,Y,HG,HF,HR⟩:=Id (Qcm Q R S c1 c2 c3 q.length a.length D.length V d.j) W (hg.below l) (hf.below l) (r.below l);have av:O (U<V.heap.size):=Hi (Nat.lt_of_lt_of_le r.blk.blk.lt l.size);obtain⟨HV,E,Z,HN,HK⟩:=Id d l hV hN (And.intro hK ar);have n1:=d.j;have n2:=d.b;have n3:=d.h;have bb:N<=20:=by omega
 clear l hV W hg hf r d hK;go_enter func55,ntmps55;go_wp2_with fail;rw[Z.o];go_fit X.o;rintro e w1 ⟨rfl,s⟩;have eN:2*(q.length:Int)=(N:Int):=by have:=HN.o;omega
 rw[eN];have F:=Qa4 N (by omega) w1;obtain⟨MC,H⟩:=nm (((List.replicate N FE.zero).flatMap FE.cells).toArray);rw[H] at F;obtain⟨V1,v⟩:=nm (w1.alloc (.cells MC 107));have aa:Bl w1 V1:=by rw[<-v];exact(Below.refl _ _).alloc lZ _
 have I:O (RB V1 w1.heap.size N T (fun _=>0) (List.replicate N FE.zero)):=Hi (by rw[<-v];exact RB.new w1 N T MC H.symm (by have:=HK.o;omega));have f:=Hi (s.trans (aa.mono s.size));have kf:=Y.o.below f.o Y.o.lt;have k0:=kf.cell 0;have k1:=kf.cell 1;have k2:=kf.cell 2;simp only[List.getElem?_toArray,List.getElem?_cons_zero,List.getElem?_cons_succ] at k0 k1 k2;obtain⟨G,hG⟩:=nm w1.heap.size;have J:O (V.heap.size<=G):=Hi (by rw[<-hG];exact s.size);rw[hG] at I F;rw[v] at F;have d:=HV.o;have ab:=Hi (Qg9 Q R S c1 c2 c3 1048576 8388611 q a D A vh V1 (HG.o.below f.o) (HF.o.below f.o) d.j d.b d.h d.lb d.lh d.vb d.vh d.n (by decide));have aw:O (G<V1.heap.size):=Hi I.o.blk.blk.lt;clear s aa v X Z hG eN H kf d;go_wp2_with fail;go_fit ab.o;rintro e w2 ⟨B,Wd,GR,gs,ax,ad,rfl,ae,af⟩
 obtain rfl:B=N:=by have:=HN.o;omega
 obtain⟨Bd,ag⟩:=nm (V1.heap.size+1);have x:=af.toGM;rw[ag] at x;have y:=x.base;obtain⟨ay,ah,az⟩:=Ib (x.on bR) ae ad;have ai:O (G<Bd):=Hi (by have:=aw.o;omega);obtain⟨a0,a4,a5⟩:=Ib (HR.o.below (f.o.trans (y.mono f.o.size))) (I.o.below y) (f.o.trans (y.mono f.o.size));clear x ae af y ax ad ag ab k0 k1 k2;go_wp2_with fail;go_loopw [14] (fun iv wr=>∃(k:Nat) (vs:List FE),k<=B/\iv=.int .i64 k/\RB wr G B T (firstV (Giv.putF a.length (balM A a.length vh) t) k) vs/\GM wr wr Bd GR Wd 8388611 gs (balM A a.length vh)/\RB wr U a.length p t us/\Below V.heap.size V wr) (fun iv _=>B - (intOf iv).toNat)
 case atStart=>
  refine⟨0,List.replicate B FE.zero,by omega,rfl,?_,ay.o,a0.o,a5.o⟩;have e:firstV (Giv.putF a.length (balM A a.length vh) t) 0=fun _=>0:=funext fun i=>by unfold firstV;rw[if_neg (by omega)]
  rw[e];exact a4.o
 case round=>
  obtain⟨k,vs,hk,rfl,aj,ak,al,am⟩:=hrel;obtain⟨an,HQ,m,HB⟩:=Ic aj ak al am;clear aj ak al am;by_cases ao:k<B
  .
   obtain⟨gr,hr⟩:∃g,gs[k]?=some g:=⟨gs[k]'(by have:=ah.o;omega),gE (by have:=ah.o;omega)⟩;have c0:=HQ.o.o.cell k;rw[List.getElem?_toArray,List.getElem?_map,hr,Option.map_some,slRow] at c0;obtain⟨rs,ap,K,L⟩:=HQ.o.row k gr hr;have hW:=az.o;have M:=ap.row;rw[K] at M;have P:=Qoa (some ⟨gr,0,none⟩) (some ⟨U,0,none⟩) Wd a.length a.length a.length 8388611 p (rs.take a.length) us wr (M.take a.length) (by have:=m.o.blk.row;rw[m.o.len] at this;exact this) (by rw[List.length_take,K];omega) m.o.len lZ (by omega) (fun t ht=>by obtain⟨i,C⟩:=List.getElem?_of_mem (List.mem_of_mem_take ht);exact(L i t C).2) (fun u hu=>by obtain⟨i,C⟩:=List.getElem?_of_mem hu;exact(m.o.val i u C).2) (by have:=HK.o;have h2:a.length*(8388611+p+1)<=24*(8388611+p+1):=Nat.mul_le_mul_right _ (by omega);omega)
   have e:dot a.length (qAt (rs.take a.length)) (qAt us)=Giv.putF a.length (balM A a.length vh) t k:=by
    unfold Giv.putF;refine Qac _ _ _ _ _ (fun i C=>?_);obtain⟨t',aq⟩:∃t',rs[i]?=some t':=⟨rs[i]'(by omega),gE (by omega)⟩;rw[Qol _ _ _ C,Qbb aq,(L i t' aq).1,m.o.qAt C]
   rw[e] at P;have a6:=Hi P;have q1:((k:Int)<(B:Int)):=by omega
   have q2:((a.length:Int)<=(Wd:Int)):=by omega
   clear hr M ap K L P e hW;go_wp2_with fail;refine Makes.use a6.o ?_;intro v5 w5 r h5;have z:=h5.mono (k':=T) (by
    have h1:=HK.o.1;have h2:a.length*(8388611+p+1)<=24*(8388611+p+1):=Nat.mul_le_mul_right _ n2
    omega)
   obtain⟨x',y',z',rfl⟩:=z.parts;obtain⟨o1,o2,o3⟩:=z.1.one;have bc:=Qaa prog o1;have bd:=Qaa prog o2;have be:=Qaa prog o3;have c:=an.o.below r;obtain⟨y0,y1,y2,d0,d1,d2,_⟩:=c.at ao;have f0:=c.blk.blk.free (k*3);have f1:=c.blk.blk.free (k*3+1);have f2:=c.blk.blk.free (k*3+2);have ho:Only G w5 (((w5.setCell ⟨G,k*3,none⟩ x').setCell ⟨G,k*3+1,none⟩ y').setCell ⟨G,k*3+2,none⟩ z'):=(((Only.refl G w5).setCell (k*3) x').setCell (k*3+1) y').setCell (k*3+2) z';have a7:=Hi (c.set ao z (firstV (Giv.putF a.length (balM A a.length vh) t) (k+1)) (fun i=>by
    unfold firstV;by_cases e:i=k
    . subst e
      rw[if_pos (by omega),if_pos rfl]
    .
     rw[if_neg e];by_cases e2:i<k
     . rw[if_pos (by omega),if_pos e2]
     . rw[if_neg (by omega),if_neg e2]))
   obtain⟨a8,a9,ba,HO⟩:=Ic (HB.o.trans (r.mono HB.o.size)) ((m.o.below r).only c ho (by have:=av.o;have:=J.o;omega)) ((HQ.o.on r).away c ho ai.o) ho;clear o1 o2 o3 c h5 z r ho c0;go_wp2;go_roundw
   case rel=>exact⟨k+1,_,by omega,by go_num,a7.o,ba.o,a9.o,Only.fresh a8.o HO.o J.o⟩
   case measure=>simp[intOf];omega
  .
   obtain rfl:k=B:=by omega
   go_wp2;go_ret;exact⟨G,vs,rfl,Nat.le_trans E.o.size J.o,an.o.eq (fun i C=>by unfold firstV;rw[if_pos C]),E.o.trans (HB.o.mono E.o.size)⟩
def turnV(V:Nat)(M:Nat->Nat->Rat)(k j:Nat):Nat->Nat->Rat:=fun c i=>if c<V/\(i<k∨(i=k/\c<j)) then M i c else 0
structure GA (u:Vz) (B G W K:Nat) (gs:Vy) (M:Nat->Nat->Rat):Prop where
 gm:GM u u B G W K gs M
 hi:G<u.heap.size
theorem GM.ga{w u:Vz}{B G W K:Nat}{a:Vy}{M:Nat->Nat->Rat}(h:GM w u B G W K a M):GA u B G W K a M:=⟨h.on bR,h.o.lt⟩
theorem GA.below{u a:Vz}{B G W K:Nat}{b:Vy}{M:Nat->Nat->Rat}(h:GA u B G W K b M)(c:Bl u a):GA a B G W K b M:=⟨h.gm.on c,Nat.lt_of_lt_of_le h.hi c.size⟩
theorem Qon(Z B0 W V K n:Nat)(I:Vy)(M:Nat->Nat->Rat)(w:Vz)(h:GA w B0 Z W K I M)(hn:I.length=n)(hl:n<=1000)(hW:W<=1000)(hV:V<=W)(L:0<K):
 Calls prog 168 #[.slice (some ⟨Z,0,none⟩) n n,.int .i64 V] w fun e w'=>∃(G:Nat) (b:Vy),e=.returned (.slice (some ⟨G,0,none⟩) V V)/\b.length=V/\GM w w' w.heap.size G n K b (turnV V M n 0):=by
 obtain⟨HQ,u,HN⟩:=Ib h (Qda V n w (by omega) (by omega)) hn;clear h hn;go_enter func168,ntmps168;go_wp2_with fail;go_fit u.o;rintro e v ⟨⟨G,b,rfl,A,m,p,a,B⟩,hb⟩;have N:O (GM w v w.heap.size G n K b (turnV V M 0 0)):=Hi (by
  refine⟨hb,p,fun r g f=>⟨_,(a r g f).1,by simp,fun c t ht=>?_⟩,B,fun r g f=>by have:=(a r g f).2;omega,m,fun r g f=>by have:=(a r g f).2;omega⟩;obtain⟨_,rfl⟩:=List.mem_replicate.1 (mO ht)
  exact⟨by simp[turnV,FE.zero],by simp[FE.zero];omega⟩)
 have C:=Hi A;clear A m p a B hb u;go_wp2_with fail;go_loopw [15] (fun P wr=>∃k:Nat,k<=n/\P=.int .i64 k/\GM w wr w.heap.size G n K b (turnV V M k 0)) (fun P _=>n - (intOf P).toNat)
 case atStart=>exact⟨0,Nat.zero_le _,rfl,N.o⟩
 case round=>
  obtain⟨k,hk,rfl,d⟩:=hrel;have Q:=Hi d;clear d;by_cases D:k<n
  .
   obtain⟨gr,f⟩:∃r,I[k]?=some r:=⟨I[k]'(by have:=HN.o;omega),gE _⟩;have d0:=(HQ.o.below Q.o.base).gm.cell f;have q1:((k:Int)<(n:Int)):=by omega
   have HR:=Hi f;clear f;go_wp2_with fail;clear d0;go_loopw [21] (fun R wi=>∃j:Nat,j<=V/\R=.int .i64 j/\GM w wi w.heap.size G n K b (turnV V M k j)) (fun R _=>V - (intOf R).toNat)
   case atStart=>exact⟨0,Nat.zero_le _,rfl,Q.o⟩
   case round=>
    obtain⟨j,hj,rfl,d⟩:=hrel;have E:=Hi d;clear d;by_cases S:j<V
    .
     obtain⟨g,T⟩:∃g,b[j]?=some g:=⟨b[j]'(by have:=C.o;omega),gE _⟩;obtain⟨us,q,U,F⟩:=(HQ.o.below E.o.base).gm.row k gr HR.o;obtain⟨e,J⟩:∃e,us[j]?=some e:=⟨us[j]'(by omega),gE _⟩;obtain⟨rb,ro,X,aa,d0,d1,d2⟩:=q.row.at J;cases X;simp only[Nat.zero_add] at d0 d1 d2;have l:=q.row.get J;have s:=F j e J;have s0:=E.o.cell T;obtain⟨x,y,z,c0,c1,c2,f0,f1,f2⟩:=E.o.at T D;have Y:O (GM w (set3 wr g k e.x e.y e.z) w.heap.size G n K b (turnV V M k (j+1))):=Hi (by
      refine(E.o.put lZ T D l.1 (l.2.1.mono s.2) L).congr (fun c i=>?_);simp only[updM,turnV];by_cases h1:c=j/\i=k
      . obtain⟨rfl,rfl⟩:=h1
        rw[if_pos ⟨rfl,rfl⟩,if_pos ⟨S,.inr ⟨rfl,by omega⟩⟩,s.1]
      .
       rw[if_neg h1];by_cases H:c<V/\(i<k∨(i=k/\c<j))
       . rw[if_pos H,if_pos (by omega)]
       . rw[if_neg H,if_neg (by omega)])
     obtain⟨o1,o2,o3⟩:=l.1.one;have ab:=Qaa prog o1;have ad:=Qaa prog o2;have ae:=Qaa prog o3;have q2:((j:Int)<(V:Int)):=by omega
     have q3:((j:Int)<(W:Int)):=by omega
     clear q U F J l s o1 o2 o3;go_wp2_with fail;go_region;go_wp2;go_roundw
     case rel=>exact⟨j+1,by omega,by go_num,Y.o.below bR.drew⟩
     case measure=>simp[intOf];omega
    .
     obtain rfl:j=V:=by omega
     have HE:O (GM w wr w.heap.size G n K b (turnV j M (k+1) 0)):=Hi (by
      refine E.o.congr (fun c i=>?_);simp only[turnV];by_cases H:c<j/\(i<k∨(i=k/\c<j))
      . rw[if_pos H,if_pos (by omega)]
      . rw[if_neg H,if_neg (by omega)])
     go_wp2;go_roundw
     case rel=>exact⟨k+1,by omega,by go_num,HE.o⟩
     case measure=>simp[intOf];omega
  .
   obtain rfl:k=n:=by omega
   go_wp2;go_ret;exact⟨G,b,rfl,C.o,Q.o⟩
def partV(at_:Vy)(n:Nat)(M:Nat->Nat->Rat)(i0 k0:Nat):Nat->Nat->Rat:=fun i k=>if k<n/\(i<i0∨(i=i0/\k<k0)) then M (at_.getD i 0) (at_.getD k 0) else 0
theorem Qds{w:Vz}{a:Vx}{l:Vy}{i x:Nat}(h:CRow w a (l.map (fun n:Nat=>Value.int .i64 n)))(d:l[i]?=some x):∃b c,a=some ⟨b,c,none⟩/\b<w.heap.size/\w.cell? ⟨b,c+i,none⟩=some (.int .i64 x):=h.cell i _ (by rw[List.getElem?_map,d];rfl)
theorem Qoo(GI B0 W K n m:Nat)(T:Vy)(M:Nat->Nat->Rat)(ai:Vx)(ca:Nat)(a:Vy)(w:Vz)(h:GA w B0 GI W K T M)(hm:T.length=m)(ha:CRow w ai (a.map (fun n:Nat=>Value.int .i64 n)))(hn:a.length=n)(E:∀r,r∈ a->r<m/\r<W)(hl:n<=1000)(X:0<K):
 Calls prog 113 #[.slice (some ⟨GI,0,none⟩) m m,.slice ai n ca] w fun e w'=>∃(G:Nat) (d:Vy),e=.returned (.slice (some ⟨G,0,none⟩) n n)/\d.length=n/\GM w w' w.heap.size G n K d (partV a n M n 0):=by
 obtain⟨HQ,HA,F,H,HN,HM⟩:=Ie h ha E (Qda n n w hl hl) hn hm;clear h hn ha E hm;go_enter func113,ntmps113;go_wp2_with fail;go_fit H.o;rintro e v ⟨⟨G,d,rfl,I,q,s,b,J⟩,hb⟩;have Y:O (GM w v w.heap.size G n K d (partV a n M 0 0)):=Hi (by
  refine⟨hb,s,fun r g l=>⟨_,(b r g l).1,by simp,fun c t ht=>?_⟩,J,fun r g l=>by have:=(b r g l).2;omega,q,fun r g l=>by have:=(b r g l).2;omega⟩;obtain⟨_,rfl⟩:=List.mem_replicate.1 (mO ht)
  exact⟨by simp[partV,FE.zero],by simp[FE.zero];omega⟩)
 have L:=Hi I;clear I q s b J hb H;go_wp2_with fail;go_loopw [17] (fun Z wr=>∃k:Nat,k<=n/\Z=.int .i64 k/\GM w wr w.heap.size G n K d (partV a n M k 0)) (fun Z _=>n - (intOf Z).toNat)
 case atStart=>exact⟨0,Nat.zero_le _,rfl,Y.o⟩
 case round=>
  obtain⟨k,hk,rfl,f⟩:=hrel;have HG:=Hi f;clear f;by_cases ah:k<n
  .
   obtain⟨N,l⟩:∃r,a[k]?=some r:=⟨a[k]'(by have:=HN.o;omega),gE _⟩;obtain⟨ab,ao,rfl,P,d0⟩:=Qds (HA.o.below HG.o.base) l;have q1:((k:Int)<(n:Int)):=by omega
   obtain⟨HR,Q⟩:=Ia l (F.o N (mO l));clear l;go_wp2_with fail;clear d0 P;go_loopw [24] (fun jv wi=>∃j:Nat,j<=n/\jv=.int .i64 j/\GM w wi w.heap.size G n K d (partV a n M k j)) (fun jv _=>n - (intOf jv).toNat)
   case atStart=>exact⟨0,Nat.zero_le _,rfl,HG.o⟩
   case round=>
    obtain⟨j,hj,rfl,f⟩:=hrel;have u:=Hi f;clear f;by_cases A:j<n
    .
     obtain⟨g,hg⟩:∃g,d[k]?=some g:=⟨d[k]'(by have:=L.o;omega),gE _⟩;obtain⟨cb,U⟩:∃r,a[j]?=some r:=⟨a[j]'(by have:=HN.o;omega),gE _⟩;obtain⟨aj,ak,aa,P,t0⟩:=Qds (HA.o.below u.o.base) U;cases aa;have ad:=F.o cb (mO U);obtain⟨gr,B⟩:∃r,T[N]?=some r:=⟨T[N]'(by have:=HM.o;have:=Q.o;omega),gE _⟩;have r0:=(HQ.o.below u.o.base).gm.cell B;obtain⟨us,C,ae,R⟩:=(HQ.o.below u.o.base).gm.row N gr B;obtain⟨e,V⟩:∃e,us[cb]?=some e:=⟨us[cb]'(by omega),gE _⟩;obtain⟨rb,ro,af,al,d0,d1,d2⟩:=C.row.at V;cases af;simp only[Nat.zero_add] at d0 d1 d2;have p:=C.row.get V;have D:=R cb e V;have s0:=u.o.cell hg;obtain⟨x,y,z,c0,c1,c2,f0,f1,f2⟩:=u.o.at hg A
     have ag:O (GM w (set3 wr g j e.x e.y e.z) w.heap.size G n K d (partV a n M k (j+1))):=Hi (by
      refine(u.o.put lZ hg A p.1 (p.2.1.mono D.2) X).congr (fun c i=>?_);simp only[updM,partV];by_cases h1:c=k/\i=j
      .
       obtain⟨rfl,rfl⟩:=h1;rw[if_pos ⟨rfl,rfl⟩,if_pos ⟨A,.inr ⟨rfl,by omega⟩⟩,D.1];simp only[List.getD_eq_getElem?_getD,HR.o,U,Option.getD_some]
      .
       rw[if_neg h1];by_cases S:i<n/\(c<k∨(c=k/\i<j))
       . rw[if_pos S,if_pos (by omega)]
       . rw[if_neg S,if_neg (by omega)])
     obtain⟨o1,o2,o3⟩:=p.1.one;have am:=Qaa prog o1;have an:=Qaa prog o2;have ap:=Qaa prog o3;have q2:((j:Int)<(n:Int)):=by omega
     have q3:((cb:Int)<(W:Int)):=by omega
     have q4:((N:Int)<(m:Int)):=by have:=Q.o;omega
     clear C ae R V p D o1 o2 o3 U ad B;go_wp2_with fail;go_region;go_wp2;go_roundw
     case rel=>exact⟨j+1,by omega,by go_num,ag.o.below bR.drew⟩
     case measure=>simp[intOf];omega
    .
     obtain rfl:j=n:=by omega
     have HE:O (GM w wr w.heap.size G j K d (partV a j M (k+1) 0)):=Hi (by
      refine u.o.congr (fun c i=>?_);simp only[partV];by_cases S:i<j/\(c<k∨(c=k/\i<j))
      . rw[if_pos S,if_pos (by omega)]
      . rw[if_neg S,if_neg (by omega)])
     go_wp2;go_roundw
     case rel=>exact⟨k+1,by omega,by go_num,HE.o⟩
     case measure=>simp[intOf];omega
  .
   obtain rfl:k=n:=by omega
   go_wp2;go_ret;exact⟨G,d,rfl,L.o,HG.o⟩
theorem FF.neg{u:Value}{p:Rat}{j:Nat}{w:Vz}(h:FF p j u w):Calls prog 117 #[u] w (Makes w (FF (-p) j)):=
 (Qcs h.1).mono fun e b a=>a.makes h.2.1.neg h.2.2
structure GK (u:Vz) (B G W:Nat) (gs:Vy) (kf:Nat->Nat) (M:Nat->Nat->Rat):Prop where
 o:SB u G 98 (gs.map (slRow W)).toArray
 row:∀(r g:Nat),gs[r]?=some g->∃us,QBlk u g us/\us.length=W/\∀(c:Nat) (t:FE),us[c]?=some t->t.q=M r c/\t.k<=kf r
 nd:∀(r r' g:Nat),gs[r]?=some g->gs[r']?=some g->r=r'
 ne:∀(r g:Nat),gs[r]?=some g->g≠G
 lo:B<=G
 los:∀(r g:Nat),gs[r]?=some g->B<=g
section
variable {u u':Vz} {B G W:Nat} {gs:Vy} {kf:Nat->Nat} {M:Nat->Nat->Rat}
theorem GK.below(h:GK u B G W gs kf M)(a:Bl u u'):GK u' B G W gs kf M:=by
 refine⟨h.o.below a h.o.lt,fun r g b=>?_,h.nd,h.ne,h.lo,h.los⟩;obtain⟨us,c,d⟩:=h.row r g b;exact⟨us,c.below a,d⟩
theorem GK.cell{r g:Nat}(h:GK u B G W gs kf M)(a:gs[r]?=some g):u.cell? ⟨G,r,none⟩=some (.slice (some ⟨g,0,none⟩) W W):=by
 rw[h.o.cell];simp[a,slRow]
theorem GK.mono{a:Nat->Nat}{d:Nat->Nat->Rat}(h:GK u B G W gs kf M)(hk:∀r,kf r<=a r)(i:∀r c,r<gs.length->c<W->M r c=d r c):GK u B G W gs a d:=by
 refine⟨h.o,fun r g e=>?_,h.nd,h.ne,h.lo,h.los⟩;obtain⟨us,j,k,f⟩:=h.row r g e;exact⟨us,j,k,fun c t b=>⟨(f c t b).1.trans (i r c (gZ e).1 (by have:=(gZ b).1;omega)),Nat.le_trans (f c t b).2 (hk r)⟩⟩
theorem GK.repl{r l:Nat}{us:List FE}{y:Vec}{x:Nat}(h:GK u B G W gs kf M)(K:r<gs.length)(z:∀(i g:Nat),gs[i]?=some g->g≠l)(hG:l≠G)(hB:B<=l)(s:QBlk u l us)(hl:us.length=W)(D:∀(c:Nat) (t:FE),us[c]?=some t->t.q=y c/\t.k<=x):
 GK (u.setCell ⟨G,r,none⟩ (slRow W l)) B G W (gs.set r l) (fun i=>if i=r then x else kf i) (fun i c=>if i=r then y c else M i c):=by
 have w:NoU64 (gs.map (slRow W)).toArray:=fun i n=>by
  rw[List.getElem?_toArray,List.getElem?_map];cases gs[i]?<;>simp[slRow]
 have A:Only G u (u.setCell ⟨G,r,none⟩ (slRow W l)):=(Only.refl G u).setCell r _;have m:∀{g:Nat} {vs:List FE},QBlk u g vs->g≠G->QBlk (u.setCell ⟨G,r,none⟩ (slRow W l)) g vs:=fun s d=>⟨s.blk.only A d,fun t p=>⟨(s.ts t p).1.only A h.o w,(s.ts t p).2⟩⟩
 have b:∀(i g:Nat),(gs.set r l)[i]?=some g->(i=r/\g=l)∨(i≠r/\gs[i]?=some g):=fun i g f=>by
  rw[List.getElem?_set] at f
  split at f
  . rename_i e
    exact .inl ⟨e.symm,(Option.some.inj f).symm⟩
  . rename_i e
    exact .inr ⟨fun E=>e E.symm,f⟩
 refine⟨?_,fun i g f=>?_,fun i j g f F=>?_,fun i g f=>?_,h.lo,fun i g f=>?_⟩
 .
  have:=h.o.set r (slRow W l);rw[List.setIfInBounds_toArray] at this;rw[List.map_set];exact this
 .
  rcases b i g f with ⟨rfl,rfl⟩|⟨d,a⟩
  . exact⟨us,m s hG,hl,fun c t p=>by simpa using D c t p⟩
  . obtain⟨vs,H,I,J⟩:=h.row i g a
    exact⟨vs,m H (h.ne i g a),I,fun c t p=>by rw[if_neg d,if_neg d];exact J c t p⟩
 .
  rcases b i g f with ⟨rfl,rfl⟩|⟨d,a⟩<;>rcases b j _ F with ⟨rfl,e⟩|⟨C,v⟩
  . rfl
  . exact absurd rfl (z j _ v)
  . subst e
    exact absurd rfl (z i _ a)
  . exact h.nd i j g a v
 .
  rcases b i g f with ⟨rfl,rfl⟩|⟨d,a⟩
  . exact hG
  . exact h.ne i g a
 .
  rcases b i g f with ⟨rfl,rfl⟩|⟨d,a⟩
  . exact hB
  . exact h.los i g a
end
def stfTo(Bm:Nat->Nat->Rat)(c:Vec)(i j:Nat):Nat->Nat->Rat:=fun w v=>dot i (Bm w) (fun a=>c a*Bm v a)+if w<j then Bm w i*(c i*Bm v i) else 0
def LessF(B W kr:Nat)(y:Vec):Fact:=fun v w=>∃(g:Nat) (us:List FE),v=slRow W g/\B<=g/\QBlk w g us/\us.length=W/\∀(c:Nat) (t:FE),us[c]?=some t->t.q=y c/\t.k<=kr
theorem LessF.stays(B W a:Nat)(y:Vec):Stays (LessF B W a y):=fun _ _ _ b ⟨g,us,e,c,d,f⟩=>⟨g,us,e,c,d.below b,f⟩
theorem Qop{l m W j k1 k2 b:Nat}{ts a:List FE}{v:Value}{q:Rat}{x:Vec}{w:Vz}(E:QBlk w l ts)(d:ts.length=W)(r:∀(c:Nat) (t:FE),ts[c]?=some t->t.q=x c/\t.k<=k1)(F:QBlk w m a)(H:a.length=W)(I:∀t,t∈ a->t.k<=k2)(f:FF q j v w)(hW:W<=1000)(hk:k1+k2+j+1=b)(n:b<68719476000):
 Calls prog 169 #[.slice (some ⟨l,0,none⟩) W W,.slice (some ⟨m,0,none⟩) W W,v] w (Makes w (LessF w.heap.size W b (fun c=>x c - qAt a c*q))):=by
 obtain⟨b1,b2,J,rfl⟩:=f.parts;have y:=E.row;have z:=F.row;rw[d] at y;rw[H] at z;have:=Qes (some ⟨l,0,none⟩) (some ⟨m,0,none⟩) W W b j ts a b1 b2 J q w y z (by omega) (by omega) f.1 f.2.1 f.2.2 (fun t h s K=>by
  obtain⟨i,L⟩:=List.getElem?_of_mem h;have:=(r i t L).2;have:=I s K
  omega) n
 rw[d] at this;refine this.mono ?_;rintro e R ⟨⟨g,us,rfl,N,o,p⟩,O⟩;refine⟨_,rfl,O,g,us,rfl,N,o,p.1.trans d,fun c t h=>?_⟩;have A:=(gZ h).1;rw[p.1,d] at A;obtain⟨e,C⟩:∃e,ts[c]?=some e:=⟨ts[c]'(by omega),gE _⟩;obtain⟨u,D,P,Q⟩:=p.2 c e A C;rw[h] at D;cases D;exact⟨by rw[P,(r c e C).1],Q⟩
end Go.Proofs.YtkkadnoecklepaaGreatDoor
