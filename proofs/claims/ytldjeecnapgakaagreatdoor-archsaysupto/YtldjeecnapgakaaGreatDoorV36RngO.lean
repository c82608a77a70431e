/- A range over a function whose values lie in memory: the loop's law, where what is handed over is told by the world in which it is. -/
import Derived.Test.YtldjeecnapgakaaGreatDoorV35ArkF
import Derived.RangeFuncNested
import Derived.RangeFuncLeaves
namespace Go.Proofs.YtldjeecnapgakaaGreatDoor
open Go.RowKit
open Go.Proofs.Tryz
set_option linter.unusedSimpArgs false
set_option linter.unusedVariables false
set_option maxHeartbeats 8000000
set_option maxRecDepth 1000000
def tc(s:ByteArray):List Value:=[.string s]
theorem ARow.text{w:World}{a:Option Addr}{cap:Nat}{es:List ByteArray}(h:ARow tc w a cap es){i:Nat}{e:ByteArray}(hi:es[i]?=some e):∃b off,a=some ⟨b,off,none⟩/\b<w.heap.size/\w.cell? ⟨b,off+i,none⟩=some (.string e):=by
 obtain⟨b,off,h1,h2,h3⟩:=h.at (sz:=1) (fun _=>rfl) (by decide) hi;have:=h3 0 _ rfl;rw[Nat.mul_one,Nat.add_zero] at this;exact⟨b,off,h1,h2,this⟩
structure HeightsV (ls:List ByteArray) (y:Nat->Rat) (Kh:Nat):Prop where
 each:∀i s,ls[i]?=some s->QOf s.data.toList (y i)/\Fits (y i) Kh/\s.size<=1073741824
 pos:0<Kh
def goesTo(y z:Nat->Rat)(k:Nat):Prop:=∀i,i<k->y i=z i
theorem Qkp{g A H k1 k2 k3 Kh cap:Nat}{vs:List V4}{h st m pa:Rat}{ts:List FE}{y:Value}{a:Option Addr}{ls:List ByteArray}{z:Nat->Rat}{w:World}(hg:Glob w)(ht:TBlk 82 w g ts)(hs:Sto A H vs h ts vs.length)(hn:vs.length<=10)(hl:LineV st m pa k1 k2 k3 y w)(hr:ARow tc w a cap ls)(hll:ls.length=vs.length)(hz:HeightsV ls z Kh)(hk:k1+k2+k3+54*A+36*H<50000000000):
 Calls prog 40 #[.slice (some ⟨g,0,none⟩) vs.length vs.length,y,.slice a vs.length cap] w fun e w'=>(∃b,e=.returned (.bool b)/\(b=true↔goesTo (lnV st m pa vs h) z vs.length))/\Below w.heap.size w w':=by
 obtain⟨x1,x2,x3,rfl⟩:=hl.parts;obtain⟨HG,HT,HS,HL,HR,HZ⟩:=Ie hg ht hs hl hr hz;have hpos:=hz.pos;clear ht hs hl hg hr hz;obtain⟨n,hnn⟩:=nm vs.length;rw[hnn] at hll hn ⊢;obtain⟨HNN,HLL⟩:=Ia hnn hll;clear hnn hll;go_enter func40,ntmps40;go_wp2_with fail;go_loopw [11] (fun iv wr=>∃k:Nat,k<=n/\iv=.int .i64 k/\goesTo (lnV st m pa vs h) z k/\Below w.heap.size w wr) (fun iv _=>n - (intOf iv).toNat)
 case atStart=>exact⟨0,Nat.zero_le _,rfl,fun i hi=>by omega,Below.refl _ _⟩
 case round=>
  obtain⟨k,hk',rfl,hf,hb⟩:=hrel;obtain⟨HF,HB⟩:=Ia hf hb;clear hf hb;by_cases hkn:k<n
  .
   obtain⟨v,hv⟩:∃v,vs[k]?=some v:=⟨vs[k]'(by have:=HNN.o;omega),gE _⟩;obtain⟨tx,htx⟩:∃tx,ls[k]?=some tx:=⟨ls[k]'(by have:=HLL.o;omega),gE _⟩;have htw:=HT.o.below HB.o;obtain⟨pa',l,u,s,⟨i1,i2,i3,i4⟩,h1,h2,h3,h4⟩:=HS.o.get htw (by have:=HNN.o;omega) (by have:=HNN.o;omega) hv;obtain⟨t0,t1,t2,t3,t4,t5,t6,t7,t8,t9,t10,t11⟩:=htw.stone i1 i2 i3 i4;obtain⟨hb1,ho1,rfl,hlt1,hct⟩:=(HR.o.below HB.o).text htx;obtain⟨o1,o2,o3⟩:=h1.1.one;obtain⟨o4,o5,o6⟩:=h2.1.one;obtain⟨o7,o8,o9⟩:=h3.1.one;obtain⟨o10,o11,o12⟩:=h4.1.one;have s1:=Qaa prog o1;have s2:=Qaa prog o2;have s3:=Qaa prog o3;have s4:=Qaa prog o4;have s5:=Qaa prog o5;have s6:=Qaa prog o6;have s7:=Qaa prog o7;have s8:=Qaa prog o8;have s9:=Qaa prog o9;have s10:=Qaa prog o10;have s11:=Qaa prog o11;have s12:=Qaa prog o12
   clear o1 o2 o3 o4 o5 o6 o7 o8 o9 o10 o11 o12;obtain⟨b0,hb0⟩:=nm wr.heap.size;obtain⟨V,hV⟩:=nm (wr.alloc (.cells #[pa'.x,pa'.y,pa'.z,l.x,l.y,l.z,u.x,u.y,u.z,s.x,s.y,s.z] 82));have hBV:Below wr.heap.size wr V:=by rw[<-hV];exact(Below.refl _ _).alloc lZ _
   obtain⟨Y,hY⟩:=nm V.drew;have hBY:Below wr.heap.size wr Y:=by rw[<-hY];exact hBV.drew
   have HSB:O (SB Y b0 82 #[pa'.x,pa'.y,pa'.z,l.x,l.y,l.z,u.x,u.y,u.z,s.x,s.y,s.z]):=Hi (by rw[<-hY,<-hV,<-hb0];exact SB.new wr _ _);obtain⟨HBV,HSV⟩:=Ia (HB.o.trans (hBY.mono HB.o.size)) (SV4.of (h1.below hBY) (h2.below hBY) (h3.below hBY) (h4.below hBY));obtain⟨HLV,HGY⟩:=Ia (LineV.stays _ _ _ _ _ _ _ _ _ HBV.o HL.o) (HG.o.below HBV.o);have HCT:O (Y.cell? ⟨hb1,ho1+k,none⟩=some (.string tx)):=Hi (ce hBY hlt1 hct);have HLT:O (hb1<Y.heap.size):=Hi (Nat.lt_of_lt_of_le hlt1 hBY.size);have HZK:=Hi (HZ.o.each k tx htx);have HLN:O (st+m*(v.1 - pa)+shp (atF vs) (wtF vs) h k=lnV st m pa vs h k):=Hi (Qd4 hv).symm;obtain⟨HVE,HYE,HBE⟩:=Ib hV hY hb0;have q1:((k:Int)<(n:Int)):=by omega
   clear htw h1 h2 h3 h4 hV hY hb0 hBV hBY i1 i2 i3 i4 hv htx hct hlt1;go_wp2_with fail;rw[HVE.o];simp only[HBE.o];clear s1 s2 s3 s4 s5 s6 s7 s8 s9 s10 s11 s12;clear t0 t1 t2 t3 t4 t5 t6 t7 t8 t9 t10 t11;obtain⟨KL,hKL⟩:=nm (k1+(k2+(A+k3+1))+1+(52*A+36*H+61)+1);have HKL:=Hi hKL;have HCL:O (∀c,Below Y.heap.size Y c->Calls prog 84 #[.agg #[pa'.x,pa'.y,pa'.z,l.x,l.y,l.z,u.x,u.y,u.z,s.x,s.y,s.z],x1,x2,x3] c (Makes c (FF (lnV st m pa vs h k) KL))):=Hi (fun c hc=>by
    rw[<-hKL,<-HLN.o]
    exact LineV.call (LineV.stays _ _ _ _ _ _ _ _ _ hc HLV.o) (SV4.stays _ _ _ _ _ _ _ _ _ hc HSV.o) (by omega))
   clear hKL;refine RegG.bg 10 (fun j=>some (16+j)) ?_;rw[HYE.o];refine RegG.pu (c:=?_) [] (fun w hb=>?_) ?_;rotate_left
   .
    intro K hK;go_simp;exact hK
   refine RegG.pu (c:=?_) [] (fun w hb=>?_) ?_;rotate_left
   .
    intro K hK;have hs12:=HSB.o.below hb HSB.o.lt;have g0:=hs12.cell 0;have g1:=hs12.cell 1;have g2:=hs12.cell 2;have g3:=hs12.cell 3;have g4:=hs12.cell 4;have g5:=hs12.cell 5;have g6:=hs12.cell 6;have g7:=hs12.cell 7;have g8:=hs12.cell 8;have g9:=hs12.cell 9;have g10:=hs12.cell 10;have g11:=hs12.cell 11;simp only[List.getElem?_toArray,List.getElem?_cons_zero,List.getElem?_cons_succ] at g0 g1 g2 g3 g4 g5 g6 g7 g8 g9 g10 g11;clear hs12;go_simp;exact hK
   refine RegG.ca (φ:=FF (lnV st m pa vs h k) KL) [0,1] (FF.stays _ _) (fun w hb=>?_) ?_
   .
    intro K hK;go_simp;exact Makes.use (HCL.o w hb) hK
   refine RegG.pu (c:=?_) [] (fun w hb=>?_) ?_;rotate_left
   .
    intro K hK;go_simp;exact hK
   refine RegG.pu (c:=?_) [] (fun w hb=>?_) ?_;rotate_left
   .
    intro K hK;go_simp;exact hK
   refine RegG.pu (c:=?_) [3,4] (fun w hb=>?_) ?_;rotate_left
   .
    intro K hK;go_simp;exact hK
   refine RegG.pu (c:=?_) [5] (fun w hb=>?_) ?_;rotate_left
   .
    intro K hK;have w0:=ce hb HLT.o HCT.o;go_simp;exact hK
   refine RegG.ca (φ:=FF (z k) Kh) [6] (FF.stays _ _) (fun w hb=>?_) ?_
   .
    intro K hK;go_simp;exact Makes.use (FF.ofFits (HGY.o.below hb) HZK.o.1 HZK.o.2.2 HZK.o.2.1 hpos) hK
   refine RegG.ca (φ:=Is (.bool (decide (lnV st m pa vs h k=z k)))) [2,7] (Is.stays _) (fun w hb=>?_) ?_
   .
    intro v2 h2 v7 h7;intro K hK;go_simp;exact Makes.use (FF.equal h2 h7) hK
   refine RegG.pu (c:=?_) [8] (fun w hb=>?_) ?_;rotate_left
   .
    intro K hK;go_simp;exact hK
   refine RegG.fi (fun u9 hb=>?_);intro v2 _ v7 _;have HB9:=Hi (HBV.o.trans (hb.mono HBV.o.size));clear hb;by_cases he:lnV st m pa vs h k=z k
   .
    have HGO:O (goesTo (lnV st m pa vs h) z (k+1)):=Hi (fun i hi=>by
     rcases Nat.lt_or_ge i k with h1|h1
     . exact HF.o i h1
     . rw[show i=k by omega];exact he)
    rw[decide_eq_true he];clear he;go_wp2;go_roundw
    case rel=>exact⟨k+1,by omega,by go_num,HGO.o,HB9.o⟩
    case measure=>simp[intOf];omega
   .
    have HNO:O (¬goesTo (lnV st m pa vs h) z n):=Hi (fun hc=>he (hc k hkn));rw[decide_eq_false he];clear he;go_wp2;go_ret;exact⟨⟨false,rfl,by simp[HNO.o]⟩,HB9.o⟩
  .
   obtain rfl:k=n:=by omega
   go_wp2;go_ret;exact⟨⟨true,rfl,by simp[HF.o]⟩,HB.o⟩
theorem Qkq{g A H k1 k2 k3:Nat}{vs:List V4}{h st m pa:Rat}{ts:List FE}{y:Value}{w:World}(hg:Glob w)(ht:TBlk 82 w g ts)(hs:Sto A H vs h ts vs.length)(hn:vs.length<=10)(hl:LineV st m pa k1 k2 k3 y w)(hk:k1+k2+k3+54*A+36*H<50000000000):
 Calls prog 38 #[.slice (some ⟨g,0,none⟩) vs.length vs.length,y] w fun e w'=>(∃(g':Nat) (ls:List ByteArray),e=.returned (.slice (some ⟨g',0,none⟩) vs.length vs.length)/\w.heap.size<=g'/\ls.length=vs.length/\SB w' g' 23 (textsV ls).toArray/\∀(i:Nat) (s:ByteArray),ls[i]?=some s->QText s.data.toList (lnV st m pa vs h i))/\Below w.heap.size w w':=by
 obtain⟨x1,x2,x3,rfl⟩:=hl.parts;obtain⟨HG,HT,HS,HL⟩:=Ic hg ht hs hl;clear ht hs hl hg;obtain⟨n,hnn⟩:=nm vs.length;rw[hnn] at hn ⊢;have HNN:=Hi hnn;have hmk:=fun w=>Qtl n (by omega) w
 obtain⟨MC,hMC⟩:=nm ((textsV (List.replicate n ⟨#[]⟩)).toArray);rw[hMC] at hmk;have HMC:=Hi hMC;clear hnn hMC;go_enter func38,ntmps38;go_wp2_with fail;clear hmk;obtain⟨g',hg'⟩:∃g',w.heap.size=g':=⟨_,rfl⟩;obtain⟨V0,hV0⟩:=nm (w.alloc (.cells MC 23));have HB0:=Ua hV0;have HQ0:O (SB V0 g' 23 (textsV (List.replicate n ⟨#[]⟩)).toArray):=Hi (by rw[<-hV0,<-hg',HMC.o];exact SB.new w _ _);rw[hV0];simp only[hg'];have hgg:=Nat.le_of_eq hg';clear hV0 hg';go_loopw [13] (fun iv wr=>∃(k:Nat) (ls:List ByteArray),k<=n/\iv=.int .i64 k/\ls.length=n/\SB wr g' 23 (textsV ls).toArray/\(∀(i:Nat) (s:ByteArray),i<k->ls[i]?=some s->QText s.data.toList (lnV st m pa vs h i))/\Below w.heap.size w wr) (fun iv _=>n - (intOf iv).toNat)
 case atStart=>exact⟨0,_,Nat.zero_le _,rfl,by simp,HQ0.o,fun i s hi=>by omega,HB0.o⟩
 case round=>
  obtain⟨k,ls,hk',rfl,hll,hsb,hall,hb⟩:=hrel;obtain⟨HB,HLS,HALL,HLL⟩:=Ic hb hsb hall hll;have hgl:=hsb.lt;clear hb hsb hall hll;by_cases hkn:k<n
  .
   obtain⟨v,hv⟩:∃v,vs[k]?=some v:=⟨vs[k]'(by have:=HNN.o;omega),gE _⟩;have htw:=HT.o.below HB.o;obtain⟨pa',l,u,s,⟨i1,i2,i3,i4⟩,h1,h2,h3,h4⟩:=HS.o.get htw (by have:=HNN.o;omega) (by have:=HNN.o;omega) hv;obtain⟨t0,t1,t2,t3,t4,t5,t6,t7,t8,t9,t10,t11⟩:=htw.stone i1 i2 i3 i4;obtain⟨o1,o2,o3⟩:=h1.1.one;obtain⟨o4,o5,o6⟩:=h2.1.one;obtain⟨o7,o8,o9⟩:=h3.1.one;obtain⟨o10,o11,o12⟩:=h4.1.one;have s1:=Qaa prog o1;have s2:=Qaa prog o2;have s3:=Qaa prog o3;have s4:=Qaa prog o4;have s5:=Qaa prog o5;have s6:=Qaa prog o6;have s7:=Qaa prog o7;have s8:=Qaa prog o8;have s9:=Qaa prog o9;have s10:=Qaa prog o10;have s11:=Qaa prog o11;have s12:=Qaa prog o12;clear o1 o2 o3 o4 o5 o6 o7 o8 o9 o10 o11 o12;obtain⟨b0,hb0⟩:=nm wr.heap.size
   obtain⟨V,hV⟩:=nm (wr.alloc (.cells #[pa'.x,pa'.y,pa'.z,l.x,l.y,l.z,u.x,u.y,u.z,s.x,s.y,s.z] 82));have hBV:Below wr.heap.size wr V:=by rw[<-hV];exact(Below.refl _ _).alloc lZ _
   obtain⟨HBV,HBVr,HSV⟩:=Ib (HB.o.trans (hBV.mono HB.o.size)) hBV (SV4.of (h1.below hBV) (h2.below hBV) (h3.below hBV) (h4.below hBV));have HLV:=Hi (LineV.stays _ _ _ _ _ _ _ _ _ HBV.o HL.o);have HLN:O (st+m*(v.1 - pa)+shp (atF vs) (wtF vs) h k=lnV st m pa vs h k):=Hi (Qd4 hv).symm;obtain⟨HVE,HBE⟩:=Ia hV hb0;have q1:((k:Int)<(n:Int)):=by omega
   clear htw h1 h2 h3 h4 hV hb0 hBV i1 i2 i3 i4 hv;go_wp2_with fail;rw[HVE.o];simp only[HBE.o];clear s1 s2 s3 s4 s5 s6 s7 s8 s9 s10 s11 s12;clear t0 t1 t2 t3 t4 t5 t6 t7 t8 t9 t10 t11;refine Makes.use (LineV.call HLV.o HSV.o (by omega)) ?_;intro vy w2 hb2 hy;rw[HLN.o] at hy;obtain⟨HY,HB2,HBW2⟩:=Ib hy hb2 (HBV.o.trans (hb2.mono HBV.o.size));clear hy hb2;go_wp2_with fail;refine Makes.use (FF.text (HG.o.below HBW2.o) HY.o (by omega)) ?_;rintro _ w3 hb3 ⟨tx,rfl,hqt⟩;have HBW3:=Hi (HBW2.o.trans (hb3.mono HBW2.o.size));have hls3:=(HLS.o.below (HBVr.o.trans ((HB2.o.trans (hb3.mono HB2.o.size)).mono HBVr.o.size)) HLS.o.lt);have f0:=hls3.free k;obtain⟨s0,hs0⟩:∃s0,ls[k]?=some s0:=⟨ls[k]'(by have:=HLL.o;omega),gE (by have:=HLL.o;omega)⟩;have c0:w3.cell? ⟨g',k,none⟩=some (.string s0):=by rw[hls3.cell];simp[textsV,hs0]
   obtain⟨HLS3,HQT,HS0⟩:=Ib hls3 hqt hs0;clear hls3 hqt hs0 hb3;go_wp2_with fail;go_roundw
   case rel=>
    refine⟨k+1,ls.set k tx,by omega,by go_num,by rw[List.length_set];exact HLL.o,?_,fun i s' hi hs'=>?_,HBW3.o.setCell (p:=⟨g',k,none⟩) hgg _⟩
    .
     rw[Qtm];have:=HLS3.o.set k (.string tx)
     simpa using this
    .
     rcases Nat.lt_or_ge i k with h1|h1
     . rw[List.getElem?_set_ne (by omega)] at hs'
       exact HALL.o i s' h1 hs'
     .
      obtain rfl:i=k:=by omega
      rw[List.getElem?_set_self (by have:=HLL.o;omega)] at hs';obtain rfl:=Option.some.inj hs';exact HQT.o
   case measure=>simp[intOf];omega
  .
   obtain rfl:k=n:=by omega
   go_wp2;go_ret;exact⟨⟨g',ls,rfl,hgg,HLL.o,HLS.o,fun i s hi=>HALL.o i s (by have:=(gZ hi).1;have:=HLL.o;omega) hi⟩,HB.o⟩
end Go.Proofs.YtldjeecnapgakaaGreatDoor
namespace Go.Proofs.YtldjeecnapgakaaGreatDoor
open Go Go.RowKit
open Go.Proofs.Tryz
set_option linter.unusedSimpArgs false
set_option linter.unusedVariables false
set_option maxHeartbeats 8000000
set_option maxRecDepth 1000000
def NoC(w:World)(l:Nat):Prop:=∀o,w.heap[l]?=some o->o.isCells=false
theorem NoC.cell{w:World}{l i:Nat}{v:Value}(h:NoC w l)(hc:w.cell? ⟨l,i,none⟩=some v):False:=by
 obtain⟨o,ho,hi⟩:=cells_of_cell hc;rw[h o ho] at hi;cases hi
theorem Only.put(w:World)(l:Nat)(o:Obj):Only l w (w.putObj l o):=⟨rfl,rfl,rfl,by simp,fun k _ hk=>World.putObj_heap_other hk⟩
section
variable {w w':World} {g:Nat}
theorem Row.onlyN{k:IntKind}{a:Option Addr}{cap:Nat}{l:List Nat}(h:Row k w a cap l)(ho:Only g w w')(hn:NoC w g):Row k w' a cap l:=by
 refine⟨h.fit,?_,fun i hi=>?_⟩
 .
  rcases h.shape with h1|⟨b,off,rfl,h2⟩
  . exact .inl h1
  . exact .inr ⟨b,off,rfl,by have:=ho.size;omega⟩
 .
  obtain⟨b,off,h1,h2,h3⟩:=h.cell i hi;have hne:b≠g:=by rintro rfl;exact hn.cell h3
  exact⟨b,off,h1,by have:=ho.size;omega,(World.cell?_of_block (w:=w) (ho.block b h2 hne)).trans h3⟩
theorem NumV.onlyN{a:Option Addr}{n c x:Nat}(h:NumV w a n c x)(ho:Only g w w')(hn:NoC w g):NumV w' a n c x:=by
 obtain⟨l,hl,h⟩:=h;exact⟨l,hl,h.row.onlyN ho hn,h.num,h.short⟩
theorem FracV.onlyN{v:Value}{q:Rat}(h:FracV w v q)(ho:Only g w w')(hn:NoC w g):FracV w' v q:=by
 obtain⟨neg,a,n,c,b,m,d,e,h⟩:=h;refine⟨neg,a,n,c,b,m,d,e,h.neg,h.top.onlyN ho hn,?_⟩;rcases h.low with h1|⟨h1,h2⟩
 . exact .inl h1
 . exact .inr ⟨h1,h2.onlyN ho hn⟩
theorem TBlk.onlyN{T:TypeId}{b:Nat}{ts:List FE}(h:TBlk T w b ts)(ho:Only g w w')(hn:NoC w g):TBlk T w' b ts:=by
 refine⟨h.blk.only ho ?_,fun t ht=>⟨(h.ok t ht).1.onlyN ho hn,(h.ok t ht).2⟩⟩;rintro rfl;have:=hn _ h.blk;cases this
theorem LineV.onlyN{v:Value}{st m pa:Rat}{k1 k2 k3:Nat}(h:LineV st m pa k1 k2 k3 v w)(ho:Only g w w')(hn:NoC w g):LineV st m pa k1 k2 k3 v w':=by
 obtain⟨b1,b2,b3,e1,e2,a,l,u,s,e,h1,h2,h3,r⟩:=h;exact⟨b1,b2,b3,e1,e2,a,l,u,s,e,h1.onlyN ho hn,h2.onlyN ho hn,h3.onlyN ho hn,r⟩
end
def Over{α:Type}(F:Fence)(n:Nat)(P:Program)(g:Nat)(lb:Array Value)(enc:α->Value)(Ok:α->World->Prop)(S Sp:List α->Prop)(w:World):Prop:=
 ∀(l:Nat) (J Jx:List α->World->Prop) (W:World),Below w.heap.size w W->w.heap.size<=l->(∀pre U V,J pre U->Below U.heap.size U V->J pre V)->(∀pre U,J pre U->NoC U l/\l<U.heap.size/\Below w.heap.size w U)->
  (∀pre x U,J pre U->Ok x U->YieldAt F (n - 1) P l #[enc x] U fun e V=>(e=.returned (.bool true)/\J (pre++ [x]) V/\Only l U V)∨(e=.returned (.bool false)/\Jx (pre++ [x]) V))->
  J [] W->CallsIn F n P g (#[.func (.yield l) #[] #[]]++lb) W fun e V=>(∃v,e=.returned v)/\((∃xs,S xs/\J xs V)∨(∃pre,Sp pre/\Jx pre V))
def roundLeft{α:Type}(I Ix:List α->World->Prop)(xs:List α)(W:World):Exit->Act->World->Prop
 | .normal,_,V=>Below W.heap.size W V/\I xs V
 | .ret,_,V=>KeepsOthers W V/\Ix xs V
 |_,_,_=>False
section
variable {F:Fence} {n:Nat} {P:Program}
theorem Qsc{α:Type}{g:Operand}{ps:Array Tmp}{assign body:Code}{Q:Exit->Act->World->Prop}{a:Act}{w:World}
 (hro:F.round=none) (h1:1<=n) {gf:Nat} {lb:Array Value} (hg:a.eval g=.func (.func gf) #[] lb) (hF:F.fn gf) (eg:∀args w,(callFunc gf args).run P w=.ok (.enter gf args) w)
 {enc:α->Value} {Ok:α->World->Prop} {S Sp:List α->Prop} (hseq:Over F (n - 1) P gf lb enc Ok S Sp w) (hps:ps.size=1)
 (I Ix:List α->World->Prop) (hIw:∀pre U V,I pre U->Below U.heap.size U V->I pre V) (hIl:∀pre U l o,w.heap.size<=l->NoC U l->I pre U->I pre (U.putObj l o)) (hXl:∀pre U l o,w.heap.size<=l->NoC U l->Ix pre U->Ix pre (U.putObj l o)) (hOl:∀x U l o,w.heap.size<=l->NoC U l->Ok x U->Ok x (U.putObj l o))
 (hIb:∀pre U,I pre U->Below w.heap.size w U) (h0:I [] w) (a₁:α->Act)
 (hassign:∀(l:Nat) (x:α) (W:World) (K:Act->World->Prop),K (a₁ x) W->assign.wpIn (F.inRound l) (n - 1 - 1) P (Exit.then K (fun _ _ _=>False)) { tmps:=(ps.zip #[enc x]).foldl (fun t (p,v)=>t.setIfInBounds p v) a.tmps,defers:=[] } W)
 (hbody:∀(l:Nat) (pre:List α) (x:α) (W:World),w.heap.size<=l->I pre W->Ok x W->body.wpIn (F.inRound l) (n - 1 - 1) P (roundLeft I Ix (pre++ [x]) W) (a₁ x) W)
 (hdone:∀(D:Nat) (xs:List α) (W:World),w.heap.size<=D->S xs->I xs W->W.heap[D]?=some (.deferred (some []))->Q .normal { a with defers:={ target:=.collected D,args:=#[] } :: a.defers } W)
 (hstop:∀(D:Nat) (pre:List α) (W:World),w.heap.size<=D->Sp pre->Ix pre W->W.heap[D]?=some (.deferred (some []))->Code.ret.wpIn F n P Q { a with defers:={ target:=.collected D,args:=#[] } :: a.defers } W):
 (Code.rangeFunc g ps assign body).wpIn F n P Q a w:=by
 refine wpIn_rangeFunc (fun fn hfn=>?_);rw[hro];obtain⟨D,hD⟩:=nm w.heap.size;obtain⟨rc,hrc⟩:∃rc:LoopState->Option Code->Obj,rc=fun st pe=>.loop { state:=st,pending:=pe,fn,tmps:=a.tmps,params:=ps,assign,body,defers:=D }:=⟨_,rfl⟩
 obtain⟨W1,hW1⟩:=nm ((w.alloc (.deferred (some []))).alloc (rc .ready none));have bW1:Below w.heap.size w W1:=by rw[<-hW1];exact((Below.refl _ w).alloc lZ _).alloc (by simp) _
 have sz1:W1.heap.size=D+2:=by rw[<-hW1];simp[hD]
 have at1:W1.heap[D+1]?=some (rc .ready none)/\W1.heap[D]?=some (.deferred (some [])):=by
  rw[<-hW1];constructor
  .
   have:=World.alloc_heap_new (w.alloc (.deferred (some []))) (rc .ready none);rw[World.size_alloc,hD] at this;exact this
  .
   have h2:=World.alloc_heap_new w (.deferred (some []));rw[hD] at h2;exact(Below.heap_alloc _ _ _ (by simp[hD])).trans h2
 have noC:∀(U:World) st pe,U.heap[D+1]?=some (rc st pe)->NoC U (D+1):=by
  intro U st pe hU o ho;rw[hU] at ho;cases ho;rw[hrc];rfl
 let J:List α->World->Prop:=fun pre U=>I pre U/\U.heap[D+1]?=some (rc .ready none)/\U.heap[D]?=some (.deferred (some []))
 let Jx:List α->World->Prop:=fun pre U=>Ix pre U/\U.heap[D+1]?=some (rc .done (some .ret))/\U.heap[D]?=some (.deferred (some []))
 refine⟨D+1,[{ target:=.collected D,args:=#[] }],W1,{ target:=.fn (.func gf) lb,args:=#[.func (.yield (D+1)) #[] #[]] },W1,gf,#[.func (.yield (D+1)) #[] #[]]++lb,W1,?_,?_,?_,?_,fun _=>h1,?_⟩
 .
  have:=run_enterLoop_outer (P:=P) (w:=w) fn a.tmps ps assign body;rw[<-hW1,hrc,<-hD];exact this
 . simp only[resolve,hg]
   simp[go_sem]
 .
  intro f' hf';simp[Target.leads] at hf';subst hf';exact hF
 . simp[invoke,go_sem,eg]
 .
  have hcall:=hseq (D+1) J Jx W1 bW1 (by omega) (fun pre U V hJ hb=>⟨hIw pre U V hJ.1 hb,(hb.block _ (Array.getElem?_eq_some_iff.1 hJ.2.1).1).trans hJ.2.1,(hb.block _ (Array.getElem?_eq_some_iff.1 hJ.2.2).1).trans hJ.2.2⟩)
   (fun pre U hJ=>⟨noC U _ _ hJ.2.1,(Array.getElem?_eq_some_iff.1 hJ.2.1).1,hIb pre U hJ.1⟩) ?_ ⟨hIw [] w W1 h0 bW1,at1⟩
  .
   refine hcall.mono ?_;rintro e V ⟨⟨v,rfl⟩,hV⟩;rcases hV with ⟨xs,hS,hI,hl,hd⟩|⟨pre,hSp,hX,hl,hd⟩
   .
    have hl':=hl;rw[hrc] at hl';refine⟨none,_,run_endLoop (P:=P) hl' (by simp),?_⟩;exact hdone D xs _ (Nat.le_of_eq hD) hS (hIl xs V _ _ (by omega) (noC V _ _ hl) hI) ((World.putObj_heap_other (by omega)).trans hd)
   .
    have hl':=hl;rw[hrc] at hl';refine⟨some .ret,_,run_endLoop (P:=P) hl' (by simp),?_⟩;exact hstop D pre _ (Nat.le_of_eq hD) hSp (hXl pre V _ _ (by omega) (noC V _ _ hl) hX) ((World.putObj_heap_other (by omega)).trans hd)
  .
   rintro pre x U ⟨hI,hl,hd⟩ hok;have hlt:D+1<U.heap.size:=(Array.getElem?_eq_some_iff.1 hl).1;have hl':=hl;rw[hrc] at hl';have hy:=run_yield (P:=P) (args:=#[enc x]) hl' (by simp[hps]);obtain⟨U1,hU1⟩:=nm (U.putObj (D+1) (rc .busy none));have hbg:=run_beginRound (P:=P) hl' rfl;have eb:U.putObj (D+1) (.loop { state:=.busy,pending:=none,fn:=fn,tmps:=a.tmps,params:=ps,assign:=assign,body:=body,defers:=D })=U1:=by rw[<-hU1,hrc]
   rw[eb] at hbg;have hl1:U1.heap[D+1]?=some (rc .busy none):=by rw[<-hU1];exact World.putObj_heap_same hlt
   have hd1:U1.heap[D]?=some (.deferred (some [])):=by rw[<-hU1];exact(World.putObj_heap_other (by omega)).trans hd
   have o1:Only (D+1) U U1:=by rw[<-hU1];exact Only.put _ _ _
   have hI1:I pre U1:=by rw[<-hU1];exact hIl pre U _ _ (by omega) (noC U _ _ hl) hI
   have hok1:Ok x U1:=by rw[<-hU1];exact hOl x U _ _ (by omega) (noC U _ _ hl) hok
   refine⟨fn,_,assign,body,hy,roundIn_of_wpIn hfn (hassign (D+1) x U _ ⟨U1,hbg,?_⟩)⟩;refine wpIn_mono (hbody (D+1) pre x U1 (by omega) hI1 hok1) ?_;rintro e a3 V hp;cases e with
   |normal=>
    obtain⟨hb,hI3⟩:=hp;have hl3:V.heap[D+1]?=some (rc .busy none):=(hb.block _ (Array.getElem?_eq_some_iff.1 hl1).1).trans hl1;have hd3:V.heap[D]?=some (.deferred (some [])):=(hb.block _ (Array.getElem?_eq_some_iff.1 hd1).1).trans hd1;have hl3':=hl3;rw[hrc] at hl3';refine⟨_,_,run_endRound (P:=P) none hl3',.inl ⟨rfl,⟨hIl _ V _ _ (by omega) (noC V _ _ hl3) hI3,?_,(World.putObj_heap_other (by omega)).trans hd3⟩,(o1.trans (Only.of_below hb)).trans (Only.put _ _ _)⟩⟩;rw[World.putObj_heap_same (Array.getElem?_eq_some_iff.1 hl3).1,hrc];rfl
   |ret=>
    obtain⟨hk,hX3⟩:=hp;have hl3:V.heap[D+1]?=some (rc .busy none):=hk.same _ _ hl1 (by rw[hrc];rfl);have hd3:V.heap[D]?=some (.deferred (some [])):=hk.same _ _ hd1 rfl;have hl3':=hl3;rw[hrc] at hl3';refine⟨_,_,run_endRound (P:=P) (some .ret) hl3',.inr ⟨rfl,hXl _ V _ _ (by omega) (noC V _ _ hl3) hX3,?_,(World.putObj_heap_other (by omega)).trans hd3⟩⟩;rw[World.putObj_heap_same (Array.getElem?_eq_some_iff.1 hl3).1,hrc];rfl
   |exit _=>exact hp.elim
   |goto _=>exact hp.elim
   |panic _=>exact hp.elim
   |outgrown=>exact hp.elim
end
end Go.Proofs.YtldjeecnapgakaaGreatDoor
