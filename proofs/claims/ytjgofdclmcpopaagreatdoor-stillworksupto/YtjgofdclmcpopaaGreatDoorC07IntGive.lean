import Derived.Test.YtjgofdclmcpopaaGreatDoorC06BigDivL1
namespace Go.Proofs.YtjgofdclmcpopaaGreatDoor
open Go.RowKit
open Go.Proofs.Tryz
set_option linter.unusedSimpArgs false
set_option linter.unusedVariables false
set_option maxHeartbeats 8000000
set_option maxRecDepth 1000000
theorem Blk.setRow{k:IntKind}{t:TypeId}{w:World}{g:Nat}{l:List Nat}(h:Blk k t w g l)(m:List Nat):Blk k t (w.setRow g (wordCells k m)) g m:=setRow_heap w g _ _ t _ h
theorem Qm0(X V n M k:Nat)(xl v:List Nat)(hx:Num 4294967296 xl X)(hXb:X<4294967296 ^ (M+n+2))(hv:Num 4294967296 v V)(hvl:v.length=n+2)(hk:xl.length+k=M+n+3):
 DivInv X V n M (M+1) (xl++zeros k) (zeros (M+1)):=by
 refine⟨by rw[List.length_append,Qah];exact hk,Qah _,hx.small.append (Qao _ _ (by decide)),Qao _ _ (by decide),?_,?_⟩
 . rw[Qdi,Qdv,hx.eq,List.drop_of_length_le (by rw[Qah];exact Nat.le_refl _),Qdh,Nat.mul_zero,Nat.mul_zero]
   rfl
 .
  rw[Qdi,Qdv,hx.eq,Nat.mul_zero,Nat.add_zero];have e3:=hv.trim.pow_le (B:=4294967296) (by rw[hvl];exact Nat.succ_pos _);rw[hv.eq,hvl] at e3;have e4:=Nat.mul_le_mul_left (4294967296 ^ (M+1)) e3;rw[<-Nat.pow_add,show M+1+(n+2 - 1)=M+n+2 from by omega] at e4;exact Nat.lt_of_lt_of_le hXb e4
theorem Qm1(w:World)(g n cx bx ox:Nat)(xl:List Nat)(hB:Blk .u32 286 w g (zeros n))(hx:Row .u32 w (some ⟨bx,ox,none⟩) cx xl)(hn:xl.length<=n):
 Sem.run prog (Builtin.copy_ #[112,112] 3 #[.slice (some ⟨g,0,none⟩) n n,.slice (some ⟨bx,ox,none⟩) xl.length cx]) w=.ok (.int .i64 xl.length) (w.setRow g (wordCells .u32 (xl++zeros (n - xl.length)))):=by
 have h:=run_copy_row (P:=prog) w 112 112 3 286 g 0 n n ⟨bx,ox,none⟩ xl.length cx (wordCells .u32 (zeros n)) 286 (xl.map (fun n:Nat=>Value.int .u32 n)) underlying112 (by kernel_rfl) hB
  (by rw[List.length_map];exact(Nat.min_eq_left hn).symm) ?_ (by simp[wordCells,Qah];omega) ?_
 .
  have e:(List.take 0 (wordCells .u32 (zeros n)).toList++xl.map (fun n:Nat=>Value.int .u32 n)++List.drop (0+(xl.map (fun n:Nat=>Value.int .u32 n)).length) (wordCells .u32 (zeros n)).toList).toArray=wordCells .u32 (xl++zeros (n - xl.length)):=by
   unfold wordCells zeros;simp
  rw[e] at h;rw[List.length_map] at h;exact h
 .
  intro j u hj;obtain⟨hlt,hu⟩:=gZ hj;have hlt':j<xl.length:=by simpa using hlt
  obtain⟨b',off',e1,_,hc⟩:=hx.cell j hlt';obtain⟨rfl,rfl⟩:bx=b'/\ox=off':=by simpa using e1
  rw[Qar,hc,<-hu];simp[hlt']
 . intro u hu;obtain⟨n,_,rfl⟩:=List.mem_map.1 hu;rfl
theorem Qm2(a1 a2:Option Addr)(c1 c2:Nat)(l m:List Nat)(x y:Nat)(w:World)(h1:U32 w a1 c1 l x)(h2:U32 w a2 c2 m y)(hy:0<y)(hxy:y<=x)(hl:2<l.length)(hm:1<m.length)(hlb:l.length<1099511627770):
 Calls prog 236 #[.slice a1 l.length c1,.slice a2 m.length c2] w (DivOk w x y):=by
 have s2:=h2.short;have hml:m.length<=l.length:=by
  apply bC;intro hc;have:=Qas (B:=4294967296) (by omega) h1.num.small h2.num.trim (by omega);rw[h1.num.eq,h2.num.eq] at this;omega
 have q1:((m.length:Int) == 0)=false:=by rw[beq_eq_false_iff_ne];omega
 have q2:((m.length:Int) == 1)=false:=by rw[beq_eq_false_iff_ne];omega
 have hc:¬cmp3 x y<0:=by rw[Qat];omega
 have hzb:nb y<=32*m.length:=Num.nb_le (q:=32) h2.num;obtain⟨z,hz⟩:=nm (nb y);have hz1:1<=z:=by rw[<-hz];exact Qdj hy
 obtain⟨s,hs⟩:=nm (31 - (z - 1) % 32);have hs31:s<32:=by omega
 have hs':32 - ((z:Int) - 1) % 32 - 1=(s:Int):=by omega
 rw[hz] at hzb;have HZ:O (nb y=z):=hz;clear hz hs;go_enter func236,ntmps236;go_wp2_with fail;refine(Qa8 a1 a2 c1 c2 l m x y w h1 h2).mono ?_;rintro e w1 ⟨rfl,hb⟩;replace h1:=h1.below hb;replace h2:=h2.below hb;go_wp2_with fail;refine(Qm4 a2 c2 m y w1 h2).mono ?_;rintro e w2 ⟨rfl,rfl⟩;rw[HZ.o];clear hc;go_wp2_with fail;refine(Qha a2 c2 s m y w2 h2 hs31 (by omega) (by omega)).mono ?_;rintro e w3 ⟨⟨av,cv,v,rfl,hv⟩,hb3⟩;replace h1:=h1.below hb3;have hpow:=Qez hs31;have hpos:0<2 ^ s:=Nat.pow_pos (by omega);obtain⟨V,hV⟩:=nm (y*2 ^ s);obtain⟨X,hX⟩:=nm (x*2 ^ s);rw[hV] at hv;have hyV:y<=V:=by rw[<-hV];exact Nat.le_mul_of_pos_right _ hpos
 have hVX:V<=X:=by rw[<-hV,<-hX];exact Nat.mul_le_mul_right _ hxy
 have hXb:X<4294967296 ^ (l.length+1):=by
  have e1:=Qaa (B:=4294967296) (by omega) h1.num.small;rw[h1.num.eq] at e1;rw[<-hX,Nat.pow_succ];exact Nat.mul_lt_mul'' e1 (by omega)
 have hvl2:2<=v.length:=by
  apply bC;intro hn;have e1:=Qaa (B:=4294967296) (by omega) hv.num.small;have e2:=Qb1 (B:=4294967296) (by omega) (show v.length<=1 by omega);have e3:=h2.num.trim.pow_le (B:=4294967296) (by omega);have e4:=Qb1 (B:=4294967296) (by omega) (show 1<=m.length - 1 by omega);rw[hv.num.eq] at e1;rw[h2.num.eq] at e3;omega
 have hvll:v.length<=l.length+1:=hv.num.length_le_of_lt (by omega) (by omega);have HV:O (y*2 ^ s=V):=hV;have HX:O (x*2 ^ s=X):=hX;have HXB:O (X<4294967296 ^ (l.length+1)):=hXb;clear hV hX hXb hpow hpos hyV;have hmk:∀w,(Instr.makeSlice 112 (.int .i64 ((l.length:Int)+2)) (.int .i64 ((l.length:Int)+2))).run prog w=.ok (.slice (some ⟨w.heap.size,0,none⟩) (l.length+2) (l.length+2)) (w.alloc (.cells (wordCells .u32 (zeros (l.length+2))) 286)):=
  fun w=>Qa7 _ (l.length+2) (by omega) (by omega) w
 go_wp2_with fail;have hba:Below w3.heap.size w3 (w3.alloc (.cells (wordCells .u32 (zeros (l.length+2))) 286)):=bR.alloc lZ _;refine(Qha a1 c1 s l x _ (h1.below hba) hs31 (by omega) (by omega)).mono ?_;rintro e w4 ⟨⟨ax,cx,xl,rfl,hx⟩,hb4⟩;clear hmk;rw[HX.o] at hx;have hxl1:xl.length<=l.length+1:=hx.num.length_le_of_lt (by omega) HXB.o;have hxl0:0<xl.length:=by
  have:=(hx.num.len_zero (by omega)).2;have:=HV.o;have:0<y*2 ^ s:=Nat.mul_pos hy (Nat.pow_pos (by omega));omega
 have hBu:Blk .u32 286 w4 w3.heap.size (zeros (l.length+2)):=(Blk.new .u32 286 w3 _).below hb4 (by simp);have hb34:Below w3.heap.size w3 w4:=hba.trans (hb4.mono (by simp));have hs4:=hb34.size;have hlt4:=hBu.lt;clear hba hb4;obtain⟨bx,ox,hax,hbx,hcx⟩:=hx.row.cell 0 hxl0;subst hax;have hcp:=Qm1 w4 w3.heap.size (l.length+2) cx bx ox xl hBu hx.row (by omega);clear hcx;obtain⟨n,hn⟩:∃n,v.length=n+2:=⟨v.length - 2,by omega⟩;have HN:O (v.length=n+2):=hn;rw[hn];rw[hn] at hvl2 hvll;clear hn;obtain⟨M,hM⟩:∃M,l.length=M+n+1:=⟨l.length - 1 - n,by omega⟩;have HM:O (l.length=M+n+1):=hM;have hmk2:∀w,(Instr.makeSlice 112 (.int .i64 ((l.length:Int)+2 - ((n:Int)+2))) (.int .i64 ((l.length:Int)+2 - ((n:Int)+2)))).run prog w=.ok (.slice (some ⟨w.heap.size,0,none⟩) (M+1) (M+1)) (w.alloc (.cells (wordCells .u32 (zeros (M+1))) 286)):=
  fun w=>Qa7 _ (M+1) (by omega) (by omega) w
 clear hM;go_wp2_with fail;clear hcp hmk2;generalize hW0:(w4.setRow w3.heap.size (wordCells .u32 (xl++zeros (l.length+2 - xl.length)))).alloc (.cells (wordCells .u32 (zeros (M+1))) 286)=W0 at*;have hgq:(w4.setRow w3.heap.size (wordCells .u32 (xl++zeros (l.length+2 - xl.length)))).heap.size=w4.heap.size:=by simp[World.setRow]
 have hBu0:Blk .u32 286 W0 w3.heap.size (xl++zeros (l.length+2 - xl.length)):=by
  rw[<-hW0];exact(hBu.setRow _).alloc _
 have hBq0:Blk .u32 286 W0 w4.heap.size (zeros (M+1)):=by
  rw[<-hW0,<-hgq];exact Blk.new _ _ _ _
 have hb0:Below w3.heap.size w3 W0:=by
  rw[<-hW0];exact(below_setRow hb34 lZ _).alloc (by rw[hgq];omega) _
 clear hW0 hgq hBu;obtain⟨bv,ov,hav,hbv,_⟩:=hv.row.cell 0 (by have:=HN.o;omega);subst hav;have hvc:∀i,i<n+2->w3.cell? ⟨bv,ov+i,none⟩=some (.int .u32 ((v.getD i 0:Nat):Int)):=by
  intro i hi;obtain⟨b',o',e1,_,e2⟩:=hv.row.cell i (by have:=HN.o;omega);obtain⟨rfl,rfl⟩:bv=b'/\ov=o':=by simpa using e1
  exact e2
 obtain⟨v1,hv1⟩:=nm (v.getD (n+1) 0);obtain⟨v0,hv0⟩:=nm (v.getD n 0);have hv1b:v1<4294967296:=by rw[<-hv1];exact hv.num.small.getD (by omega) _
 have hv0b:v0<4294967296:=by rw[<-hv0];exact hv.num.small.getD (by omega) _
 have hv1p:1<=v1:=by
  have e1:=hv.num.trim;have e2:=HN.o;rcases e1 with e1|e1
  . rw[e1] at e2;simp at e2
  . rw[e2] at e1;rw[<-hv1];simp only[Nat.add_one_sub_one] at e1;omega
 have g1:=(hb0.cell (p:=⟨bv,ov+(n+1),none⟩) hbv).trans (hvc (n+1) (by omega));have g2:=(hb0.cell (p:=⟨bv,ov+n,none⟩) hbv).trans (hvc n (by omega));rw[hv1] at g1;rw[hv0] at g2;have HVC:O (∀i,i<n+2->w3.cell? ⟨bv,ov+i,none⟩=some (.int .u32 ((v.getD i 0:Nat):Int))):=hvc;have HV1:O (v.getD (n+1) 0=v1):=hv1;have HV0:O (v.getD n 0=v0):=hv0;clear hvc hv1 hv0;go_region
 all_goals
  go_wp2
 clear g1 g2;have hVb:V<4294967296 ^ (n+2):=by
  have e1:=Qaa (B:=4294967296) (by omega) hv.num.small;rw[hv.num.eq,HN.o] at e1;exact e1
 have hV0:0<V:=by rw[<-HV.o];exact Nat.mul_pos hy (Nat.pow_pos (by omega))
 have HI0:DivInv X V n M (M+1) (xl++zeros (l.length+2 - xl.length)) (zeros (M+1)):=
  Qm0 X V n M _ xl v hx.num (by rw[show M+n+2=l.length+1 from by have:=HM.o;omega];exact HXB.o) hv.num HN.o (by have:=HM.o;omega)
 have HM0:DivMem w3 W0 bv ov w3.heap.size w4.heap.size n (l.length+2) v (xl++zeros (l.length+2 - xl.length)) (zeros (M+1)):=
  ⟨hb0,hbv,HVC.o,hv.num.small,hBu0,hBq0,hlt4,by rw[List.length_append,Qah];omega,hx.num.small.append (Qao _ _ (by omega))⟩
 obtain⟨HMH,HIH⟩:=Ia HM0 HI0;clear HI0 hVb hBu0 hBq0 hb0 hs' HM0;rw[show (l.length:Int)+2 - ((n:Int)+2) - 1=((M+1:Nat):Int) - 1 from by have:=HM.o;omega];refine wp_loop_rounds (M+1+1) ?_
 refine(Qmq _ w3 bv ov cv w3.heap.size w4.heap.size n M (l.length+2) v1 v0 X V v _ (by have:=HM.o;omega) (by omega) hv.num HN.o HV1.o HV0.o hv1p ?hex (M+1)) _ _ _ _ _ _ _ _ _ _ _ _ _ _ _ _ _ _ _ _ _ _ _ _ _ _ _ _ _ _ _ _ _ _ _ _ _ _ _ _ _ _ _ _ _ _ _ _ _ _ _ _ _ _ _ _ _ _ _ _ _ _ _ _ _ _ _ _ _ _ _ _ _ _ _ _ _ _ _ _ _ _ _ _ _ _ _ _ _ _ _ _ _ _ _ _ _ _ _ _ _ _ _ _ _ _ _ _ _ _ _ _ _ _ _ _ _ _ _ _ _ _ _ _ _ _ _ _ _ _ _ _ _ _ _ _ _ _ _ _ _ _ _ _ _ _ _ _ _ _ _ _ _ _ _ _ _ _ _ _ _ _ _ _ _ _ _ _ _ _ _ _ _ _ _ _ _ _ _ _ _ _ _ _ _ _ _ _ _ _ _ _ _ _ _ _ _ _ _ _ _ _ _ _ _ _ _ _ _ _ _ _ _ _ _ _ _ _ _ _ _ _ _ _ _ _ _ _ _ _ _ _ _ _ _ _ _ _ _ _ _ _ _ _ _ _ _ _ _ _ _ _ _ _ _ _ _ _ _ _ _ _ _ _ _ _ _ _ lZ HMH.o.drew HIH.o
 case hex=>
  intro us qs p0 p1 p2 p3 p4 p5 p6 p7 p8 p9 p11 p13 p14 p16 p17 p18 p19 p20 p21 p22 p23 p24 p25 p26 p27 p28 p29 p30 p31 p32 p33 p34 p35 p36 p37 p38 p39 p40 p41 p42 p43 p44 p45 p46 p47 p48 p49 p50 p51 p52 p53 p54 p55 p56 p57 p58 p59 p60 p61 p62 p63 p64 p65 p66 p67 p68 p69 p70 p71 p72 p73 p74 p75 p76 p77 p78 p79 p80 p81 p82 p83 p84 p85 p86 p87 p88 p89 p90 p91 p92 p93 p94 p95 p96 p97 p98 p99 p100 p101 p102 p103 p104 p105 p106 p107 p108 p109 p110 p111 p112 p113 p114 p115 p116 p117 p118 p119 p120 p121 p122 p123 p124 p125 p126 p127 p128 p129 p130 p131 p132 p133 p134 p135 p136 p137 p138 p139 p140 p141 p142 p143 p144 p145 p146 p147 p148 p149 p150 p151 p152 p153 p154 p155 p156 p157 p158 p159 p160 p161 p162 p163 p164 p165 p166 p167 p168 p169 p170 p171 p172 p173 p174 p175 p176 p177 p178 p179 p180 p181 p182 p183 p184 p185 p186 p187 p188 p189 p190 p191 p192 p193 p194 p195 p196 p197 p198 p199 p200 p201 p202 p203 p204 p205 p206 p207 p208 p209 p210 p211 p212 p213 p214 p215 p216 p217 p218 p219 p220 p221 p222 p223 p224 p225 p226 p227 p228 p229 p230 p231 p232 p233 p234 p235 p236 p237 p238 p239 p240 p241 p242 p243 p244 p245 p246 p247 p248 p249 p250 p251 p252 p253 p254 p255 p256 p257 p258 p259 p260 p261 p262 p263 p264 p265 p266 p267 p268 p269 p270 p271 p272 wr hm hI
  have hdone:val 4294967296 qs=x / y/\val 4294967296 us / 2 ^ s=x % y:=by
   have e1:=hI.eq;have e2:=hI.lt;rw[Nat.pow_zero,Nat.one_mul] at e1 e2;rw[List.drop_zero] at e1;exact Qfk (Nat.pow_pos (by decide)) HX.o HV.o e1 e2
  obtain⟨hd1,hd2⟩:=hdone;obtain⟨HD2,HIN,HME⟩:=Ib hd2 hI hm;clear hd2 hI hm HMH HIH;go_wp2_with fail;refine(Qay w4.heap.size (M+1) (M+1) (x / y) qs wr HME.o.qb HIN.o.qlen HIN.o.qsmall lZ (by have:=HM.o;omega) hd1).mono ?_;rintro e w5 ⟨⟨aq,cq,rq,rfl,huq⟩,rfl⟩;go_wp2_with fail;refine(Qay w3.heap.size (l.length+2) (l.length+2) _ us w5 HME.o.ub HME.o.ul HME.o.usmall lZ (by omega) rfl).mono ?_;rintro e w6 ⟨⟨au,cu,ru,rfl,huu⟩,rfl⟩;go_wp2_with fail;refine(Qm5 au cu s ru _ w6 huu hs31).mono ?_;rintro e w7 ⟨⟨ar,cr,rr,rfl,hur⟩,hb7⟩;go_wp2;go_ret2;rw[HD2.o] at hur;refine⟨⟨aq,cq,rq,ar,cr,rr,rfl,huq.below hb7,hur⟩,?_⟩;have hb36:Below w3.heap.size w3 w6:=HME.o.below;exact hb.trans ((hb3.mono hb.size).trans ((hb36.mono (Nat.le_trans hb.size hb3.size)).trans (hb7.mono (Nat.le_trans hb.size (Nat.le_trans hb3.size hb36.size)))))
theorem Qa9(a1 a2:Option Addr)(c1 c2:Nat)(l m:List Nat)(x y:Nat)(w:World)(h1:U32 w a1 c1 l x)(h2:U32 w a2 c2 m y)(hy:0<y)(hlb:l.length<1099511627770):
 Calls prog 236 #[.slice a1 l.length c1,.slice a2 m.length c2] w (DivOk w x y):=by
 by_cases hxy:x<y
 . exact Qml a1 a2 c1 c2 l m x y w h1 h2 hxy
 by_cases hl:l.length<=2
 . exact Qmm a1 a2 c1 c2 l m x y w h1 h2 hy (by omega) hl
 by_cases hm:m.length=1
 . exact Qmn a1 a2 c1 c2 l m x y w h1 h2 hy (by omega) (by omega) hm
 .
  have hm0:m.length≠0:=by
   intro h0;have:=(h2.num.len_zero (by decide)).2 h0;omega
  exact Qm2 a1 a2 c1 c2 l m x y w h1 h2 hy (by omega) (by omega) (by omega) hlb
theorem Qbw(p q:Nat):Nat.gcd q (p % q)=Nat.gcd p q:=by
 rw[Nat.gcd_comm q,<-Nat.gcd_rec,Nat.gcd_comm]
theorem U32.len_mono{w w':World}{a b:Option Addr}{c d:Nat}{l m:List Nat}{x y:Nat}(h:U32 w a c l x)(k:U32 w' b d m y)(hxy:x<=y):l.length<=m.length:=
 h.num.length_le_of_lt (by decide) (Nat.lt_of_le_of_lt hxy (by have:=Qaa (B:=4294967296) (by decide) k.num.small;rw[k.num.eq] at this;exact this))
def ComExit(Qx:Exit->Act->World->Prop)(w0:World)(g B:Nat):Prop:=
 ∀(p q:Nat) (a b:Option Addr) (c d:Nat) (l m:List Nat) (s2 s3 s4 s5 s6 s7 s8 s9 s10 s11 s12 s13 s14 s15 s16 s17 s18 s19 s20 s21 s22 s23 s24 s25 s26 s27 s28 s29 s30 s31 s32 s33 s34 s35 s36 s37 s38 s39 s40 s41 s42 s43 s44 s45 s46 s47 s48:Value) (wr:World),U32 wr a c l p->U32 wr b d m q->l.length<=B->m.length<=2->Nat.gcd p q=g->Below w0.heap.size w0 wr->
  Qx (.exit 0) ⟨#[.slice a l.length c,.slice b m.length d,s2,s3,s4,s5,s6,s7,s8,s9,s10,s11,s12,s13,s14,s15,s16,s17,s18,s19,s20,s21,s22,s23,s24,s25,s26,s27,s28,s29,s30,s31,s32,s33,s34,s35,s36,s37,s38,s39,s40,s41,s42,s43,s44,s45,s46,s47,s48],[]⟩ wr
def ComAt(Qx:Exit->Act->World->Prop)(w0:World)(g B t:Nat):Prop:=
 ∀(p q:Nat) (a b:Option Addr) (c d:Nat) (l m:List Nat) (s2 s3 s4 s5 s6 s7 s8 s9 s10 s11 s12 s13 s14 s15 s16 s17 s18 s19 s20 s21 s22 s23 s24 s25 s26 s27 s28 s29 s30 s31 s32 s33 s34 s35 s36 s37 s38 s39 s40 s41 s42 s43 s44 s45 s46 s47 s48:Value) (wr:World),q<=t->U32 wr a c l p->U32 wr b d m q->l.length<=B->m.length<=B->Nat.gcd p q=g->Below w0.heap.size w0 wr->
  Code.rounds prog (((Tryz.f235.body.map loopsIn).getD []).getD 0 .skip) Qx (t+1) ⟨#[.slice a l.length c,.slice b m.length d,s2,s3,s4,s5,s6,s7,s8,s9,s10,s11,s12,s13,s14,s15,s16,s17,s18,s19,s20,s21,s22,s23,s24,s25,s26,s27,s28,s29,s30,s31,s32,s33,s34,s35,s36,s37,s38,s39,s40,s41,s42,s43,s44,s45,s46,s47,s48],[]⟩ wr
theorem Qmk(Qx:Exit->Act->World->Prop)(w0:World)(g B:Nat)(hB:B<1099511627770)(hexit:ComExit Qx w0 g B)(t:Nat):ComAt Qx w0 g B t:=by
 induction t with
 |zero=>
  intro p q a b c d l m s2 s3 s4 s5 s6 s7 s8 s9 s10 s11 s12 s13 s14 s15 s16 s17 s18 s19 s20 s21 s22 s23 s24 s25 s26 s27 s28 s29 s30 s31 s32 s33 s34 s35 s36 s37 s38 s39 s40 s41 s42 s43 s44 s45 s46 s47 s48 wr ht h1 h2 hl hm hg hb;have hq:q=0:=by omega
  have hm0:=(h2.num.len_zero (by decide)).1 hq;have hmi:¬(2:Int)<(m.length:Int):=by omega
  obtain⟨H1,H2,HG,HM⟩:=Ic h1 h2 hg (show m.length<=2 by omega);clear h1 h2 hg hm0 hq;rw[rounds_succ]
  conv=>arg 2;whnf
  go_wp2;exact hexit _ _ _ _ _ _ _ _ _ _ _ _ _ _ _ _ _ _ _ _ _ _ _ _ _ _ _ _ _ _ _ _ _ _ _ _ _ _ _ _ _ _ _ _ _ _ _ _ _ _ _ _ _ _ _ _ H1.o H2.o hl HM.o HG.o hb
 |succ t ih=>
  intro p q a b c d l m s2 s3 s4 s5 s6 s7 s8 s9 s10 s11 s12 s13 s14 s15 s16 s17 s18 s19 s20 s21 s22 s23 s24 s25 s26 s27 s28 s29 s30 s31 s32 s33 s34 s35 s36 s37 s38 s39 s40 s41 s42 s43 s44 s45 s46 s47 s48 wr ht h1 h2 hl hm hg hb;obtain⟨H1,H2,HG⟩:=Ib h1 h2 hg;by_cases hm2:m.length<=2
  .
   have hmi:¬(2:Int)<(m.length:Int):=by omega
   clear h1 h2 hg;rw[rounds_succ]
   conv=>arg 2;whnf
   go_wp2;exact hexit _ _ _ _ _ _ _ _ _ _ _ _ _ _ _ _ _ _ _ _ _ _ _ _ _ _ _ _ _ _ _ _ _ _ _ _ _ _ _ _ _ _ _ _ _ _ _ _ _ _ _ _ _ _ _ _ H1.o H2.o hl hm2 HG.o hb
  .
   have hmi:(2:Int)<(m.length:Int):=by omega
   have hq0:0<q:=by
    rcases Nat.eq_zero_or_pos q with h0|h0
    . have:=(h2.num.len_zero (by decide)).1 h0;omega
    . exact h0
   have HD:=Hi (Qa9 a b c d l m p q wr h1 h2 hq0 (by omega));clear h1 h2 hg;rw[rounds_succ]
   conv=>arg 2;whnf
   go_wp2_with fail;refine HD.o.mono ?_;rintro e w1 ⟨⟨a',c',r,a'',c'',r',rfl,hu1,hu2⟩,hb1⟩;go_wp2;exact ih q (p % q) b a'' d c'' m r' _ _ _ _ _ _ _ _ _ _ _ _ _ _ _ _ _ _ _ _ _ _ _ _ _ _ _ _ _ _ _ _ _ _ _ _ _ _ _ _ _ _ _ _ _ _ _ _ (by have:=Nat.mod_lt p hq0;omega) (H2.o.below hb1) hu2 hm (Nat.le_trans (hu2.len_mono H2.o (Nat.le_of_lt (Nat.mod_lt _ hq0))) hm) ((Qbw p q).trans HG.o) (hb.trans (hb1.mono hb.size))
theorem Qdd{l:List Nat}{x:Nat}(h:Num 4294967296 l x)(hl:l.length<=2):x<18446744073709551616:=by
 have e1:=Qaa (B:=4294967296) (by decide) h.small;have e2:=Qb1 (B:=4294967296) (by decide) hl;rw[h.eq] at e1;exact Nat.lt_of_lt_of_le e1 e2
theorem Qg7(a1 a2:Option Addr)(c1 c2:Nat)(l m:List Nat)(x y:Nat)(w:World)(h1:U32 w a1 c1 l x)(h2:U32 w a2 c2 m y)(hl:l.length<1099511627770)(hm:m.length<1099511627770):
 Calls prog 235 #[.slice a1 l.length c1,.slice a2 m.length c2] w fun e w'=>(∃a cap r,e=.returned (.slice a r.length cap)/\U32 w' a cap r (Nat.gcd x y))/\Below w.heap.size w w':=by
 obtain⟨g,hg⟩:=nm (Nat.gcd x y);rw[hg];go_enter func235,ntmps235;go_wp2;refine wp_loop_rounds (y+1) ?_;refine(Qmk _ w g 1099511627769 (by decide) ?hex y) x y a1 a2 c1 c2 l m _ _ _ _ _ _ _ _ _ _ _ _ _ _ _ _ _ _ _ _ _ _ _ _ _ _ _ _ _ _ _ _ _ _ _ _ _ _ _ _ _ _ _ _ _ _ _ _ lZ h1 h2 (by omega) (by omega) hg bR
 case hex=>
  intro p q a b c d l m s2 s3 s4 s5 s6 s7 s8 s9 s10 s11 s12 s13 s14 s15 s16 s17 s18 s19 s20 s21 s22 s23 s24 s25 s26 s27 s28 s29 s30 s31 s32 s33 s34 s35 s36 s37 s38 s39 s40 s41 s42 s43 s44 s45 s46 s47 s48 wr h1 h2 hl hm hg hb;by_cases hq:q=0
  .
   have hm0:((m.length:Int) == 0)=true:=by have:=(h2.num.len_zero (by decide)).1 hq;simp[this]
   obtain⟨HG,HQ⟩:=Ia hg hq;clear hg hq;go_wp2;go_ret;have e1:=HG.o;rw[HQ.o,Nat.gcd_zero_right] at e1;exact⟨⟨a,c,l,rfl,by rw[<-e1];exact h1⟩,hb⟩
  .
   have hm0:((m.length:Int) == 0)=false:=by
    rw[beq_eq_false_iff_ne];have:=(h2.num.len_zero (by decide)).2;omega
   by_cases hl2:l.length<=2
   .
    have hli:¬(2:Int)<(l.length:Int):=by omega
    obtain⟨HB,HG⟩:=Ia hb hg;clear hg;go_wp2_with fail;refine(Qbx a c l p _ h1 hl2).mono ?_;rintro e wp ⟨rfl,rfl⟩;go_wp2_with fail;refine(Qbx b d m q _ h2 hm).mono ?_;rintro e wq ⟨rfl,rfl⟩;have hpb:p<18446744073709551616:=Qdd h1.num hl2;have hqb:q<18446744073709551616:=Qdd h2.num hm;go_wp2;go_loopw [9,10] (fun X Y ws=>∃u v:Nat,X=.int .u64 u/\Y=.int .u64 v/\u<18446744073709551616/\v<18446744073709551616/\Nat.gcd u v=g/\Below w.heap.size w ws) (fun _ Y _=>(intOf Y).toNat)
    case atStart=>exact⟨p,q,rfl,rfl,hpb,hqb,HG.o,HB.o⟩
    case round=>
     obtain⟨u,v,rfl,rfl,hu,hv,hgg,hbb⟩:=hrel;have HG:=Hi hgg;clear hgg;by_cases hv0:v=0
     .
      subst hv0;go_wp2_with fail;refine(Qbk (u:Int) _ (by omega) (by omega)).mono ?_;rintro e w9 ⟨⟨a9,c9,r9,rfl,hu9,_⟩,hb9⟩;go_wp2;go_ret;have e1:=HG.o;rw[Nat.gcd_zero_right] at e1;rw[Int.toNat_natCast,e1] at hu9;exact⟨⟨a9,c9,r9,rfl,hu9⟩,hbb.trans (hb9.mono hbb.size)⟩
     .
      have hvi:(0:Int)<(v:Int):=by omega
      have qv:((v:Int) == 0)=false:=by rw[beq_eq_false_iff_ne];omega
      obtain⟨r,hr⟩:=nm (u % v);have t2:(u:Int) % (v:Int)=(r:Int):=by rw[<-hr];simp
      have t3:(u:Int).tmod (v:Int)=(r:Int):=by rw[Int.tmod_eq_emod_of_nonneg (by omega)];exact t2
      have hrv:r<v:=by rw[<-hr];exact Nat.mod_lt _ (by omega)
      have HR:=Hi hr;clear hr;go_wp2;go_region
      all_goals
       go_wp2;go_roundw
       case rel=>exact⟨v,r,rfl,rfl,hv,by omega,by rw[<-HR.o];exact(Qbw u v).trans HG.o,hbb.drew⟩
       case measure=>simp[intOf];omega
   .
    have hli:(2:Int)<(l.length:Int):=by omega
    obtain⟨HD,HB,HG⟩:=Ib (Qa9 a b c d l m p q wr h1 h2 (by omega) (by omega)) hb hg;clear hg;go_wp2_with fail;refine HD.o.mono ?_;rintro e w1 ⟨⟨a',c',r1,a'',c'',r',rfl,hu1,hu2⟩,hb1⟩;have h2':=h2.below hb1;have hr2:r'.length<=2:=Nat.le_trans (hu2.len_mono h2 (Nat.le_of_lt (Nat.mod_lt _ (by omega)))) hm;obtain⟨HB1,HG1⟩:=Ia (HB.o.trans (hb1.mono HB.o.size)) ((Qbw p q).trans HG.o);clear hb1 hu1 HD;go_wp2_with fail;refine(Qbx b d m q _ h2' hm).mono ?_;rintro e wp ⟨rfl,rfl⟩;go_wp2_with fail;refine(Qbx a'' c'' r' (p % q) _ hu2 hr2).mono ?_;rintro e wq ⟨rfl,rfl⟩;have hpb:q<18446744073709551616:=Qdd h2'.num hm;have hqb:(p % q)<18446744073709551616:=Qdd hu2.num hr2;go_wp2;go_loopw [9,10] (fun X Y ws=>∃u v:Nat,X=.int .u64 u/\Y=.int .u64 v/\u<18446744073709551616/\v<18446744073709551616/\Nat.gcd u v=g/\Below w.heap.size w ws) (fun _ Y _=>(intOf Y).toNat)
    case atStart=>exact⟨q,(p % q),rfl,rfl,hpb,hqb,HG1.o,HB1.o⟩
    case round=>
     obtain⟨u,v,rfl,rfl,hu,hv,hgg,hbb⟩:=hrel;have HG:=Hi hgg;clear hgg;by_cases hv0:v=0
     .
      subst hv0;go_wp2_with fail;refine(Qbk (u:Int) _ (by omega) (by omega)).mono ?_;rintro e w9 ⟨⟨a9,c9,r9,rfl,hu9,_⟩,hb9⟩;go_wp2;go_ret;have e1:=HG.o;rw[Nat.gcd_zero_right] at e1;rw[Int.toNat_natCast,e1] at hu9;exact⟨⟨a9,c9,r9,rfl,hu9⟩,hbb.trans (hb9.mono hbb.size)⟩
     .
      have hvi:(0:Int)<(v:Int):=by omega
      have qv:((v:Int) == 0)=false:=by rw[beq_eq_false_iff_ne];omega
      obtain⟨r,hr⟩:=nm (u % v);have t2:(u:Int) % (v:Int)=(r:Int):=by rw[<-hr];simp
      have t3:(u:Int).tmod (v:Int)=(r:Int):=by rw[Int.tmod_eq_emod_of_nonneg (by omega)];exact t2
      have hrv:r<v:=by rw[<-hr];exact Nat.mod_lt _ (by omega)
      have HR:=Hi hr;clear hr;go_wp2;go_region
      all_goals
       go_wp2;go_roundw
       case rel=>exact⟨v,r,rfl,rfl,hv,by omega,by rw[<-HR.o];exact(Qbw u v).trans HG.o,hbb.drew⟩
       case measure=>simp[intOf];omega
def SB(w:World)(b:Nat)(t:TypeId)(C:Array Value):Prop:=w.heap[b]?=some (.cells C t (0,0))
def NoInt(C:Array Value):Prop:=∀(i:Nat) (k:IntKind) (n:Int),C[i]?≠some (Value.int k n)
theorem SB.lt{w:World}{b:Nat}{t:TypeId}{C:Array Value}(h:SB w b t C):b<w.heap.size:=by
 apply bC;intro hc;unfold SB at h;rw[Array.getElem?_eq_none (by omega)] at h;cases h
theorem SB.cell{w:World}{b:Nat}{t:TypeId}{C:Array Value}(h:SB w b t C)(i:Nat):w.cell? ⟨b,i,none⟩=C[i]?:=by
 unfold SB at h;simp[World.cell?,h]
theorem SB.free{w:World}{b:Nat}{t:TypeId}{C:Array Value}(h:SB w b t C)(i:Nat):w.frozen? ⟨b,i,none⟩=false:=by
 unfold SB at h;simp[World.frozen?,h]
theorem SB.set{w:World}{b:Nat}{t:TypeId}{C:Array Value}(h:SB w b t C)(i:Nat)(v:Value):SB (w.setCell ⟨b,i,none⟩ v) b t (C.setIfInBounds i v):=by
 unfold SB at h ⊢;simp[World.setCell,Array.getElem?_modify,h]
theorem SB.alloc{w:World}{b:Nat}{t:TypeId}{C:Array Value}(h:SB w b t C)(o:Obj):SB (w.alloc o) b t C:=by
 have:=h.lt;unfold SB at h ⊢;rw[Below.heap_alloc _ _ _ this];exact h
theorem SB.new(w:World)(t:TypeId)(C:Array Value):SB (w.alloc (.cells C t)) w.heap.size t C:=by
 show (w.heap.push _)[w.heap.size]?=_
 simp
theorem SB.below{w w':World}{b B:Nat}{t:TypeId}{C:Array Value}(h:SB w b t C)(hb:Below B w w')(hB:b<B):SB w' b t C:=by
 unfold SB at h ⊢;rw[hb.block b hB];exact h
structure Only (b:Nat) (w w':World):Prop where
 os:w'.os=w.os
 tape:w'.tape=w.tape
 output:w'.output=w.output
 size:w.heap.size<=w'.heap.size
 block:∀k,k<w.heap.size->k≠b->w'.heap[k]?=w.heap[k]?
theorem Only.refl(b:Nat)(w:World):Only b w w:=⟨rfl,rfl,rfl,Nat.le_refl _,fun _ _ _=>rfl⟩
theorem Only.trans{b:Nat}{u v w:World}(h:Only b u v)(k:Only b v w):Only b u w:=
 ⟨k.os.trans h.os,k.tape.trans h.tape,k.output.trans h.output,Nat.le_trans h.size k.size,fun i hi hne=>(k.block i (by have:=h.size;omega) hne).trans (h.block i hi hne)⟩
theorem Only.of_below{b:Nat}{w w':World}(h:Below w.heap.size w w'):Only b w w':=⟨h.os,h.tape,h.output,h.size,fun k hk _=>h.block k hk⟩
theorem Only.setCell{b:Nat}{u w:World}(h:Only b u w)(i:Nat)(v:Value):Only b u (w.setCell ⟨b,i,none⟩ v):=
 ⟨h.os,h.tape,h.output,by have:=h.size;simpa [World.setCell] using this,fun k hk hne=>(Below.heap_setCell _ _ _ _ hne).trans (h.block k hk hne)⟩
theorem Only.drew{b:Nat}{u w:World}(h:Only b u w):Only b u w.drew:=⟨h.os,h.tape,h.output,h.size,h.block⟩
theorem Only.drewN{b:Nat}{u w:World}(h:Only b u w)(n:Nat):Only b u (w.drewN n):=⟨h.os,h.tape,h.output,h.size,h.block⟩
theorem Only.below{b B:Nat}{w w':World}(h:Only b w w')(hB:B<=b)(hw:B<=w.heap.size):Below B w w':=⟨h.os,h.tape,h.output,h.size,fun k hk=>h.block k (by omega) (by omega)⟩
theorem Only.fresh{b:Nat}{u w w':World}(h:Below u.heap.size u w)(k:Only b w w')(hb:u.heap.size<=b):Below u.heap.size u w':=
 h.trans (k.below hb h.size)
theorem SB.only{w w':World}{b c:Nat}{t:TypeId}{C:Array Value}(h:SB w b t C)(k:Only c w w')(hne:b≠c):SB w' b t C:=by
 have:=h.lt;unfold SB at h ⊢;rw[k.block b this hne];exact h
theorem Row.only{k:IntKind}{w w':World}{a:Option Addr}{cap:Nat}{l:List Nat}{b:Nat}{t:TypeId}{C:Array Value}(h:Row k w a cap l)(ho:Only b w w')(hs:SB w b t C)(hn:NoInt C):Row k w' a cap l:=by
 refine⟨h.fit,?_,fun i hi=>?_⟩
 .
  rcases h.shape with h1|⟨b',off,rfl,h2⟩
  . exact .inl h1
  . exact .inr ⟨b',off,rfl,by have:=ho.size;omega⟩
 .
  obtain⟨b',off,h1,h2,h3⟩:=h.cell i hi;have hne:b'≠b:=by
   rintro rfl;rw[hs.cell] at h3;exact hn _ _ _ h3
  exact⟨b',off,h1,by have:=ho.size;omega,(World.cell?_of_block (w:=w) (ho.block b' h2 hne)).trans h3⟩
theorem U32.only{w w':World}{a:Option Addr}{cap:Nat}{l:List Nat}{n b:Nat}{t:TypeId}{C:Array Value}(h:U32 w a cap l n)(ho:Only b w w')(hs:SB w b t C)(hn:NoInt C):U32 w' a cap l n:=
 ⟨h.row.only ho hs hn,h.num,h.short⟩
structure IntAt (w:World) (b o:Nat) (z:Int) (a:Option Addr) (cap:Nat) (l:List Nat):Prop where
 neg:w.cell? ⟨b,o,none⟩=some (.bool (decide (z<0)))
 abs:w.cell? ⟨b,o+1,none⟩=some (.slice a l.length cap)
 num:U32 w a cap l z.natAbs
 lt:b<w.heap.size
theorem IntAt.below{w w':World}{b o:Nat}{z:Int}{a:Option Addr}{cap:Nat}{l:List Nat}(h:IntAt w b o z a cap l)(hb:Below w.heap.size w w'):IntAt w' b o z a cap l:=
 ⟨ce hb h.lt h.neg,ce hb h.lt h.abs,h.num.below hb,by have:=h.lt;have:=hb.size;omega⟩
def putInt(C:Array Value)(o:Nat)(neg:Bool)(v:Value):Array Value:=(C.setIfInBounds (o+1) v).setIfInBounds o (.bool neg)
structure Laid (w w':World) (b o:Nat) (t:TypeId) (C:Array Value) (z:Int) (a:Option Addr) (cap:Nat) (l:List Nat):Prop where
 sb:SB w' b t (putInt C o (decide (z<0)) (.slice a l.length cap))
 num:U32 w' a cap l z.natAbs
 only:Only b w w'
theorem Laid.at{w w':World}{b o:Nat}{t:TypeId}{C:Array Value}{z:Int}{a:Option Addr}{cap:Nat}{l:List Nat}(h:Laid w w' b o t C z a cap l)(ho:o+1<C.size):IntAt w' b o z a cap l:=by
 refine⟨?_,?_,h.num,h.sb.lt⟩
 . have h2:o<C.size:=by omega
   rw[h.sb.cell];simp[putInt,h2]
 . rw[h.sb.cell];simp[putInt,ho]
def ZC(w:World)(b:Nat):List Value→Prop
 |[x0]=>w.cell? ⟨b,0,none⟩=some x0∧True
 |[x0,x1]=>w.cell? ⟨b,0,none⟩=some x0∧w.cell? ⟨b,1,none⟩=some x1∧True
 |[x0,x1,x2]=>w.cell? ⟨b,0,none⟩=some x0∧w.cell? ⟨b,1,none⟩=some x1∧w.cell? ⟨b,2,none⟩=some x2∧True
 |[x0,x1,x2,x3]=>w.cell? ⟨b,0,none⟩=some x0∧w.cell? ⟨b,1,none⟩=some x1∧w.cell? ⟨b,2,none⟩=some x2∧w.cell? ⟨b,3,none⟩=some x3∧True
 |[x0,x1,x2,x3,x4]=>w.cell? ⟨b,0,none⟩=some x0∧w.cell? ⟨b,1,none⟩=some x1∧w.cell? ⟨b,2,none⟩=some x2∧w.cell? ⟨b,3,none⟩=some x3∧w.cell? ⟨b,4,none⟩=some x4∧True
 |[x0,x1,x2,x3,x4,x5]=>w.cell? ⟨b,0,none⟩=some x0∧w.cell? ⟨b,1,none⟩=some x1∧w.cell? ⟨b,2,none⟩=some x2∧w.cell? ⟨b,3,none⟩=some x3∧w.cell? ⟨b,4,none⟩=some x4∧w.cell? ⟨b,5,none⟩=some x5∧True
 |_=>True
theorem zc{w:World}{b:Nat}{t:TypeId}{l:List Value}(h:SB w b t l.toArray):ZC w b l:=by
 unfold ZC
 split
 all_goals first|trivial|exact⟨h.cell 0,trivial⟩|exact⟨h.cell 0,h.cell 1,trivial⟩|exact⟨h.cell 0,h.cell 1,h.cell 2,trivial⟩|exact⟨h.cell 0,h.cell 1,h.cell 2,h.cell 3,trivial⟩|exact⟨h.cell 0,h.cell 1,h.cell 2,h.cell 3,h.cell 4,trivial⟩|exact⟨h.cell 0,h.cell 1,h.cell 2,h.cell 3,h.cell 4,h.cell 5,trivial⟩
theorem Ua{w W:World}{o:Obj}(h:w.alloc o=W):O (Below w.heap.size w W):=by rw[<-h];exact(Below.refl _ _).alloc (Nat.le_refl _) _
theorem Ub{w W:World}{o p:Obj}(h:(w.alloc o).alloc p=W):O (Below w.heap.size w W):=by rw[<-h];exact((Below.refl _ _).alloc (Nat.le_refl _) _).alloc (by simp) _
theorem Uc{w W:World}{t:TypeId}{C:Array Value}(h:w.alloc (.cells C t)=W):O (SB W w.heap.size t C):=by rw[<-h];exact SB.new w _ _
theorem Ud{w W:World}{t:TypeId}{C:Array Value}{o:Obj}(h:(w.alloc (.cells C t)).alloc o=W):O (SB W w.heap.size t C):=by rw[<-h];exact(SB.new w _ _).alloc _
theorem Ue{w W:World}{t:TypeId}{C:Array Value}{o:Obj}(h:(w.alloc o).alloc (.cells C t)=W):O (SB W (w.heap.size+1) t C):=Hi (by rw[<-h];have:=SB.new (w.alloc o) t C;simpa using this)
theorem Uf{w W:World}{B:Nat}{t:TypeId}{C:Array Value}(h:w.alloc (.cells C t)=W)(k:w.heap.size=B):O (SB W B t C):=k ▸ Uc h
theorem Ug{w W:World}{B:Nat}{t:TypeId}{C:Array Value}{o:Obj}(h:(w.alloc (.cells C t)).alloc o=W)(k:w.heap.size=B):O (SB W B t C):=k ▸ Ud h
theorem Uh{w W:World}{B:Nat}{t:TypeId}{C:Array Value}{o:Obj}(h:(w.alloc o).alloc (.cells C t)=W)(k:w.heap.size=B):O (SB W (B+1) t C):=k ▸ Ue h
theorem Qh2{C:Array Value}{i:Nat}(h:i<C.size):∃v,C[i]?=some v:=⟨C[i],by simp[h]⟩
theorem Qog(z:Int)(neg:Bool)(n:Nat)(hz:z=if neg then -(n:Int) else (n:Int)):decide (z<0)=(neg && decide (0<n)):=by
 subst hz;cases neg
 . simp
 .
  by_cases h:0<n
  . simp[h]
  .
   have:n=0:=by omega
   subst this;simp
theorem Qbp(b o:Nat)(t:TypeId)(C:Array Value)(neg:Bool)(a:Option Addr)(cap:Nat)(l:List Nat)(n:Nat)(z:Int)(w:World)(hs:SB w b t C)(hn:NoInt C)(ho:o+1<C.size)(hu:U32 w a cap l n)(hz:z=if neg then -(n:Int) else (n:Int)):
 Calls prog 174 #[.pointer (some ⟨b,o,none⟩),.bool neg,.slice a l.length cap] w fun e w'=>e=.returned (.pointer (some ⟨b,o,none⟩))/\Laid w w' b o t C z a cap l:=by
 obtain⟨v0,hv0⟩:=Qh2 (C:=C) (i:=o) (by omega);obtain⟨v1,hv1⟩:=Qh2 (C:=C) (i:=o+1) ho;have k0:=hs.cell o;have k1:=hs.cell (o+1);rw[hv0] at k0;rw[hv1] at k1;have f0:=hs.free o;have f1:=hs.free (o+1);have hzn:z.natAbs=n:=by rw[hz];split<;>omega
 have hsg:=Qog z neg n hz;have hlen:decide (0<n)=decide (0<l.length):=by
  have:=hu.num.len_zero (by decide);apply decide_eq_decide.2;omega
 obtain⟨HS,HZN,HSG⟩:=Ib hs hzn (hsg.trans (by rw[hlen]));clear hs hzn hsg hlen hz hv0 hv1;cases neg
 .
  go_enter func174,ntmps174;go_wp2;go_ret;have ho':Only b w ((w.setCell ⟨b,o+1,none⟩ (.slice a l.length cap)).setCell ⟨b,o,none⟩ (.bool false)):=((Only.refl b w).setCell _ _).setCell _ _;refine⟨rfl,⟨?_,?_,ho'⟩⟩
  . rw[HSG.o];exact(HS.o.set (o+1) _).set o _
  . rw[HZN.o];exact hu.only ho' HS.o hn
 .
  go_enter func174,ntmps174;go_wp2;go_ret;have ho':Only b w ((w.setCell ⟨b,o+1,none⟩ (.slice a l.length cap)).setCell ⟨b,o,none⟩ (.bool (decide (0<l.length)))):=((Only.refl b w).setCell _ _).setCell _ _;refine⟨rfl,⟨?_,?_,ho'⟩⟩
  . rw[HSG.o];exact(HS.o.set (o+1) _).set o _
  . rw[HZN.o];exact hu.only ho' HS.o hn
def LaidOk(w:World)(b o:Nat)(t:TypeId)(C:Array Value)(z:Int)(e:Ending)(w':World):Prop:=
 e=.returned (.pointer (some ⟨b,o,none⟩))/\∃a cap l,Laid w w' b o t C z a cap l
theorem LaidOk.of{w w1 w':World}{b o:Nat}{t:TypeId}{C:Array Value}{z:Int}{e:Ending}(h:Only b w w1)(k:LaidOk w1 b o t C z e w'):LaidOk w b o t C z e w':=by
 obtain⟨h1,a,cap,l,h2⟩:=k;exact⟨h1,a,cap,l,⟨h2.sb,h2.num,h.trans h2.only⟩⟩
theorem Qh3(b o:Nat)(t:TypeId)(C:Array Value)(z:Int)(w:World)(hs:SB w b t C)(hn:NoInt C)(ho:o+1<C.size)(h0:0<=z)(h1:z<1000000):
 Calls prog 175 #[.pointer (some ⟨b,o,none⟩),.int .i64 z] w (LaidOk w b o t C z):=by
 obtain⟨n,rfl⟩:=Int.eq_ofNat_of_zero_le h0;obtain⟨HS,HN⟩:=Ia hs hn;have hneg:¬((n:Int)<0):=by omega
 clear hs hn h0;go_enter func175,ntmps175;go_wp2_with fail;refine(Qbk (n:Int) _ (by omega) (by omega)).mono ?_;rintro e w1 ⟨⟨a,cap,l,rfl,hu,_⟩,hb⟩;rw[Int.toNat_natCast] at hu;go_wp2_with fail;refine(Qbp b o t C false a cap l n n w1 (HS.o.below hb HS.o.lt) HN.o ho hu (by simp)).mono ?_;rintro e w2 ⟨rfl,hl⟩;go_wp2;go_ret;exact LaidOk.of (Only.of_below hb) ⟨rfl,_,_,_,hl⟩
theorem Tryz.int_zero:NoInt #[Value.bool false,Value.slice none 0 0]:=by
 intro i k n
 match i with
 |0=>simp
 |1=>simp
 |i+2=>simp
def IntNew(w:World)(z:Int)(e:Ending)(w':World):Prop:=
 (∃b a cap l,e=.returned (.pointer (some ⟨b,0,none⟩))/\w.heap.size<=b/\SB w' b 114 #[.bool (decide (z<0)),.slice a l.length cap]/\U32 w' a cap l z.natAbs)/\Below w.heap.size w w'
theorem Qbq(z:Int)(w:World)(h0:0<=z)(h1:z<1000000):
 Calls prog 87 #[.int .i64 z] w (IntNew w z):=by
 go_enter func87,ntmps87;go_wp2_with fail;refine(Qh3 w.heap.size 0 114 _ z _ (SB.new w 114 _) Tryz.int_zero (by simp) h0 h1).mono ?_;rintro e w2 ⟨rfl,a,cap,l,hl⟩;go_wp2;go_ret;exact⟨⟨w.heap.size,a,cap,l,rfl,Nat.le_refl _,hl.sb,hl.num⟩,Only.fresh ((Below.refl _ w).alloc lZ _) hl.only lZ⟩
end Go.Proofs.YtjgofdclmcpopaaGreatDoor
