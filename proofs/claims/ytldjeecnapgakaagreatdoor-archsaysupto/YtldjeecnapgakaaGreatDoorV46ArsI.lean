/- The reference's Range: its two lists of slopes, as they lie. -/
import Derived.Test.YtldjeecnapgakaaGreatDoorV45ArsC
namespace Go.Proofs.YtldjeecnapgakaaGreatDoor
open Go.RowKit
open Go.Proofs.Tryz
set_option linter.unusedSimpArgs false
set_option linter.unusedVariables false
set_option maxHeartbeats 8000000
set_option maxRecDepth 1000000
theorem Qgo:(prog.info? 23).map (fun i=>(i.zero,i.size,i.bytes))=some (some (.string ⟨#[]⟩),1,16):=by kernel_rfl
theorem Qlr(n:Nat)(hn:n<=1048576):∃MC:Array Value,MC.size=n+3/\∀w,(Instr.makeSlice 24 (.int .i64 0) (.int .i64 ((n:Int)+3))).run prog w=.ok (.slice (some ⟨w.heap.size,0,none⟩) 0 (n+3)) (w.alloc (.cells MC 23)):=by
 obtain⟨i,hi,h⟩:=Option.map_eq_some_iff.1 Qgo;simp only[Prod.mk.injEq] at h;obtain⟨hz,hs,hb⟩:=h;refine⟨madeCells (Value.cells (.string ⟨#[]⟩)) ((n+3)*1),by rw[size_madeCells];omega,fun w=>?_⟩;have:=run_make w 24 23 i _ underlying24 hi hz .i64 .i64 0 ((n:Int)+3) (by omega) (by omega) (by rw[hb];omega) (by omega);have e:((n:Int)+3).toNat=n+3:=by omega
 rw[e,hs] at this;exact this
theorem Qls(a:Option Addr)(cap:Nat)(es:List ByteArray)(m:ByteArray)(w:World)(hf:ARow tc w a cap es)(hn:es.length<=1048576):
 Calls prog 7 #[.slice a es.length cap,.string m] w fun e w'=>∃g,w.heap.size<=g/\e=.returned (.slice (some ⟨g,0,none⟩) es.length (es.length+3))/\ARow tc w' (some ⟨g,0,none⟩) (es.length+3) (es++ [m,m,m])/\Below w.heap.size w w':=by
 obtain⟨MC,hMC,hmk⟩:=Qlr es.length hn;obtain⟨i,hi,h⟩:=Option.map_eq_some_iff.1 Qgo;simp only[Prod.mk.injEq] at h;obtain⟨hz,hs,hb⟩:=h;have hxl:(es.flatMap tc).length=es.length*1:=Qdl (c:=tc) (sz:=1) (fun _=>rfl) es;have hx1:∀u∈ es.flatMap tc,u.oneCell'=true:=fun u hu=>by
  obtain⟨t,_,hu⟩:=List.mem_flatMap.1 hu;obtain rfl:=List.mem_singleton.1 hu;rfl
 obtain⟨W,hW⟩:=nm (w.alloc (.cells MC 23));have hbW:Below w.heap.size w W:=by rw[<-hW];exact(Below.refl _ _).alloc lZ _
 have hown:W.ownsRow w.heap.size 23 1 (.slice (some ⟨w.heap.size,0,none⟩) 0 (es.length+3)) 0 []:=by rw[<-hW];exact World.ownsRow_made w MC (es.length+3) lZ (by unfold maxLen;omega) (by rw[hMC];omega)
 obtain⟨w1,hr1,ho1,hg1⟩:=Qh8 (P:=prog) (cap:=cap) underlying24 hi hs (by decide) hown (hf.row.below hbW) hxl hx1 (by omega) 24;have hb1:Below w.heap.size w w1:=Below.ofGrown hbW hg1 hbW.size lZ;have hz1:w.heap.size<w1.heap.size:=by have:=hg1.size;rw[<-hW] at this;simp at this;omega
 obtain⟨X,hX⟩:=nm (w1.alloc (.cells #[.string m,.string m,.string m] 23));have hbX:Below w.heap.size w X:=by rw[<-hX];exact hb1.alloc hb1.size _
 have hsX:SB X w1.heap.size 23 #[.string m,.string m,.string m]:=by rw[<-hX];exact SB.new w1 _ _
 obtain⟨w2,hr2,ho2,hg2⟩:=run_append_fits (P:=prog) X w.heap.size 24 24 23 i 1 underlying24 hi hs w.heap.size es.length (es.length+3) (es.flatMap tc) (by rw[<-hX];exact ho1.alloc _) ⟨w1.heap.size,0,none⟩ 3 3 [.string m,.string m,.string m] rfl (fun j u hj=>by
  rw[Qe4,Nat.zero_add,hsX.cell]
  simpa using hj) (fun u hu=>by simp at hu;subst hu;rfl) lZ
 have hb2:Below w.heap.size w w2:=Below.ofGrown hbX hg2 hbX.size lZ;have happ1:appR prog 24 24 (.slice (some ⟨w.heap.size,0,none⟩) 0 (es.length+3)) (.slice a es.length cap) (w.alloc (.cells MC 23))=.ok (.slice (some ⟨w.heap.size,0,none⟩) es.length (es.length+3)) w1:=by rw[hW];exact hr1
 have happ2:appR prog 24 24 (.slice (some ⟨w.heap.size,0,none⟩) es.length (es.length+3)) (.slice (some ⟨w1.heap.size,0,none⟩) 3 3) (w1.alloc (.cells #[.string m,.string m,.string m] 23))=.ok (.slice (some ⟨w.heap.size,0,none⟩) (es.length+3) (es.length+3)) w2:=by rw[hX];exact hr2
 obtain⟨HO2,HB2⟩:=Ia ho2 hb2;clear hMC hi hz hs hb hxl hx1 hW hbW hown hr1 ho1 hg1 hb1 hX hbX hsX hr2 ho2 hg2 hb2 hf hz1;go_enter func7,ntmps7;go_wp2;go_ret;refine⟨_,Nat.le_refl _,rfl,⟨by simp,?_⟩,HB2.o⟩;rw[List.flatMap_append];exact Qic HO2.o
theorem Qlt(g:Nat)(a:Option Addr)(cap:Nat)(es:List ByteArray)(m:ByteArray)(w:World)(hl:ARow tc w (some ⟨g,0,none⟩) (es.length+3) (es++ [m,m,m]))(hf:ARow tc w a cap es)(hn:es.length<=1048576):
 Calls prog 14 #[.slice (some ⟨g,0,none⟩) es.length (es.length+3),.slice a es.length cap,.string m] w fun e w'=>e=.returned (.bool true)/\Below w.heap.size w w':=by
 obtain⟨HL,HF⟩:=Ia hl hf;clear hl hf;go_enter func14,ntmps14;go_wp2_with fail;go_loopw [17] (fun iv wr=>∃k:Nat,k<=es.length+3/\iv=.int .i64 k/\Below w.heap.size w wr) (fun iv _=>es.length+3 - (intOf iv).toNat)
 case atStart=>exact⟨0,by omega,rfl,Below.refl _ _⟩
 case round=>
  obtain⟨k,hk,rfl,hb⟩:=hrel;have HB:=Hi hb;clear hb;by_cases hlt3:k<es.length+3
  .
   obtain⟨f,hfk⟩:∃f,(es++ [m,m,m])[k]?=some f:=⟨_,gE (by simpa using hlt3)⟩;obtain⟨fb,off,hfa,hfb,c0⟩:=(HL.o.below HB.o).text hfk;simp only[Option.some.injEq,Addr.mk.injEq,and_true] at hfa;obtain⟨rfl,rfl⟩:=hfa;rw[Nat.zero_add] at c0;by_cases hkn:k<es.length
   .
    have hfk':es[k]?=some f:=by rw[List.getElem?_append_left hkn] at hfk;exact hfk
    obtain⟨ab,aoff,rfl,hab,d0⟩:=(HF.o.below HB.o).text hfk';have q1:((k:Int)<(es.length:Int)):=by omega
    have q2:decide (es.length<=k)=false:=by simpa using hkn
    clear hfk hfk';go_wp2;go_roundw
    case rel=>exact⟨k+1,by omega,by go_num,HB.o⟩
    case measure=>simp[intOf];omega
   .
    have hm:f=m:=by
     rw[List.getElem?_append_right (by omega)] at hfk;have h3:k - es.length=0∨k - es.length=1∨k - es.length=2:=by omega
     rcases h3 with h|h|h<;>rw[h] at hfk<;>exact(Option.some.inj hfk).symm
    subst hm;have q1:¬((k:Int)<(es.length:Int)):=by omega
    have q2:decide ((k:Int)<(es.length:Int))=false:=by simpa using q1
    have q3:decide (es.length<=k)=true:=by simp;omega
    clear hfk;go_wp2;go_roundw
    case rel=>exact⟨k+1,by omega,by go_num,HB.o⟩
    case measure=>simp[intOf];omega
  .
   obtain rfl:k=es.length+3:=by omega
   go_wp2;go_ret;exact⟨rfl,HB.o⟩
end Go.Proofs.YtldjeecnapgakaaGreatDoor
namespace Go.Proofs.YtldjeecnapgakaaGreatDoor
open Go.Proofs.Tryz
set_option linter.unusedSimpArgs false
set_option linter.unusedVariables false
set_option maxHeartbeats 8000000
set_option maxRecDepth 1000000
abbrev Bnd:=Rat × Rat
def Bnd.ok(b:Bnd)(h:Rat):Prop:=h*b.2<=b.1
structure RgI (bs:List Bnd) (least:Rat) (most:Option Rat) (ok:Bool):Prop where
 yes:ok=true->∀h,InR least most h↔0<=h/\∀b,b∈ bs->b.ok h
 no:ok=false->∃b,b∈ bs/\∀h,¬Bnd.ok b h
theorem RgI.begin:RgI [] 0 none true:=⟨fun _ h=>by unfold InR;simp,fun h=>by cases h⟩
theorem Qlu{c k h:Rat}(hk:k<0):c / k<=h↔h*k<=c:=by
 have e:c / k=(-c) / (-k):=by
  have h1:c / k*(-k)= -c:=by
   have:=Rat.div_mul_cancel (a:=c) (b:=k) (by grind);grind
  rw[<-h1,Rat.mul_div_cancel (by grind)]
 rw[e,Qfv (show 0< -k by grind)];constructor<;>intro h1<;>grind
theorem Qeh{bs:List Bnd}{b:Bnd}{h:Rat}:(∀x,x∈ bs++ [b]->x.ok h)↔(∀x,x∈ bs->x.ok h)/\b.ok h:=by
 simp only[List.mem_append,List.mem_singleton];constructor
 . intro h1;exact⟨fun x hx=>h1 x (Or.inl hx),h1 b (Or.inr rfl)⟩
 .
  rintro⟨h1,h2⟩ x (hx|rfl)
  . exact h1 x hx
  . exact h2
theorem RgI.zero{bs:List Bnd}{least:Rat}{most:Option Rat}{ok:Bool}{c:Rat}(h:RgI bs least most ok):RgI (bs++ [(c,0)]) least most (ok && decide (0<=c)):=by
 refine⟨fun ho x=>?_,fun ho=>?_⟩
 .
  rw[Bool.and_eq_true,decide_eq_true_eq] at ho;rw[Qeh,<-and_assoc,<-h.yes ho.1 x];exact⟨fun h1=>⟨h1,by show x*0<=c;rw[Rat.mul_zero];exact ho.2⟩,fun h1=>h1.1⟩
 .
  rw[Bool.and_eq_false_iff] at ho;rcases ho with ho|ho
  . obtain⟨b,hb,hn⟩:=h.no ho
    exact⟨b,List.mem_append_left _ hb,hn⟩
  . rw[decide_eq_false_iff_not] at ho
    exact⟨(c,0),by simp,fun x hx=>ho (by have:x*0<=c:=hx;rw[Rat.mul_zero] at this;exact this)⟩
theorem RgI.high{bs:List Bnd}{least:Rat}{most:Option Rat}{ok:Bool}{c k:Rat}(h:RgI bs least most ok)(hk:0<k):RgI (bs++ [(c,k)]) least (cutM most (c / k)) ok:=by
 refine⟨fun ho x=>?_,fun ho=>?_⟩
 . rw[Qeh,<-and_assoc,<-h.yes ho x,Qfw,Qa2 hk]
   exact Iff.rfl
 . obtain⟨b,hb,hn⟩:=h.no ho
   exact⟨b,List.mem_append_left _ hb,hn⟩
theorem RgI.low{bs:List Bnd}{least:Rat}{most:Option Rat}{ok:Bool}{c k:Rat}(h:RgI bs least most ok)(hk:k<0):RgI (bs++ [(c,k)]) (cutL least (c / k)) most ok:=by
 refine⟨fun ho x=>?_,fun ho=>?_⟩
 . rw[Qeh,<-and_assoc,<-h.yes ho x,Qfx,Qlu hk]
   exact Iff.rfl
 . obtain⟨b,hb,hn⟩:=h.no ho
   exact⟨b,List.mem_append_left _ hb,hn⟩
def fallF(vs:List V4)(i:Nat):Rat:=falTo (atF vs) (wtF vs) i (i - 1)
def loS(vs:List V4)(p:Nat × Nat):Bnd:=((loF vs p.2 - hiF vs p.1) / (atF vs p.2 - atF vs p.1),(fallF vs p.2 - fallF vs p.1) / (atF vs p.2 - atF vs p.1))
def hiS(vs:List V4)(p:Nat × Nat):Bnd:=((hiF vs p.2 - loF vs p.1) / (atF vs p.2 - atF vs p.1),(fallF vs p.2 - fallF vs p.1) / (atF vs p.2 - atF vs p.1))
def bdOf(vs:List V4)(a b:Nat × Nat):Bnd:=((hiS vs b).1 - (loS vs a).1,(loS vs a).2 - (hiS vs b).2)
theorem Qlv{vs:List V4}{bs:List Bnd}(h0:(archF vs).1=0)(hall:∀b,b∈ bs↔∃p q:Nat × Nat,(p.1<p.2/\p.2<vs.length)/\(q.1<q.2/\q.2<vs.length)/\b=bdOf vs p q)(h:Rat):(0<=h/\∀b,b∈ bs->Bnd.ok b h)↔HasLine vs h:=by
 obtain⟨h2,_⟩:=Qat h0;obtain⟨hr,_,hlh⟩:=Qa5 h0;unfold HasLine;rw[Qkg h2 hr hlh];refine and_congr_right (fun _=>⟨fun hh c d a b hcd hd hab hb=>?_,fun hh b hb=>?_⟩)
 . exact hh _ ((hall _).2 ⟨(c,d),(a,b),⟨hcd,hd⟩,⟨hab,hb⟩,rfl⟩)
 . obtain⟨p,q,hp,hq,rfl⟩:=(hall b).1 hb
   exact hh p.1 p.2 q.1 q.2 hp.1 hp.2 hq.1 hq.2
theorem Qgp(st m pa:Rat)(vs:List V4)(h:Rat)(i:Nat):lnV st m pa vs h i=lnAt (atF vs) (shp (atF vs) (wtF vs) h) (st - m*pa) m i:=by
 unfold lnV lnAt;grind
theorem Qgq{vs:List V4}{h st m pa:Rat}{y:Nat->Rat}(h0:(archF vs).1=0)(hy:∀i,i<vs.length->y i=lnV st m pa vs h i)(hf:fitsTo vs (lnV st m pa vs h) vs.length):stdTo vs h y vs.length vs.length:=by
 obtain⟨hr,_,_⟩:=Qa5 h0;intro i hi;refine⟨by rw[hy i hi];exact hf i hi,fun hi0 hi1=>?_⟩;obtain⟨j,rfl⟩:∃j,i=j+1:=⟨i - 1,by omega⟩;have:=Qki (n:=vs.length) (at':=atF vs) (w:=wtF vs) (y:=y) (h:=h) (s:=st - m*pa) (m:=m) hr (fun i hi=>by rw[hy i hi,Qgp]) j hi1;unfold slpY;rw[show j+1 - 1=j by omega];exact this
theorem Qlw{vs:List V4}{h:Rat}{z:Nat->Rat}(h0:(archF vs).1=0):stdTo vs h z vs.length vs.length↔goesTo (lnS vs h z) z vs.length/\fitsTo vs (lnS vs h z) vs.length:=by
 obtain⟨h2,_⟩:=Qat h0;obtain⟨hr,_,_⟩:=Qa5 h0;constructor
 .
  intro hs;obtain⟨s,m,hl⟩:=Qkh (n:=vs.length) (at':=atF vs) (w:=wtF vs) (y:=z) (h:=h) hr h2 (fun i hi=>by
   have:=(hs (i+1) (by omega)).2 (by omega) (by omega);unfold slpY at this;rw[show i+1 - 1=i by omega] at this
   exact this)
  have hz:∀i,i<vs.length->z i=lnV s m 0 vs h i:=fun i hi=>by
   rw[hl i hi,Qgp,show s - m*0=s by grind]
  have key:∀k,k<vs.length->lnS vs h z k=z k:=fun k hk=>by
   have e:=Qlf (st:=s) (m:=m) (pa:=0) (h:=h) h0 (k:=k);rw[<-hz k hk] at e;rw[<-e];unfold lnS;rw[hz 0 (by omega),hz 1 (by omega)]
  refine⟨fun k hk=>key k hk,fun k hk=>?_⟩;rw[key k hk];exact(hs k hk).1
 . rintro⟨hg,hf⟩
   exact Qgq h0 (fun i hi=>(hg i hi).symm) hf
open Go.RowKit
structure FAt (w:World) (g n:Nat) (ts:List RT):Prop where
 blk:SB w g 42 (ts.map ptrV++List.replicate (n - ts.length) (Value.pointer none)).toArray
 vs:RVs w ts
 le:ts.length<=n
section
variable {w w':World} {g n:Nat} {ts:List RT}
theorem FAt.below(h:FAt w g n ts)(hb:Below w.heap.size w w'):FAt w' g n ts:=⟨h.blk.below hb h.blk.lt,h.vs.below hb,h.le⟩
theorem FAt.pts(h:FAt w g n ts):∀u,u∈ (ts.map ptrV++List.replicate (n - ts.length) (Value.pointer none)).toArray.toList->IsPt u:=fun u hu=>by
 rcases List.mem_append.1 hu with hu|hu
 . exact Qi4 ts u hu
 . exact⟨none,(List.eq_of_mem_replicate hu)⟩
theorem FAt.at(h:FAt w g n ts){i:Nat}{t:RT}(hi:ts[i]?=some t):w.cell? ⟨g,i,none⟩=some (ptrV t):=by
 rw[h.blk.cell,List.getElem?_toArray,List.getElem?_append_left (by rw[List.length_map];exact(gZ hi).1),List.getElem?_map,hi];rfl
theorem FAt.num(h:FAt w g n ts){i:Nat}{t:RT}(hi:ts[i]?=some t):RF t.2.1 t.2.2 (.pointer (some ⟨t.1,0,none⟩)) w:=by
 obtain⟨v1,v2,v3⟩:=h.vs t (mO hi);exact⟨_,rfl,v1,v2,v3⟩
theorem FAt.nil(h:FAt w g n ts)(hk:ts.length<n):w.cell? ⟨g,ts.length,none⟩=some (.pointer none):=by
 rw[h.blk.cell,List.getElem?_toArray,List.getElem?_append_right (by simp),List.length_map,Nat.sub_self,List.getElem?_replicate,if_pos (by omega)]
theorem FAt.put(h:FAt w g n ts)(hk:ts.length<n){t:RT}(ht:RatVal w t.1 t.2.1/\Fits t.2.1 t.2.2/\0<t.2.2):FAt (w.setCell ⟨g,ts.length,none⟩ (ptrV t)) g n (ts++ [t])/\Only g w (w.setCell ⟨g,ts.length,none⟩ (ptrV t)):=by
 have ho:Only g w (w.setCell ⟨g,ts.length,none⟩ (ptrV t)):=(Only.refl g w).setCell _ _;have hf:=Fp.of_only ho h.blk h.pts;refine⟨⟨?_,fun u hu=>?_,by simp;omega⟩,ho⟩
 .
  have:=h.blk.set ts.length (ptrV t);have e:(ts.map ptrV++List.replicate (n - ts.length) (Value.pointer none)).toArray.setIfInBounds ts.length (ptrV t)=((ts++ [t]).map ptrV++List.replicate (n - (ts++ [t]).length) (Value.pointer none)).toArray:=by
   obtain⟨d,hd⟩:∃d,n - ts.length=d+1:=⟨n - ts.length - 1,by omega⟩;rw[List.setIfInBounds_toArray]
   congr 1
   rw[hd,List.replicate_succ,List.length_append,List.length_singleton,show n - (ts.length+1)=d by omega,List.map_append,List.append_assoc];rw[List.set_append_right _ _ (by simp),List.length_map,Nat.sub_self];rfl
  rw[<-e];exact this
 .
  rcases List.mem_append.1 hu with hu|hu
  . exact(h.vs.fp hf) u hu
  . obtain rfl:=List.mem_singleton.1 hu
    exact⟨ht.1.fp hf,ht.2⟩
theorem FAt.anew{s t:RT}(h:FAt w g n (ts++ [s]))(ht:RatVal w t.1 t.2.1/\Fits t.2.1 t.2.2/\0<t.2.2):FAt (w.setCell ⟨g,ts.length,none⟩ (ptrV t)) g n (ts++ [t])/\Only g w (w.setCell ⟨g,ts.length,none⟩ (ptrV t)):=by
 have ho:Only g w (w.setCell ⟨g,ts.length,none⟩ (ptrV t)):=(Only.refl g w).setCell _ _;have hf:=Fp.of_only ho h.blk h.pts;refine⟨⟨?_,fun u hu=>?_,by have:=h.le;simpa using this⟩,ho⟩
 .
  have:=h.blk.set ts.length (ptrV t);have e:((ts++ [s]).map ptrV++List.replicate (n - (ts++ [s]).length) (Value.pointer none)).toArray.setIfInBounds ts.length (ptrV t)=((ts++ [t]).map ptrV++List.replicate (n - (ts++ [t]).length) (Value.pointer none)).toArray:=by
   rw[List.setIfInBounds_toArray]
   congr 1
   simp only[List.length_append,List.length_singleton,List.map_append,List.map_cons,List.map_nil,List.append_assoc];rw[List.set_append_right _ _ (by simp),List.length_map,Nat.sub_self];rfl
  rw[<-e];exact this
 .
  rcases List.mem_append.1 hu with hu|hu
  . exact(h.vs.fp hf) u (List.mem_append_left _ hu)
  . obtain rfl:=List.mem_singleton.1 hu
    exact⟨ht.1.fp hf,ht.2⟩
end
abbrev SD:=RT × RT
def sdC(s:SD):List Value:=[ptrV s.1,ptrV s.2]
def sdR(s:SD):List RT:=[s.1,s.2]
theorem Ql1:(prog.info? 88).map (fun i=>(i.zero,i.size,i.bytes))=some (some (.agg #[.pointer none,.pointer none]),2,16):=by kernel_rfl
theorem Fp.grownS{w w':World}{B n sz:Nat}{e:TypeId}{v:Value}{xs:List Value}(hg:Grow w B e sz IsPt v n xs)(h:w.grownBy w' v.ownBlock):Fp w w':=by
 refine⟨h.size,fun b i u hu hk=>h.block b (World.block_lt_of_cell? _ _ hu) (fun e=>?_)⟩;obtain⟨C,hC,hK⟩:=hg.sb e.symm;rw[hC.cell] at hu;exact hk (hK u (mO (by rw[Array.getElem?_toList];exact hu)))
structure SGrow (w:World) (B:Nat) (v:Value) (sd:List SD):Prop where
 list:Grow w B 88 2 IsPt v sd.length (sd.flatMap sdC)
 vs:RVs w (sd.flatMap sdR)
section
variable {w w':World} {B:Nat} {v:Value} {sd:List SD}
theorem SGrow.below(h:SGrow w B v sd)(hb:Below w.heap.size w w'):SGrow w' B v sd:=⟨h.list.below hb,h.vs.below hb⟩
theorem SGrow.nil(w:World)(B:Nat):SGrow w B (.slice none 0 0) []:=⟨Grow.nil _ _ _ _ _,fun t ht=>by cases ht⟩
theorem SGrow.slice(h:SGrow w B v sd):∃a cap,v=.slice a sd.length cap:=by
 obtain⟨a,cap,e,_⟩:=h.list.slice;exact⟨a,cap,e⟩
theorem SGrow.at{a:Option Addr}{n cap i:Nat}{s:SD}(h:SGrow w B (.slice a n cap) sd)(hi:sd[i]?=some s):
 ∃g off,a=some ⟨g,off,none⟩/\g<w.heap.size/\w.cell? ⟨g,off+i*2,none⟩=some (ptrV s.1)/\w.cell? ⟨g,off+i*2+1,none⟩=some (ptrV s.2):=by
 obtain⟨a',cap',e,hc,hr,_⟩:=h.list.slice;cases e;obtain⟨b,off,h1,h2,h3⟩:=(show ARow sdC w a cap sd from ⟨hc,hr⟩).at (sz:=2) (fun _=>rfl) (by decide) hi;exact⟨b,off,h1,h2,h3 0 _ rfl,h3 1 _ rfl⟩
theorem SGrow.num(h:SGrow w B v sd){i:Nat}{s:SD}(hi:sd[i]?=some s):RF s.1.2.1 s.1.2.2 (.pointer (some ⟨s.1.1,0,none⟩)) w/\RF s.2.2.1 s.2.2.2 (.pointer (some ⟨s.2.1,0,none⟩)) w:=by
 have hm:=mO hi;obtain⟨v1,v2,v3⟩:=h.vs s.1 (List.mem_flatMap.2 ⟨s,hm,by simp[sdR]⟩);obtain⟨u1,u2,u3⟩:=h.vs s.2 (List.mem_flatMap.2 ⟨s,hm,by simp[sdR]⟩);exact⟨⟨_,rfl,v1,v2,v3⟩,⟨_,rfl,u1,u2,u3⟩⟩
theorem SGrow.app{nb c:Nat}{s:SD}(h:SGrow w B v sd)(hu:RVs w (sdR s))(hc:SB w nb 88 #[ptrV s.1,ptrV s.2])(hn:sd.length+1<=1048576)(hB:B<=w.heap.size)(ty:TypeId):
 ∃v' w',appR prog 86 ty v (.slice (some ⟨nb,0,none⟩) 1 c) w=.ok v' w'/\SGrow w' B v' (sd++ [s])/\Fp w w'/\w.grownBy w' v.ownBlock/\(v'.ownBlock=v.ownBlock∨v'.ownBlock=some w.heap.size):=by
 obtain⟨i,hi,hz⟩:=Option.map_eq_some_iff.1 Ql1;injection hz with z1 z2
 injection z2 with z2 z3
 obtain⟨v',w',h1,h2,h3,h4⟩:=h.list.app (P:=prog) (t:=86) (ty:=ty) underlying86 hi z1 z2 z3 rfl (by decide) (fun u hu=>⟨none,by simpa [Value.cells] using hu⟩) ⟨nb,0,none⟩ 1 c (sdC s) rfl (fun j u hj=>by
  rw[Qcf,hc.cell,Nat.zero_add,List.getElem?_toArray]
  exact hj) (fun u hu=>by simp[sdC] at hu;rcases hu with rfl|rfl<;>rfl) (fun u hu=>by simp[sdC] at hu;rcases hu with rfl|rfl<;>exact⟨_,rfl⟩) hn (by decide) hB
 have hf:=Fp.grownS h.list h3;refine⟨v',w',h1,⟨?_,fun t ht=>?_⟩,hf,h3,h4⟩
 . rw[List.length_append,List.flatMap_append,List.flatMap_singleton]
   exact h2
 .
  rw[List.flatMap_append,List.flatMap_singleton] at ht;rcases List.mem_append.1 ht with ht|ht
  . exact(h.vs.fp hf) t ht
  . exact(hu.fp hf) t ht
end
structure TwoS (w:World) (B:Nat) (lv hv:Value) (lo hi:List SD):Prop where
 a:SGrow w B lv lo
 b:SGrow w B hv hi
 ne:∀g,lv.ownBlock=some g->hv.ownBlock≠some g
section
variable {w w':World} {B:Nat} {lv hv:Value} {lo hi:List SD}
theorem TwoS.below(h:TwoS w B lv hv lo hi)(hb:Below w.heap.size w w'):TwoS w' B lv hv lo hi:=⟨h.a.below hb,h.b.below hb,h.ne⟩
theorem TwoS.nil(w:World)(B:Nat):TwoS w B (.slice none 0 0) (.slice none 0 0) [] []:=⟨SGrow.nil _ _,SGrow.nil _ _,fun g hg=>by simp[Value.ownBlock] at hg⟩
theorem TwoS.turn(h:TwoS w B lv hv lo hi):TwoS w B hv lv hi lo:=⟨h.b,h.a,fun g hg e=>h.ne g e hg⟩
theorem Ql2{w w':World}{B:Nat}{v:Value}(h:w.grownBy w' v.ownBlock)(hl:∀g,v.ownBlock=some g->B<=g)(hB:B<=w.heap.size):Below B w w':=
 ⟨h.os,h.tape,h.output,h.size,fun b hb=>h.block b (by omega) (fun e=>by have:=hl b e.symm;omega)⟩
theorem TwoS.app{nb c:Nat}{s:SD}(h:TwoS w B lv hv lo hi)(hu:RVs w (sdR s))(hc:SB w nb 88 #[ptrV s.1,ptrV s.2])(hn:lo.length+1<=1048576)(hB:B<=w.heap.size)(ty:TypeId):
 ∃v' w',appR prog 86 ty lv (.slice (some ⟨nb,0,none⟩) 1 c) w=.ok v' w'/\TwoS w' B v' hv (lo++ [s]) hi/\Fp w w'/\Below B w w':=by
 obtain⟨v',w',h1,h2,h3,h4,h5⟩:=h.a.app hu hc hn hB ty;refine⟨v',w',h1,⟨h2,⟨h.b.list.keep fun g hg=>h4.block g (h.b.list.lt hg).2 (fun e=>h.ne g e.symm hg),h.b.vs.fp h3⟩,fun g hg e=>?_⟩,h3,Ql2 h4 (fun g hg=>(h.a.list.lt hg).1) hB⟩;rcases h5 with h5|h5
 . exact h.ne g (by rw[<-h5];exact hg) e
 .
  rw[h5] at hg;have:=(h.b.list.lt e).2;injection hg with hg
  omega
end
theorem FAt.fp{w w':World}{g n B:Nat}{ts:List RT}(h:FAt w g n ts)(hb:Below B w w')(hg:g<B)(hf:Fp w w'):FAt w' g n ts:=⟨h.blk.below hb hg,h.vs.fp hf,h.le⟩
def SideV(f:Nat × Nat->Bnd)(K:Nat)(ps:List (Nat × Nat))(sd:List SD):Prop:=sd.length=ps.length/\∀(i:Nat) (s:SD) (p:Nat × Nat),sd[i]?=some s->ps[i]?=some p->s.1.2.1=(f p).1/\s.2.2.1=(f p).2/\s.1.2.2<=K/\s.2.2.2<=K
theorem SideV.nil(f:Nat × Nat->Bnd)(K:Nat):SideV f K [] []:=⟨rfl,fun i s p hs=>by simp at hs⟩
theorem SideV.snoc{f:Nat × Nat->Bnd}{K:Nat}{ps:List (Nat × Nat)}{sd:List SD}{p:Nat × Nat}{s:SD}(h:SideV f K ps sd)(h1:s.1.2.1=(f p).1)(h2:s.2.2.1=(f p).2)(h3:s.1.2.2<=K)(h4:s.2.2.2<=K):SideV f K (ps++ [p]) (sd++ [s]):=by
 refine⟨by simp[h.1],fun i s' p' hs hp=>?_⟩;rcases Nat.lt_or_ge i ps.length with hi|hi
 .
  rw[List.getElem?_append_left (by rw[h.1];exact hi)] at hs;rw[List.getElem?_append_left hi] at hp;exact h.2 i s' p' hs hp
 .
  have hil:=(gZ hp).1;rw[List.length_append] at hil;obtain rfl:i=ps.length:=by simp at hil;omega
  rw[List.getElem?_append_right lZ,Nat.sub_self] at hp;rw[List.getElem?_append_right (by rw[h.1];exact Nat.le_refl _),h.1,Nat.sub_self] at hs;cases hp;cases hs;exact⟨h1,h2,h3,h4⟩
def PrsO(n i:Nat)(ps:List (Nat × Nat)):Prop:=∀p,p∈ ps↔p.1<i/\p.1<p.2/\p.2<n
def PrsI(n i j:Nat)(ps:List (Nat × Nat)):Prop:=∀p,p∈ ps↔(p.1<i/\p.1<p.2/\p.2<n)∨(p.1=i/\i<p.2/\p.2<j)
theorem PrsO.zero(n:Nat):PrsO n 0 []:=fun p=>⟨fun h=>by simp at h,fun h=>by omega⟩
theorem PrsO.inner{n i:Nat}{ps:List (Nat × Nat)}(h:PrsO n i ps):PrsI n i (i+1) ps:=fun p=>by
 rw[h p];constructor
 . exact Or.inl
 .
  rintro(h|h)
  . exact h
  . omega
theorem PrsI.step{n i j:Nat}{ps:List (Nat × Nat)}(h:PrsI n i j ps)(hj:i<j):PrsI n i (j+1) (ps++ [(i,j)]):=fun p=>by
 rw[List.mem_append,List.mem_singleton,h p];constructor
 .
  rintro((h|h)|rfl)
  . exact Or.inl h
  . exact Or.inr (by omega)
  . exact Or.inr ⟨rfl,hj,by show j<j+1;omega⟩
 .
  rintro(h|h)
  . exact Or.inl (Or.inl h)
  .
   rcases Nat.lt_or_ge p.2 j with h2|h2
   . exact Or.inl (Or.inr (by omega))
   . exact Or.inr (Prod.ext h.1 (by show p.2=j;omega))
theorem PrsI.done{n i:Nat}{ps:List (Nat × Nat)}(h:PrsI n i n ps):PrsO n (i+1) ps:=fun p=>by
 rw[h p];constructor
 . rintro(h|h)<;>omega
 .
  intro h;rcases Nat.lt_or_ge p.1 i with h1|h1
  . exact Or.inl (by omega)
  . exact Or.inr (by omega)
def BsO(vs:List V4)(ps:List (Nat × Nat))(a:Nat)(bs:List Bnd):Prop:=∀b,b∈ bs↔∃(x y:Nat) (p q:Nat × Nat),x<a/\ps[x]?=some p/\ps[y]?=some q/\b=bdOf vs p q
def BsI(vs:List V4)(ps:List (Nat × Nat))(a c:Nat)(bs:List Bnd):Prop:=∀b,b∈ bs↔∃(x y:Nat) (p q:Nat × Nat),(x<a∨(x=a/\y<c))/\ps[x]?=some p/\ps[y]?=some q/\b=bdOf vs p q
theorem BsO.zero(vs:List V4)(ps:List (Nat × Nat)):BsO vs ps 0 []:=fun b=>⟨fun h=>by simp at h,fun ⟨x,y,p,q,h,_⟩=>by omega⟩
theorem BsO.inner{vs:List V4}{ps:List (Nat × Nat)}{a:Nat}{bs:List Bnd}(h:BsO vs ps a bs):BsI vs ps a 0 bs:=fun b=>by
 rw[h b];constructor
 . rintro⟨x,y,p,q,h1,h2⟩;exact⟨x,y,p,q,Or.inl h1,h2⟩
 . rintro⟨x,y,p,q,h1,h2⟩
   exact⟨x,y,p,q,by omega,h2⟩
theorem BsI.step{vs:List V4}{ps:List (Nat × Nat)}{a c:Nat}{bs:List Bnd}{p q:Nat × Nat}(h:BsI vs ps a c bs)(hp:ps[a]?=some p)(hq:ps[c]?=some q):BsI vs ps a (c+1) (bs++ [bdOf vs p q]):=fun b=>by
 rw[List.mem_append,List.mem_singleton,h b];constructor
 .
  rintro(⟨x,y,p',q',h1,h2⟩|rfl)
  . exact⟨x,y,p',q',by omega,h2⟩
  . exact⟨a,c,p,q,Or.inr ⟨rfl,Nat.lt_succ_self _⟩,hp,hq,rfl⟩
 .
  rintro⟨x,y,p',q',h1,h2,h3,h4⟩;by_cases hc:x=a/\y=c
  .
   obtain⟨rfl,rfl⟩:=hc;rw[hp] at h2;rw[hq] at h3;cases h2;cases h3;exact Or.inr h4
  . exact Or.inl ⟨x,y,p',q',by omega,h2,h3,h4⟩
theorem BsI.done{vs:List V4}{ps:List (Nat × Nat)}{a:Nat}{bs:List Bnd}(h:BsI vs ps a ps.length bs):BsO vs ps (a+1) bs:=fun b=>by
 rw[h b];constructor
 . rintro⟨x,y,p,q,h1,h2⟩;exact⟨x,y,p,q,by omega,h2⟩
 .
  rintro⟨x,y,p,q,h1,h2,h3,h4⟩;have:=(gZ h3).1;exact⟨x,y,p,q,by omega,h2,h3,h4⟩
theorem BsO.all{vs:List V4}{ps:List (Nat × Nat)}{bs:List Bnd}(h:BsO vs ps ps.length bs)(hp:PrsO vs.length vs.length ps):∀b,b∈ bs↔∃p q:Nat × Nat,(p.1<p.2/\p.2<vs.length)/\(q.1<q.2/\q.2<vs.length)/\b=bdOf vs p q:=fun b=>by
 rw[h b];constructor
 . rintro⟨x,y,p,q,_,h2,h3,h4⟩
   exact⟨p,q,((hp p).1 (mO h2)).2,((hp q).1 (mO h3)).2,h4⟩
 .
  rintro⟨p,q,h1,h2,h4⟩;obtain⟨x,hx⟩:=List.mem_iff_getElem?.1 ((hp p).2 ⟨by omega,h1⟩);obtain⟨y,hy⟩:=List.mem_iff_getElem?.1 ((hp q).2 ⟨by omega,h2⟩);exact⟨x,y,p,q,(gZ hx).1,hx,hy,h4⟩
theorem RF.fp{q:Rat}{k:Nat}{v:Value}{w w':World}(h:RF q k v w)(hf:Fp w w'):RF q k v w':=by
 obtain⟨b,e,r,f⟩:=h;exact⟨b,e,r.fp hf,f⟩
theorem RF.more{q:Rat}{k K:Nat}{v:Value}{w:World}(h:RF q k v w)(hk:k<=K):RF q K v w:=by
 obtain⟨b,e,r,f,p⟩:=h;exact⟨b,e,r,f.mono hk,by omega⟩
def MostV(m:Option Rat)(K:Nat)(v:Value)(w:World):Prop:=match m with
 |none=>v=.pointer none
 |some q=>RF q K v w
theorem MostV.below{m:Option Rat}{K:Nat}{v:Value}{w w':World}(h:MostV m K v w)(hb:Below w.heap.size w w'):MostV m K v w':=by
 cases m with
 |none=>exact h
 |some q=>exact RF.below h hb
theorem Ql3(q:Rat):sgn3 q.num=0↔q=0:=by
 have h1:=Qd6 q;have h2:=Qd7 q;constructor
 . intro h
   exact Rat.le_antisymm (h1.1 (by omega)) (h2.1 (by omega))
 .
  rintro rfl;have:=h1.2 Rat.le_refl;have:=h2.2 Rat.le_refl;omega
theorem Ql4(q:Rat):0<sgn3 q.num↔0<q:=by
 have h1:=Qd6 q;rw[<-Rat.not_le,<-h1];omega
def RangeSays(vs:List V4)(w:World)(e:Ending)(w':World):Prop:=
 ∃(lv mv:Value) (there:Bool) (l:Rat) (m:Option Rat),e=.returned (.tuple #[lv,mv,.bool there])/\RF l 1000000002 lv w'/\MostV m 1000000002 mv w'/\Below w.heap.size w w'/\
  ((there=true/\InR l m l/\∀h,InR l m h↔HasLine vs h)∨(there=false/\∀h,¬HasLine vs h))
theorem Ql5{vs:List V4}{ps:List (Nat × Nat)}{bs:List Bnd}{l:Rat}{m:Option Rat}{ok:Bool}(h0:(archF vs).1=0)(h:RgI bs l m ok)(hb:BsO vs ps ps.length bs)(hp:PrsO vs.length vs.length ps):(ok=true->∀h,InR l m h↔HasLine vs h)/\(ok=false->∀h,¬HasLine vs h):=by
 have hl:=Qlv h0 (hb.all hp);refine⟨fun ho x=>(h.yes ho x).trans (hl x),fun ho x hx=>?_⟩;obtain⟨b,hbm,hn⟩:=h.no ho;exact hn x (((hl x).2 hx).2 b hbm)
end Go.Proofs.YtldjeecnapgakaaGreatDoor
