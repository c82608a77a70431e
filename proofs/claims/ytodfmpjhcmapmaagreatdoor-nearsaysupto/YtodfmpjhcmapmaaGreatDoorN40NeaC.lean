/- package num: raised: a number times a power of 2. -/
import Derived.Lib.ItoaNum
import Derived.Laws.FloatArith
import Derived.Test.YtodfmpjhcmapmaaGreatDoorN39NeaL
import Derived.Deep.AppendSrc
namespace Go.Proofs.YtodfmpjhcmapmaaGreatDoor
open Go.RowKit
set_option linter.unusedVariables false
set_option linter.unusedSimpArgs false
theorem nb_eq{n k:Nat}(h1:n<2 ^ k)(h2:2 ^ (k - 1)≤n)(hk:0<k):nb n=k:=by
 have a:=nb_le h1;have b:=Qao n;apply Classical.byContradiction;intro hc;have h3:nb n≤k - 1:=by omega
 have:=Qfy h3;omega
theorem Qha{t:Nat}(h0:t≠0)(h:t<18446744073709551616):Lib.bitLen t=nb t:=by
 obtain⟨h1,h2,h3⟩:=Lib.bitLenAux_bounds 64 t h h0;exact(nb_eq h3 h2 h1).symm
theorem Qm8{l:List Nat}{x:Nat}(h:Num 18446744073709551616 l x)(hl:0<l.length):nb x=64*(l.length - 1)+nb (l.getD (l.length - 1) 0)∧l.getD (l.length - 1) 0≠0∧l.getD (l.length - 1) 0<18446744073709551616:=by
 have ht:l.getD (l.length - 1) 0≠0:=by
  rcases h.trim with e|e
  · rw[e] at hl;simp at hl
  · exact e
 have hs:=h.small.getD (by decide) (l.length - 1);refine⟨?_,ht,hs⟩;have e1:=Qad 18446744073709551616 l (l.length - 1);rw[show l.length - 1+1=l.length by omega,List.take_length,h.eq] at e1;have h2:=Qaa (B:=18446744073709551616) (by decide) (show Small 18446744073709551616 (l.take (l.length - 1)) from fun d hd=>h.small d (List.mem_of_mem_take hd));rw[List.length_take,Nat.min_eq_left (by omega)] at h2;rw[show (18446744073709551616:Nat)=2 ^ 64 from rfl,←Nat.pow_mul] at h2 e1;have hb:=Qao (l.getD (l.length - 1) 0);have hp:=Qa3 (Nat.pos_of_ne_zero ht);have hlo:=Qbz (n:=l.getD (l.length - 1) 0) (k:=nb (l.getD (l.length - 1) 0) - 1) (by omega);generalize l.getD (l.length - 1) 0=t at*;generalize 64*(l.length - 1)=s at*;generalize val (2 ^ 64) (l.take (l.length - 1))=v at*;apply nb_eq
 ·
  have h4:2 ^ s*t+2 ^ s≤2 ^ s*2 ^ nb t:=by
   rw[←Nat.mul_succ];exact Nat.mul_le_mul_left _ hb
  rw[Nat.pow_add];omega
 ·
  rw[show s+nb t - 1=s+(nb t - 1) by omega,Nat.pow_add,e1];have:=Nat.mul_le_mul_left (2 ^ s) hlo;omega
 · omega
set_option maxHeartbeats 1000000 in
theorem Qhb(a:Option Addr)(c x:Nat)(l:List Nat)(w:World)(h:U64 w a c l x):
 Calls Tryz.prog 109 #[.slice a l.length c] w fun e w'=>e=.returned (.int .i64 (nb x))∧w'=w:=by
 have hs:=h.short;rcases Nat.eq_zero_or_pos l.length with hl|hl
 ·
  have hx:=(h.num.len_zero (by decide)).2 hl;subst hx;rw[hl];clear h hs hl;go_enter Tryz.func109,Tryz.ntmps109;go_wp2;go_ret;exact⟨rfl,rfl⟩
 ·
  obtain⟨h1,h2,h3⟩:=Qm8 h.num hl;obtain⟨b,o,rfl,hb1,hc1⟩:=h.row.cell (l.length - 1) (by omega);obtain⟨t,ht⟩:∃t,l.getD (l.length - 1) 0=t:=⟨_,rfl⟩;rw[ht] at h1 h2 h3 hc1;clear ht;obtain⟨n,hn⟩:∃n,l.length=n:=⟨_,rfl⟩;rw[hn] at h1 hc1 hl hs ⊢;have HL:=Hi (Qda (t:Int) w (by omega) (by omega));rw[Int.toNat_natCast,Qha h2 h3] at HL;have q1:((n:Int) == 0)=false:=by simp;omega
  have q2:(n:Int) - 1=((n - 1:Nat):Int):=by omega
  have HR:Hid ((n:Int)*64 - (64 - (nb t:Int))=(nb x:Int)):=Hi (by omega);have hnb:nb t≤64:=nb_le h3;have HH:=Hi h3;clear h h1 hn h2 h3;go_enter Tryz.func109,Tryz.ntmps109;go_wp2_with fail;refine HL.out.mono ?_;rintro e w2 ⟨rfl,rfl⟩;go_wp2;go_ret;exact⟨by rw[←HR.out];rfl,rfl⟩
structure RtI (N k r:Nat):Prop where
 div:∃m,r=2 ^ k*m
 lo:r*r≤N
 hi:N<(r+2 ^ k)*(r+2 ^ k)
 top:r+2 ^ k≤18446744073709551616
theorem RtI.start{N:Nat}(h:N<18446744073709551616*18446744073709551616):RtI N 64 0:=⟨⟨0,rfl⟩,Nat.zero_le _,by simpa using h,by decide⟩
theorem RtI.cand{N k r:Nat}(h:RtI N (k+1) r):bits .or .u64 (r:Int) ((2 ^ k:Nat):Int)=((r+2 ^ k:Nat):Int)∧r+2 ^ k<18446744073709551616:=by
 obtain⟨m,rfl⟩:=h.div;have ht:=h.top;have h2:2 ^ (k+1)=2*2 ^ k:=by rw[Nat.pow_succ,Nat.mul_comm]
 have h3:=Nat.two_pow_pos k;have h4:2 ^ (k+1)*m+2 ^ k<18446744073709551616:=by omega
 exact⟨or64 _ _ m (2 ^ k) (k+1) rfl rfl (by omega) h4,h4⟩
theorem RtI.yes{N k r:Nat}(h:RtI N (k+1) r)(hc:(r+2 ^ k)*(r+2 ^ k)≤N):RtI N k (r+2 ^ k):=by
 have h2:2 ^ (k+1)=2*2 ^ k:=by rw[Nat.pow_succ,Nat.mul_comm]
 obtain⟨m,rfl⟩:=h.div;refine⟨⟨2*m+1,?_⟩,hc,?_,?_⟩
 · rw[h2,Nat.mul_add,Nat.mul_one,Nat.mul_comm 2 (2 ^ k),Nat.mul_assoc]
 ·
  have:=h.hi;rw[h2] at this;rw[show 2 ^ (k+1)*m+2 ^ k+2 ^ k=2*2 ^ k*m+2*2 ^ k by rw[h2];omega];exact this
 · have:=h.top
   omega
theorem RtI.no{N k r:Nat}(h:RtI N (k+1) r)(hc:¬(r+2 ^ k)*(r+2 ^ k)≤N):RtI N k r:=by
 have h2:2 ^ (k+1)=2*2 ^ k:=by rw[Nat.pow_succ,Nat.mul_comm]
 obtain⟨m,rfl⟩:=h.div;refine⟨⟨2*m,?_⟩,h.lo,by omega,?_⟩
 · rw[h2,Nat.mul_comm 2 (2 ^ k),Nat.mul_assoc]
 ·
  have:=h.top;have:=Nat.two_pow_pos k;omega
theorem Qm9{h l x y B:Nat}(hl:l<B)(hy:y<B):l+B*h≤y+B*x↔(h<x∨(h=x∧l≤y)):=by
 constructor
 ·
  intro hh;rcases Nat.lt_trichotomy h x with h1|h1|h1
  · exact Or.inl h1
  · subst h1
    exact Or.inr ⟨rfl,by omega⟩
  ·
   have:=Nat.mul_le_mul_left B (show x+1≤h from h1);rw[Nat.mul_add,Nat.mul_one] at this;omega
 ·
  rintro(h1|⟨rfl,h1⟩)
  ·
   have:=Nat.mul_le_mul_left B (show h+1≤x from h1);rw[Nat.mul_add,Nat.mul_one] at this;omega
  · omega
set_option maxRecDepth 100000 in
set_option maxHeartbeats 4000000 in
theorem Qna(x y:Nat)(w:World)(hx:x<18446744073709551616)(hy:y<18446744073709551616):
 Calls Tryz.prog 112 #[.int .u64 x,.int .u64 y] w fun e w'=>(∃(r:Nat) (left:Bool),e=.returned (.tuple #[.int .u64 r,.bool left])∧r*r≤y+18446744073709551616*x∧y+18446744073709551616*x<(r+1)*(r+1)∧r<18446744073709551616∧(left=false↔r*r=y+18446744073709551616*x))∧w'=w:=by
 have HX:=Hi hx;have HY:=Hi hy;have HS:Hid (RtI (y+18446744073709551616*x) 64 0):=Hi (RtI.start (by
  have:=Nat.mul_le_mul_left 18446744073709551616 (show x+1≤18446744073709551616 from hx);rw[Nat.mul_add,Nat.mul_one] at this
  omega))
 obtain⟨N,hN⟩:∃N,y+18446744073709551616*x=N:=⟨_,rfl⟩;rw[hN] at HS;have HN:=Hi hN;rw[hN];clear hx hy hN;go_enter Tryz.func112,Tryz.ntmps112;go_wp2_with fail;go_loopw [6,4] (fun bv rv wr=>∃(k r b:Nat),k≤64∧rv=.int .u64 r∧bv=.int .u64 b∧RtI N k r∧(b=2 ^ k / 2)∧wr=w) (fun bv _ _=>(intOf bv).toNat)
 case atStart=>exact⟨64,0,9223372036854775808,Nat.le_refl _,rfl,rfl,HS.out,rfl,rfl⟩
 case round=>
  obtain⟨k,r,b,hk,rfl,rfl,hI,hb,rfl⟩:=hrel;have HI:=Hi hI;clear hI;cases k with
  |zero=>
   have hb0:b=0:=hb;subst hb0;clear hb hk;obtain⟨h,l,hh,hl,hhl,hmul⟩:=mul64 r r (by have:=HI.out.top;omega) (by have:=HI.out.top;omega);have HHL:=Hi hhl;have HL:=Hi (And.intro hh hl);have HM:=Hi hmul;clear hh hl hhl hmul;have HRES:Hid (r*r≤N∧N<(r+1)*(r+1)∧r<18446744073709551616):=Hi ⟨HI.out.lo,HI.out.hi,by have:=HI.out.top;omega⟩;by_cases hhx:h=x
   ·
    subst hhx;have HLE:Hid (((l:Int) != (y:Int))=false↔r*r=N):=Hi (by
     rw[←HHL.out,←HN.out,bne_eq_false_iff_eq]
     omega)
    go_wp2_with fail;refine(HM.out _).mono ?_;rintro e w2 ⟨rfl,rfl⟩;go_wp2;go_ret2;exact⟨⟨r,_,rfl,HRES.out.1,HRES.out.2.1,HRES.out.2.2,HLE.out⟩,rfl⟩
   ·
    have q1:((h:Int) != (x:Int))=true:=by simp;omega
    have HLE:Hid (¬r*r=N):=Hi (fun e=>by
     rw[←HHL.out,←HN.out] at e;have:=HL.out.2;have:=HY.out
     omega)
    clear hhx;go_wp2_with fail;refine(HM.out _).mono ?_;rintro e w2 ⟨rfl,rfl⟩;go_wp2;go_ret2;exact⟨⟨r,true,rfl,HRES.out.1,HRES.out.2.1,HRES.out.2.2,by simp[HLE.out]⟩,rfl⟩
  |succ k=>
   have hb1:b=2 ^ k:=by rw[hb,Nat.pow_succ,Nat.mul_div_cancel _ (by decide)]
   clear hb;obtain⟨ho,hlt⟩:=HI.out.cand;rw[←hb1] at ho hlt;have hb0:0<b:=by rw[hb1];exact Nat.two_pow_pos _
   have q0:((b:Int) == 0)=false:=by simp;omega
   obtain⟨c,hc⟩:∃c,r+b=c:=⟨_,rfl⟩;rw[hc] at ho hlt;obtain⟨h,l,hh,hl,hhl,hmul⟩:=mul64 c c hlt hlt;have HCC:Hid (c*c≤N↔(h<x∨(h=x∧l≤y))):=Hi (by rw[←hhl,←HN.out];exact Qm9 hl HY.out);have HYE:Hid (c*c≤N→RtI N k c):=Hi (fun h=>by
    rw[←hc,hb1] at h ⊢
    exact HI.out.yes h)
   have HNO:Hid (¬c*c≤N→RtI N k r):=Hi (fun h=>by
    rw[←hc,hb1] at h
    exact HI.out.no h)
   have HM:=Hi hmul;have HBE:Hid (b / 2=2 ^ k / 2):=Hi (by rw[hb1]);have q2:((b:Int) != 0)=true:=by simp;omega
   have HB2:Hid ((b:Int) / 2=((b / 2:Nat):Int)):=Hi (by omega);have HBL:Hid (b / 2<b):=Hi (by omega);clear hh hl hhl hmul hc hb1 hlt hb0;by_cases hcc:c*c≤N
   ·
    have HR:=Hi (HYE.out hcc);have hor:=HCC.out.1 hcc;clear hcc;rcases hor with h1|⟨rfl,h1⟩
    ·
     have q3:decide (h<x)=true:=by simpa using h1
     clear h1;go_wp2_with fail;refine(HM.out _).mono ?_;rintro e w2 ⟨rfl,rfl⟩;go_wp2;go_roundw
     case rel=>exact⟨k,_,b / 2,by omega,rfl,by rw[←HB2.out],HR.out,HBE.out,by first|rfl|trivial⟩
     case measure=>have:=HBL.out;simp[intOf];omega
    ·
     have q3:decide (l≤y)=true:=by simpa using h1
     clear h1;go_wp2_with fail;refine(HM.out _).mono ?_;rintro e w2 ⟨rfl,rfl⟩;go_wp2;go_roundw
     case rel=>exact⟨k,_,b / 2,by omega,rfl,by rw[←HB2.out],HR.out,HBE.out,by first|rfl|trivial⟩
     case measure=>have:=HBL.out;simp[intOf];omega
   ·
    have HR:=Hi (HNO.out hcc);have hor:¬(h<x∨(h=x∧l≤y)):=fun h=>hcc (HCC.out.2 h)
    clear hcc;have q3:decide (h<x)=false:=by simp;omega
    by_cases hx:h=x
    ·
     subst hx;have q4:decide (l≤y)=false:=by simp;omega
     clear hor;go_wp2_with fail;refine(HM.out _).mono ?_;rintro e w2 ⟨rfl,rfl⟩;go_wp2;go_roundw
     case rel=>exact⟨k,_,b / 2,by omega,rfl,by rw[←HB2.out],HR.out,HBE.out,by first|rfl|trivial⟩
     case measure=>have:=HBL.out;simp[intOf];omega
    ·
     have q4:((h:Int) == (x:Int))=false:=by simp;omega
     clear hor hx;go_wp2_with fail;refine(HM.out _).mono ?_;rintro e w2 ⟨rfl,rfl⟩;go_wp2;go_roundw
     case rel=>exact⟨k,_,b / 2,by omega,rfl,by rw[←HB2.out],HR.out,HBE.out,by first|rfl|trivial⟩
     case measure=>have:=HBL.out;simp[intOf];omega
theorem Qa9(x:Nat)(w:World):(callFunc 38 #[.float .f64 x]).run Tryz.prog w=.ok (.value (.int .u64 x)) w:=by
 rw[run_callFunc_extern (e:=Extern.MathFloatBits.float64bits) Tryz.func38 (by kernel_rfl) (by kernel_rfl) (by kernel_rfl) (by kernel_rfl)];rfl
theorem Qba(x:Nat)(w:World):(callFunc 79 #[.int .u64 x]).run Tryz.prog w=.ok (.value (.float .f64 x)) w:=by
 rw[run_callFunc_extern (e:=Extern.MathFloatBits.float64frombits) Tryz.func79 (by kernel_rfl) (by kernel_rfl) (by kernel_rfl) (by kernel_rfl)];rfl
set_option maxHeartbeats 400000 in
set_option maxRecDepth 100000 in
theorem m_abs(x:Nat)(w:World)(hx:bits .andNot .u64 (x:Int) 9223372036854775808=(x:Int)):Calls Tryz.prog 80 #[.float .f64 x] w fun e w'=>e=.returned (.float .f64 x)∧w'=w:=by
 have h1:=Qa9 x;have h2:=Qba x;go_enter Tryz.func80,Tryz.ntmps80;go_wp2;go_ret;exact⟨rfl,rfl⟩
def WB(n:Nat)(l:List Nat):Fact:=fun v w=>∃g,v=.slice (some ⟨g,0,none⟩) n n∧Blk .u64 81 w g l∧l.length=n
theorem WB.stays(n:Nat)(l:List Nat):Stays (WB n l):=fun _ _ _ hb ⟨g,e,h,k⟩=>⟨g,e,h.below hb h.lt,k⟩
def WR(n:Nat)(l:List Nat):Fact:=fun v w=>∃a c,v=.slice a n c∧Row .u64 w a c l∧l.length=n
theorem WR.stays(n:Nat)(l:List Nat):Stays (WR n l):=fun _ _ _ hb ⟨a,c,e,h,k⟩=>⟨a,c,e,h.below hb,k⟩
def NF(x:Nat):Fact:=fun v w=>∃a c l,v=.slice a (List.length l) c∧U64 w a c l x
theorem NF.stays(x:Nat):Stays (NF x):=fun _ _ _ hb ⟨a,c,l,e,h⟩=>⟨a,c,l,e,h.below hb⟩
def appS(P:Program)(t tx ty:TypeId)(vs vx:Value)(w:World):Result Value:=(Builtin.append_ #[t,tx] ty #[vs,vx]).run P w
@[go_sem ↓] theorem Qrz (ρ:Operand→Value) (dst:Option Tmp) (x y:Operand) (t tx ty:TypeId) (pos:String) (after:Array Go.Edge) (guard:Option (Nat × Bool)) (w:World):
   (execOp ρ { dst,op:=.call { callee:=.builtin .append,args:=#[x,y],argTypes:=#[t,tx] },type:=ty,pos,after,guard }).run Tryz.prog w=(appS Tryz.prog t tx ty (ρ x) (ρ y) w).andThen (fun v w'=>.ok (.value v) w'):=by
  have e:(#[x,y]:Array Operand).map ρ=#[ρ x,ρ y]:=by simp
  rw[BigFrame.execOp_builtin,BigFrame.builtin_append,e,Sem.run_bind]
  unfold appS
  simp only[Sem.run_pure]
theorem Qnb{w:World}{g g2 n m:Nat}{l rs:List Nat}(h1:Blk .u64 81 w g l)(hl:l.length=n)(h2:Blk .u64 81 w g2 rs)(hr:rs.length=m)(hm:0<m)(hb:n+m≤8589934592)(ty:TypeId):
 ∃cap w',appS Tryz.prog 60 59 ty (.slice (some ⟨g,0,none⟩) n n) (.slice (some ⟨g2,0,none⟩) m m) w=.ok (.slice (some ⟨w.heap.size,0,none⟩) (n+m) cap) w'∧Row .u64 w' (some ⟨w.heap.size,0,none⟩) cap (l++rs)∧Below w.heap.size w w':=by
 obtain⟨i,hi,hz,hsz,hby⟩:=Tryz.info64';have len:∀(k:List Nat),(k.map (fun x:Nat=>Value.int .u64 x)).length=k.length:=fun k=>List.length_map _
 have cell:∀(k:List Nat) (j:Nat) (u:Value),(k.map (fun x:Nat=>Value.int .u64 x))[j]?=some u→j<k.length∧u=.int .u64 ((k.getD j 0:Nat):Int):=fun k j u hj=>by
  rw[List.getElem?_map] at hj;obtain⟨x,h1,h2⟩:=Option.map_eq_some_iff.1 hj;refine⟨(List.getElem?_eq_some_iff.1 h1).1,?_⟩;rw[←h2,List.getD_eq_getElem?_getD,h1];rfl
 have hold:(Builtin.firstCells i.size n (.slice (some ⟨g,0,none⟩) n n)).run Tryz.prog w.drew=.ok (l.map (fun x:Nat=>Value.int .u64 x)).toArray w.drew:=by
  refine run_firstCells_some w.drew i.size n ⟨g,0,none⟩ n n _ (by rw[len,hl,hsz,Nat.mul_one]) (fun j u hj=>?_);obtain⟨h3,rfl⟩:=cell l j u hj;rw[Qch,Nat.zero_add];exact h1.cell j h3
 have hsrc:Src Tryz.prog i.size 59 (.slice (some ⟨g2,0,none⟩) m m) m (rs.map (fun x:Nat=>Value.int .u64 x)) w:=by
  refine Src.ofSlice w Tryz.underlying59 ⟨g2,0,none⟩ m m _ (by rw[len,hr,hsz,Nat.mul_one]) (fun j u hj=>?_) (fun u hu=>?_)
  ·
   obtain⟨h3,rfl⟩:=cell rs j u hj;rw[Qch,Nat.zero_add];exact h2.cell j h3
  · obtain⟨x,_,rfl⟩:=List.mem_map.1 hu
    rfl
 have hrun:=run_append_grow_src (P:=Tryz.prog) w 60 59 ty 81 i (.int .u64 0) Tryz.underlying60 hi hz (some ⟨g,0,none⟩) n n _ hold (.slice (some ⟨g2,0,none⟩) m m) m _ hsrc (by omega) (by omega) (growslice_fits (by omega) (by rw[hby];omega));refine⟨_,_,hrun,?_,((Below.refl _ _).drew).alloc (Nat.le_refl _) _⟩;have hge:=grownCap_ge w (n+m) n 81;generalize grownCap w (n+m) n 81=cap at*;have hnew:=SB.new w.drew 81 (((l.map (fun x:Nat=>Value.int .u64 x))++(rs.map (fun x:Nat=>Value.int .u64 x))).toArray++Builtin.zeroCells (Value.int .u64 0).cells (cap - (n+m)));refine⟨by rw[List.length_append,hl,hr];exact hge,.inr ⟨w.heap.size,0,rfl,hnew.lt⟩,fun j hj=>⟨w.heap.size,0,rfl,hnew.lt,?_⟩⟩;rw[Nat.zero_add];refine(hnew.cell j).trans ?_
 rw[←List.map_append,Array.getElem?_append_left (by simpa using hj),List.getElem?_toArray,List.getElem?_map,List.getElem?_eq_getElem hj,List.getD_eq_getElem?_getD,List.getElem?_eq_getElem hj];rfl
theorem Qnc(n s x:Nat):18446744073709551616 ^ n*(x*2 ^ s)=x*2 ^ (64*n+s):=by
 rw[show (18446744073709551616:Nat)=2 ^ 64 from rfl,←Nat.pow_mul,Nat.pow_add];generalize 2 ^ (64*n)=p;generalize 2 ^ s=q;rw[Nat.mul_left_comm]
def WBv(m X:Nat):Fact:=fun v w=>∃rs,WB m rs v w∧Small 18446744073709551616 rs∧val 18446744073709551616 rs=X
theorem WBv.stays(m X:Nat):Stays (WBv m X):=fun _ _ _ hb ⟨rs,h,k⟩=>⟨rs,WB.stays _ _ _ _ _ hb h,k⟩
def WRv(m X:Nat):Fact:=fun v w=>∃rs,WR m rs v w∧Small 18446744073709551616 rs∧val 18446744073709551616 rs=X
theorem WRv.stays(m X:Nat):Stays (WRv m X):=fun _ _ _ hb ⟨rs,h,k⟩=>⟨rs,WR.stays _ _ _ _ _ hb h,k⟩
theorem Qnd(n:Nat)(hn:n≤2199023255552)(w:World):
 (Instr.makeSlice 60 (.int .i64 n) (.int .i64 n)).run Tryz.prog w=.ok (.slice (some ⟨w.heap.size,0,none⟩) n n) (w.alloc (.cells (wordCells .u64 (zeros n)) 81)):=by
 rw[←Qci];exact Go.run_make_row' 60 81 (.int .u64 0) 8 Tryz.underlying60 Tryz.info64 rfl .i64 .i64 n (by omega) (by omega) w
set_option maxRecDepth 100000 in
set_option maxHeartbeats 4000000 in
theorem Qne{a:Option Addr}{c x B:Nat}{l:List Nat}{w:World}(h:U64 w a c l x)(hl:l.length≤1073741824)(hB:0<B)(hb:B≤68719476736):
 Calls Tryz.prog 111 #[.slice a l.length c,.int .i64 B] w (Makes w (NF (x*2 ^ B))):=by
 obtain⟨n,hn⟩:∃n,B / 64=n:=⟨_,rfl⟩;obtain⟨s,hs⟩:∃s,B % 64=s:=⟨_,rfl⟩;have hs64:s<64:=by omega
 have hn1:n≤1073741824:=by omega
 have HBE:Hid (x*2 ^ B=18446744073709551616 ^ n*(x*2 ^ s)):=Hi (by rw[Qnc,show 64*n+s=B by omega]);have q1:decide ((B:Int)≤0)=false:=by simp;omega
 have q1':decide (B=0)=false:=by simp;omega
 have q2:(B:Int).tdiv 64=(n:Int):=by rw[Int.tdiv_eq_ediv_of_nonneg (by omega)];omega
 have q3:(B:Int).tmod 64=(s:Int):=by rw[Int.tmod_eq_emod_of_nonneg (by omega)];omega
 rw[HBE.out];obtain⟨m,hm⟩:∃m,l.length=m:=⟨_,rfl⟩;have HM:=Hi hm;rw[hm] at hl ⊢;obtain⟨Y,hY⟩:∃Y,w.drew=Y:=⟨_,rfl⟩;have hby:Below w.heap.size w Y:=by rw[←hY];exact(Below.refl _ _).drew
 have HBY:=Hi hby;have HY:=Hi (h.below hby);have HYE:=Hi hY;have HSU:Hid (∀u,Below Y.heap.size Y u→Calls Tryz.prog 150 #[.slice a m c,.int .i64 s] u (Makes u (WBv (m+1) (x*2 ^ s)))):=Hi (fun u hb=>by
  have:=Qeo a c s l x u (HY.out.below hb) (by have:=HM.out;omega) hs64;rw[HM.out] at this;refine this.mono ?_;rintro e w' ⟨⟨rs,rfl,h1,h2,h3,h4⟩,h5⟩
  exact⟨_,rfl,h5,rs,⟨_,rfl,h1,h2⟩,h3,h4⟩)
 clear h hm hY hby hB;go_enter Tryz.func111,Tryz.ntmps111;go_wp2_with fail;refine RegG.bg 9 (fun j=>some (bif j == 8 then 4 else 11+j)) ?_;rw[HYE.out];refine RegG.pu (c:=?_) [] (fun w hb=>?_) ?_;rotate_left
 ·
  intro K hK;skip;go_simp;exact hK
 refine RegG.ca (φ:=WB n (zeros n)) [0] (WB.stays _ _) (fun w hb=>?_) ?_
 ·
  intro K hK;have hmk:=Qnd n (by omega) w;go_simp;exact hK _ _ ((Below.refl _ _).alloc (Nat.le_refl _) _) ⟨_,rfl,SB.new w _ _,Qac n⟩
 refine RegG.pu (c:=?_) [] (fun w hb=>?_) ?_;rotate_left
 ·
  intro K hK;skip;go_simp;exact hK
 refine RegG.pu (c:=?_) [] (fun w hb=>?_) ?_;rotate_left
 ·
  intro K hK;skip;go_simp;exact hK
 refine RegG.pu (c:=?_) [3] (fun w hb=>?_) ?_;rotate_left
 ·
  intro K hK;skip;go_simp;exact hK
 refine RegG.ca (φ:=WBv (m+1) (x*2 ^ s)) [2,4] (WBv.stays _ _) (fun w hb=>?_) ?_
 ·
  skip;intro K hK;go_simp;exact Makes.use (HSU.out _ hb) hK
 refine RegG.ca (φ:=WRv (n+(m+1)) (18446744073709551616 ^ n*(x*2 ^ s))) [1,5] (WRv.stays _ _) (fun w hb=>?_) ?_
 ·
  rintro v1 ⟨g1,rfl,hb1,hz1⟩ v5 ⟨rs,⟨g2,rfl,hb2,hl2⟩,hs2,hv2⟩ K hK;obtain⟨cap,w',hrun,hrow,hbel⟩:=Qnb hb1 hz1 hb2 hl2 (by omega) (by omega) 60;go_simp;refine hK _ _ hbel ⟨zeros n++rs,⟨_,_,rfl,hrow,by rw[List.length_append,hz1,hl2]⟩,?_,?_⟩
  ·
   intro d hd;rcases List.mem_append.1 hd with h|h
   · exact Qah _ _ (by decide) d h
   · exact hs2 d h
  · rw[Qbw,Qb4,hz1,hv2,Nat.zero_add]
 refine RegG.ca (φ:=NF (18446744073709551616 ^ n*(x*2 ^ s))) [6] (NF.stays _) (fun w hb=>?_) ?_
 ·
  rintro v6 ⟨rs,⟨a6,c6,rfl,hr6,hl6⟩,hs6,hv6⟩ K hK;have HT:=Hi (Qdj a6 c6 rs w hr6 (by omega));rw[hl6] at HT;have HR:=Hi hr6;have HS:=Hi hs6;have HVV:=Hi hv6;have HL:=Hi hl6;clear hr6 hs6 hv6 hl6;go_simp;refine HT.out.mono ?_;rintro e w7 ⟨⟨k,hk,rfl,hv,ht⟩,rfl⟩;refine hK _ _ (Below.refl _ _) ⟨a6,c6,rs.take k,?_,⟨?_,⟨fun d hd=>HS.out d (List.mem_of_mem_take hd),ht,hv.trans HVV.out⟩,?_⟩⟩
  · rw[List.length_take,Nat.min_eq_left (by rw[HL.out];exact hk)]
  · exact HR.out.take k (by rw[HL.out];exact hk)
  · rw[List.length_take,HL.out]
    omega
 refine RegG.ca (φ:=NF (18446744073709551616 ^ n*(x*2 ^ s))) [7] (NF.stays _) (fun w hb=>?_) ?_
 ·
  intro vq hq K hK;go_simp;exact hK _ _ (Below.refl _ _) hq
 refine RegG.fi (fun u9 hb=>?_);intro v1 _ v5 _ v6 _ v7 _ v8 h8;have HF:=Hi h8;have HB9:=Hi (HBY.out.trans (hb.mono HBY.out.size));clear h8 hb;go_wp2;go_ret;exact⟨_,rfl,HB9.out,HF.out⟩
set_option maxHeartbeats 1000000 in
theorem Qnf{a:Option Addr}{c x:Nat}{l:List Nat}{w:World}{B:Int}(h:U64 w a c l x)(hB:B≤0):
 Calls Tryz.prog 111 #[.slice a l.length c,.int .i64 B] w (Makes w (NF x)):=by
 have q1:decide (B≤0)=true:=by simpa using hB
 have H:=Hi h;clear h hB;go_enter Tryz.func111,Tryz.ntmps111;go_wp2;go_ret;exact⟨_,rfl,Below.refl _ _,a,c,l,rfl,H.out⟩
theorem Qhc{a:Option Addr}{c x:Nat}{l:List Nat}{w:World}{B:Int}(h:U64 w a c l x)(hl:l.length≤1073741824)(hb:B≤68719476736):
 Calls Tryz.prog 111 #[.slice a l.length c,.int .i64 B] w (Makes w (NF (x*2 ^ B.toNat))):=by
 by_cases hB:B≤0
 · rw[show B.toNat=0 by omega,Nat.pow_zero,Nat.mul_one]
   exact Qnf h hB
 ·
  have:=Qne (B:=B.toNat) h hl (by omega) (by omega);rw[show ((B.toNat:Nat):Int)=B by omega] at this;exact this
end Go.Proofs.YtodfmpjhcmapmaaGreatDoor
