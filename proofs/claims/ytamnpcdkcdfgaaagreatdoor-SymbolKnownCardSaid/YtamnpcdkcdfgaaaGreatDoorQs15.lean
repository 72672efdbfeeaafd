/- SymbolKnown holds. No condition. -/
import Derived.Test.YtamnpcdkcdfgaaaGreatDoorQs09
import Derived.Test.YtamnpcdkcdfgaaaGreatDoorQs14
set_option maxHeartbeats 4000000
set_option maxRecDepth 100000
namespace Go.Proofs.YtamnpcdkcdfgaaaGreatDoor
section
open Go.RowKit
open Ma Me
def Own(w:World)(base:Nat)(v:Value)(ds:List Nat):Prop:=w.ownsRow base 5 1 v ds.length (nums .u8 ds)
theorem aDO:(Tryz.prog.info? 5).map (fun i=>(i.zero,i.size,i.bytes))=some (some (.int .u8 0),1,1):=by kernel_rfl
theorem Own.form{w:World}{base:Nat}{v:Value}{ds:List Nat}(h:Own w base v ds):∃A c,v=.slice A ds.length c:=by
 rcases h.2 with⟨h1,h2⟩|⟨g,cap,cur,h1,_⟩
 ·exact⟨none,0,by rw[h1,h2]⟩
 ·exact⟨_,_,h1⟩
theorem Own.nil(w:World)(base:Nat):Own w base (.slice none 0 0) []:=World.ownsRow_nil w base _ 1
theorem Own.kept{w w':World}{base:Nat}{v:Value}{ds:List Nat}{r:Option Nat}(h:Own w base v ds)(hg:w.grownBy w' r)(hne:v.ownBlock=none∨v.ownBlock≠r):Own w' base v ds:=World.ownsRow.kept h hg hne
theorem Own.q{w w':World}{base:Nat}{v:Value}{ds:List Nat}(h:Own w base v ds)(hq:Q w w'):Own w' base v ds:=
 World.ownsRow.kept (row:=none) h ⟨hq.os,hq.tape,hq.output,hq.size,fun _ hk _=>hq.heap hk⟩ (by cases hv:v.ownBlock<;>simp)
theorem Own.lt{w:World}{base k:Nat}{v:Value}{ds:List Nat}(h:Own w base v ds)(hk:v.ownBlock=some k):base≤k∧k<w.heap.size:=World.ownsRow.lt h k hk
theorem Own.more{w:World}{base base':Nat}{v:Value}{ds:List Nat}(h:Own w base v ds)(hb:base'≤base):Own w base' v ds:=by
 refine⟨h.1,?_⟩;rcases h.2 with h2|⟨g,cap,cur,a,b,c⟩
 ·exact .inl h2
 ·exact .inr ⟨g,cap,cur,a,by omega,c⟩
theorem lH{w1:World}{ops:Array Oper}{rest:List Oper}{o:Oper}{a:Act}{Q:Exit→Act→World→Prop}(hgd:o.guard=none)(s x:Operand)(hop:o.op=Op.call {callee:=Callee.builtin Builtin.append,args:=#[s,x],argTypes:=#[211,211]})
  (base:Nat) (v:Value) (ds:List Nat) (hs:a.eval s=v) (hown:Own w1 base v ds) (y:Int) (d:Nat) (hy:y=(d:Int)) (hx:a.eval x=.slice (some ⟨w1.heap.size,0,none⟩) 1 1)
  (hl:ds.length+1≤70368744177664) (hb:base≤w1.heap.size)
  (hK:∀v' w',Own w' base v' (ds++[d])→w1.grownBy w' v.ownBlock→(v'.ownBlock=v.ownBlock∨∃k,v'.ownBlock=some k∧w1.heap.size≤k)→wpList Tryz.prog ops Q rest (a.put o.dst v') w'):
  wpList Tryz.prog ops Q (o::rest) a (w1.alloc (.cells #[.int .u8 y] 5)):=by
 subst hy;obtain⟨i0,hi0,hz0,hz1,hz2⟩:=info_parts aDO;refine aEI hgd s x _ hop base 5 i0 (.int .u8 0) 1 Tryz.underlying211 hi0 hz0 hz1 hz2 rfl v ds.length ds hs (World.ownsRow.alloc hown _) (w1.heap.size+1) (some ⟨w1.heap.size,0,none⟩) 1 1 [d] hx rfl
  ((Blk.new (κ:=.u8) w1 5 [d]).rd (Nat.lt_succ_self _)) (by unfold maxLen;omega) (by omega) (by simp;omega) ?_
 intro v' w' h1 h2 h3;refine hK v' w' ?_ ?_ ?_
 ·unfold Own;rw[List.length_append];exact h1
 ·refine World.grownBy.trans ?_ h2;exact⟨rfl,rfl,rfl,by simp,fun k hk _=>by exact Below.heap_alloc w1 _ k hk⟩
 ·rcases h3 with h3|h3
  ·exact Or.inl h3
  ·exact Or.inr ⟨_,h3,by simp⟩
theorem aIK(x:Value)(N:Nat)(w:World)(hx:Nm w x N)(hN:dg W64 N≤LIM)(h0:0<N):Calls Tryz.prog 243 #[x] w
  fun e w'=>∃cs:List Nat,e=.returned (.slice (some ⟨w.heap.size,0,none⟩) (dg W64 N) (dg W64 N))∧Blk .u64 w' w.heap.size 127 cs∧cs.length=dg W64 N∧(∀d∈cs,d<W64)∧vl W64 cs=N∧Q w w':=by
 obtain⟨A,c,xs,rfl,hc,rx,wx,rfl⟩:=hx;rw[←wx.len aD]at hN⊢;have hl0:xs.length≠0:=by
  intro h;rw[List.eq_nil_of_length_eq_zero h]at h0;simp[vl]at h0
 have h1:((xs.length:Int) == 0)=false:=beq_eq_false_iff_ne.2 (by omega);have hmk:=aGP xs.length (xs.length:Int) rfl hN;rw[aC]at hN;have hb:Blk .u64 (w.alloc (.cells (zs .u64 xs.length) 127)) w.heap.size 127 (List.replicate xs.length 0):=Blk.made _ _ _;have rx1:Rw (w.alloc (.cells (zs .u64 xs.length) 127)) A xs:=rx.q ((Q.refl _).alloc _);go_enter Tryz.func243,Tryz.ntmps243
 go_wp2_with (with_reducible refine eO rfl _ _ _ _ rfl 127 Tryz.underlying49 (by kernel_rfl) _ _ _ _ _ _ rfl rfl w.heap.size 0 127 (List.replicate xs.length 0) xs xs.length hb rx1 rfl (by omega) (fun _=>rfl) (by simp) ?_;intro w2 hb2 hg2)
 go_ret
 have e:(List.replicate xs.length 0).take 0++xs.take xs.length++(List.replicate xs.length 0).drop (0+xs.length)=xs:=by simp
 rw[e]at hb2;exact⟨xs,rfl,hb2,rfl,wx.1,rfl,Q.gr ((Q.refl _).alloc _) hg2 (Nat.le_refl _)⟩
theorem aGV(n:Nat)(e:Int)(he:e=(n:Int))(hn:n≤70368744177664)(w:World):
  ∃w',(Instr.makeSlice 211 (.int .i64 0) (.int .i64 e)).run Tryz.prog w=.ok (.slice (some ⟨w.heap.size,0,none⟩) 0 n) w'∧Own w' w.heap.size (.slice (some ⟨w.heap.size,0,none⟩) 0 n) []∧Q w w':=by
 subst he;obtain⟨i0,hi0,hz0,hz1,hz2⟩:=info_parts aDO;obtain⟨w',h1,h2,h3⟩:=run_make_own (P:=Tryz.prog) w w.heap.size 211 5 i0 (.int .u8 0) 1 Tryz.underlying211 hi0 hz0 hz1 .i64 .i64 n (by rw[hz2];omega) (by unfold maxLen;omega) (Nat.le_refl _);exact⟨w',h1,h2,Q.grown (Q.refl w) h3 (fun k e=>by cases e)⟩
def Lf(w:World)(gl L:Nat)(v:Value)(T:Nat):Prop:=
 (T=0∧v=.slice none 0 0)∨(0<T∧∃cs:List Nat,v=.slice (some ⟨gl,0,none⟩) (dg W64 T) L∧Blk .u64 w gl 127 cs∧dg W64 T≤cs.length∧cs.length≤L∧(∀d∈cs.take (dg W64 T),d<W64)∧vl W64 (cs.take (dg W64 T))=T)
theorem Lf.kept{w w':World}{gl L T:Nat}{v:Value}{r:Option Nat}(h:Lf w gl L v T)(hg:w.grownBy w' r)(hne:r≠some gl):Lf w' gl L v T:=by
 rcases h with h|⟨h0,cs,h1,h2,h3⟩
 ·exact Or.inl h
 ·refine Or.inr ⟨h0,cs,h1,?_,h3⟩;exact (hg.block gl h2.lt (fun e=>hne e.symm)).trans h2
theorem Lf.len{w:World}{gl L T:Nat}{v:Value}(h:Lf w gl L v T):∃A c,v=.slice A (dg W64 T) c:=by
 rcases h with⟨h0,h1⟩|⟨h0,cs,h1,_⟩
 ·subst h0;exact⟨none,0,by rw[h1,aZ]⟩
 ·exact⟨_,_,h1⟩
def bytes(l:List UInt8):List Nat:=l.map UInt8.toNat
theorem bC(l:List UInt8):(bytes l).length=l.length:=by simp[bytes]
theorem aE5(l:List UInt8)(c:UInt8):bytes (l++[c])=bytes l++[c.toNat]:=by simp[bytes]
theorem iF(l m:List UInt8):bytes (l++m)=bytes l++bytes m:=by simp[bytes]
structure Og (w w':World) (r:Option Nat) (v':Value):Prop where
 gr:w.grownBy w' r
 own:v'.ownBlock=r∨∃k,v'.ownBlock=some k∧w.heap.size≤k
theorem Og.start{w w':World}{v:Value}(hq:Q w w'):Og w w' v.ownBlock v:=⟨⟨hq.os,hq.tape,hq.output,hq.size,fun _ hk _=>hq.heap hk⟩,Or.inl rfl⟩
theorem Og.q{w w1 w2:World}{r:Option Nat}{v:Value}(h:Og w w1 r v)(hq:Q w1 w2):Og w w2 r v:=
 ⟨World.grownBy.trans h.gr ⟨hq.os,hq.tape,hq.output,hq.size,fun _ hk _=>hq.heap hk⟩,h.own⟩
theorem Og.step{w w1 w2:World}{r:Option Nat}{v v2:Value}(h:Og w w1 r v)(hg:w1.grownBy w2 v.ownBlock)(h2:v2.ownBlock=v.ownBlock∨∃k,v2.ownBlock=some k∧w1.heap.size≤k):Og w w2 r v2:=by
 have hs:w.heap.size≤w1.heap.size:=h.gr.size;refine⟨⟨hg.os.trans h.gr.os,hg.tape.trans h.gr.tape,hg.output.trans h.gr.output,Nat.le_trans hs hg.size,fun k hk hne=>?_⟩,?_⟩
 ·have hk1:some k≠v.ownBlock:=by
   rcases h.own with e|⟨j,e,hj⟩
   ·rw[e];exact hne
   ·rw[e];intro e2;injection e2 with e2;omega
  exact (hg.block k (Nat.lt_of_lt_of_le hk hs) hk1).trans (h.gr.block k hk hne)
 ·rcases h2 with e|⟨j,e,hj⟩
  ·rw[e];exact h.own
  ·exact Or.inr ⟨j,e,Nat.le_trans hs hj⟩
theorem aCl{v:Value}{r:Option Nat}(h:∀j,r=some j→v.ownBlock≠some j):v.ownBlock=none∨v.ownBlock≠r:=by
 cases hv:v.ownBlock with
 |none=>exact Or.inl rfl
 |some j=>exact Or.inr (fun e=>h j e.symm hv)
theorem aCm{w:World}{base:Nat}{v v2 ov:Value}{ds:List Nat}(h:∀j,ov.ownBlock=some j→v.ownBlock≠some j)(ho:Own w base v ds)(h2:v2.ownBlock=ov.ownBlock∨∃k,v2.ownBlock=some k∧w.heap.size≤k):
  ∀j,v2.ownBlock=some j→v.ownBlock≠some j:=by
 intro j e e2;rcases h2 with h2|⟨k,h2,hk⟩
 ·rw[h2]at e;exact h j e e2
 ·rw[h2]at e;injection e with e;have:=(ho.lt e2).2;omega
theorem wY{w:World}{base n c i:Nat}{A:Option Addr}{ds:List Nat}(h:Own w base (.slice A n c) ds)(hn:ds.length=n)(hi:i<n):∃g,A=some ⟨g,0,none⟩∧w.cell? ⟨g,i,none⟩=some (.int .u8 ((ds[i]'(by omega):Nat):Int)):=by
 unfold Own at h;rw[hn]at h;obtain⟨g,cap,e,_,_,_,_,_,rd⟩:=aJ9 h (by omega);injection e with e1 e2 e3;subst e1;obtain⟨ad,e4,_,hc⟩:=rd.at_ (k:=i) (by omega);injection e4 with e4;subst e4;rw[gL,Nat.zero_add]at hc;exact⟨g,rfl,hc⟩
theorem aIL{row:List UInt8}{n i:Nat}(hn:row.length=n)(hi:i<n):bytes (row.reverse.take (n-i))=bytes (row.reverse.take (n-(i+1)))++[(bytes row)[i]'(by rw[bC];omega)]:=by
 have e:n-i=n-(i+1)+1:=by omega
 rw[e,List.take_add_one,iF];congr 1;rw[List.getElem?_eq_getElem (by rw[List.length_reverse];omega)];simp only[Option.toList_some,bytes,List.map_cons,List.map_nil,List.getElem_map];congr 2;rw[List.getElem_reverse];congr 1;omega
theorem aC8(out x:Value)(os:List Nat)(N width base:Nat)(z:Int)(w:World)(ho:Own w base out os)(hx:Nm w x N)(hz:z=(width:Int))(hw:width=0∨N<10^width)(hsz:os.length+width+100*dg W64 N+1000≤1099511627776)(hbase:base≤w.heap.size)(hN0:0<N):
  Calls Tryz.prog 202 #[out,x,.int .i64 z] w fun e w'=>∃v,e=.returned v∧Own w' base v (os++bytes (dw width N))∧w.grownBy w' out.ownBlock∧(v.ownBlock=out.ownBlock∨∃k,v.ownBlock=some k∧w.heap.size≤k):=by
 subst hz;obtain⟨L,hL⟩:∃L,dg W64 N=L:=⟨_,rfl⟩
 obtain⟨A,c,rfl,hc⟩:=hx.parts;obtain⟨Ao,co,rfl⟩:=ho.form;have HL:=hZ hL;rw[hL]at hx hsz hc⊢;clear hL;go_enter Tryz.func202,Tryz.ntmps202
 go_wp2_with fail
 refine (aIK _ N _ hx (by rw[HL.out,aC];omega) hN0).mono ?_;rintro e w1 ⟨cs,rfl,hb1,lcs,hcs,hv,hq1⟩;rw[HL.out]at lcs⊢;obtain⟨w2,hmk,hown,hq2⟩:=aGV (20*L) (20*(L:Int)) (by omega) (by omega) w1;have hlf:Lf w2 w.heap.size L (.slice (some ⟨w.heap.size,0,none⟩) L L) N:=Or.inr ⟨hN0,cs,by rw[HL.out],hb1.q hq2,by rw[HL.out,lcs];exact Nat.le_refl _,by omega,aR hcs,by rw[HL.out,List.take_of_length_le (by omega)];exact hv⟩;have HLF:=hZ hlf;have hgl:=hb1.lt;have hq12:=hq1.trans hq2;have hs1:=hq1.size;clear hlf hb1 lcs hcs hv;go_wp2_with fail
 go_loopg [7,8] N (fun gk lv rv w3=>∃row:List UInt8,Lf w3 w.heap.size L lv gk∧Own w3 w1.heap.size rv (bytes row)∧Hid (Ma.Rw N gk row)∧Q w w3∧gk≤N∧w1.heap.size≤w3.heap.size)
 case atStart=>exact⟨[],HLF.out,hown,hZ (Ma.Rw.start N),hq12,Nat.le_refl _,hq2.size⟩
 case round=>
  obtain⟨row,hlf,hrow,hrw,hq,hgN,hbase3⟩:=hrel;have hrl:=hrw.out.len;have hdN:dg 10 N≤20*L:=by
   rw[aK (by decide)];have h1:=aX aD N;rw[HL.out]at h1;have h2:W64^L≤(10^20)^L:=Nat.pow_le_pow_left (by decide) L;rw[←Nat.pow_mul]at h2;omega
  have hrl':(bytes row).length≤20*L:=(by rw[bC];omega);rcases Nat.eq_zero_or_pos gk with hg0|hg0
  ·subst hg0;rcases hlf with⟨-,rfl⟩|⟨h0,_⟩
   case inr=>omega
   have hdone:=hrw.out.done;have hdw:=aFR hw;obtain⟨nr,hnr⟩:∃nr,(bytes row).length=nr:=⟨_,rfl⟩
   obtain⟨Ar,cr,rfl⟩:=hrow.form;rw[hnr]at hrl' hrow⊢;have hnrd:nr=dg 10 N:=by
    rw[←hnr,bC];have:=congrArg List.length hdone;rw[aBd,List.length_reverse]at this;exact this.symm
   have HNR:=hZ hnr;have HDW:Hid (dw width N=List.replicate (width-nr) 48++row.reverse):=hZ (by rw[hdw,←hdone,hnrd]);have hog:=Og.start (v:=.slice Ao os.length co) hq;have hon:=ho.q hq;have hdis:∀j,(Value.slice Ao os.length co).ownBlock=some j→(Value.slice Ar nr cr).ownBlock≠some j:=fun j e e2=>by
    have h1:=(ho.lt e).2;have h2:=(hrow.lt e2).1;omega
   have hbw:base≤wr.heap.size:=Nat.le_trans hbase hq.size;clear hnr hdone hdw hnrd hrw;generalize hro:(Value.slice Ao os.length co).ownBlock=ro at*
   go_wp2_with fail
   obtain⟨wo,rfl⟩:∃wo:World,wo=wr:=⟨_,rfl⟩
   go_loopw [0,11] (fun ov iv w5=>∃(i:Nat),iv=.int .i64 (i:Int)∧nr≤i∧i≤max nr width∧Own w5 base ov (os++bytes (List.replicate (i-nr) 48))∧Own w5 w1.heap.size (.slice Ar nr cr) (bytes row)∧Og w w5 ro ov∧
    (∀j,ov.ownBlock=some j→(Value.slice Ar nr cr).ownBlock≠some j)∧base≤w5.heap.size) (fun _ iv _=>max nr width-(intOf iv).toNat)
   case atStart=>exact⟨nr,rfl,by omega,by omega,by rw[Nat.sub_self];simp[bytes];exact hon,hrow,hog,by intro j e;rw[hro]at e;exact hdis j e,hbw⟩
   case round=>
    obtain⟨i,rfl,hi1,hi2,hon,hrow,hog,hdis,hbw⟩:=hrel;by_cases hlt:i<width
    ·have j1:(i:Int)<(width:Int):=(by omega);obtain⟨lo,hlo⟩:∃lo,(os++bytes (List.replicate (i-nr) 48)).length=lo:=⟨_,rfl⟩
     obtain⟨Av,cv,rfl⟩:=hon.form;have hlol:lo≤os.length+width:=(by rw[←hlo,List.length_append,bC,List.length_replicate];omega);rw[hlo]at hon hdis hog⊢;have HLO:=hZ hlo;clear hlo;go_wp2_with (at_builtin;go_loud (refine lH rfl _ _ rfl base _ (os++bytes (List.replicate (i-nr) 48)) rfl hon (48:Int) 48 rfl rfl (by rw[HLO.out];omega) hbw ?_);intro v7 w7 h71 h72 h73)
     have ho7:Own w7 base v7 (os++bytes (List.replicate (i+1-nr) 48)):=by
      rw[show i+1-nr=(i-nr)+1 by omega,List.replicate_succ',iF,←List.append_assoc];exact h71
     have hr7:=hrow.kept h72 (aCl hdis);have hg7:=hog.step h72 h73;have hd7:=aCm hdis hrow h73;have hb7:=Nat.le_trans hbw h72.size;exact⟨⟨i+1,congrArg (Value.int _) (by omega),by omega,by omega,ho7,hr7,hg7,hd7,hb7⟩,by simp[intOf];omega⟩
    ·have j1:¬(i:Int)<(width:Int):=(by omega);have hir:i-nr=width-nr:=(by omega);rw[hir]at hon;obtain⟨Av,cv,rfl⟩:=hon.form;have HIR:=hZ hir;clear hir;obtain⟨zs,hzs⟩:∃zs,os++bytes (List.replicate (width-nr) 48)=zs:=⟨_,rfl⟩
     rw[hzs]at hon hdis hog⊢;have hzl:zs.length≤os.length+width:=(by rw[←hzs,List.length_append,bC,List.length_replicate];omega);have HZS:=hZ hzs;clear hzs;have lrow:row.length=nr:=(by rw[←HNR.out,bC]);have LROW:=hZ lrow;clear lrow;go_wp2_with fail
     go_loopw [0,12] (fun ov iv w5=>∃(j:Nat),iv=.int .i64 ((j:Int)-1)∧j≤nr∧Own w5 base ov (zs++bytes (row.reverse.take (nr-j)))∧Own w5 w1.heap.size (.slice Ar nr cr) (bytes row)∧Og w w5 ro ov∧
      (∀j,ov.ownBlock=some j→(Value.slice Ar nr cr).ownBlock≠some j)∧base≤w5.heap.size) (fun _ iv _=>(intOf iv+1).toNat)
     case atStart=>exact⟨nr,rfl,Nat.le_refl _,by rw[Nat.sub_self];simp[bytes];exact hon,hrow,hog,hdis,hbw⟩
     case round=>
      obtain⟨j,rfl,hj,hon,hrow,hog,hdis,hbw⟩:=hrel;obtain⟨lo,hlo⟩:∃lo,(zs++bytes (row.reverse.take (nr-j))).length=lo:=⟨_,rfl⟩
      obtain⟨Av,cv,rfl⟩:=hon.form;have hlol:lo≤zs.length+nr:=(by rw[←hlo,List.length_append,bC,List.length_take];omega);rw[hlo]at hon hdis hog⊢;have HLO:=hZ hlo;clear hlo;by_cases hlt:0<j
      ·obtain⟨i,rfl⟩:∃i,j=i+1:=⟨j-1,by omega⟩
       rw[show ((i+1:Nat):Int)-1=(i:Int) from by omega];obtain⟨g,rfl,hcell⟩:=wY hrow HNR.out (i:=i) (by omega);have hrt:=aIL LROW.out (show i<nr by omega);generalize (bytes row)[i]'(by rw[HNR.out];omega)=d at hcell hrt;have HRT:=hZ hrt;clear hrt;go_wp2_with (at_builtin;go_loud (refine lH rfl _ _ rfl base _ (zs++bytes (row.reverse.take (nr-(i+1)))) rfl hon (d:Int) d rfl rfl (by rw[HLO.out];omega) hbw ?_);intro v7 w7 h71 h72 h73)
       have ho7:Own w7 base v7 (zs++bytes (row.reverse.take (nr-i))):=by
        rw[HRT.out,←List.append_assoc];exact h71
       have hr7:=hrow.kept h72 (aCl hdis);have hg7:=hog.step h72 h73;have hd7:=aCm hdis hrow h73;have hb7:=Nat.le_trans hbw h72.size;exact⟨⟨i,rfl,by omega,ho7,hr7,hg7,hd7,hb7⟩,by simp[intOf]⟩
      ·obtain rfl:j=0:=(by omega);rw[show ((0:Nat):Int)-1=-1 from by omega];have hfin:zs++bytes (row.reverse.take (nr-0))=os++bytes (dw width N):=by
        rw[Nat.sub_zero,List.take_of_length_le (by rw[List.length_reverse,LROW.out];exact Nat.le_refl _),HDW.out,iF,←List.append_assoc,HZS.out]
       rw[hfin]at hon;clear hfin;go_wp2_with fail
       go_ret
       exact⟨_,rfl,hon,by rw[hro];exact hog.gr,by rw[hro];exact hog.own⟩
  ·rcases hlf with⟨h0,_⟩|⟨_,cs,rfl,hb,hkc,hcL,hcs,hv⟩
   ·omega
   have hkN:dg W64 gk≤L:=(by rw[←HL.out];exact bK aD hgN);have hk0:0<dg W64 gk:=by
    rcases Nat.eq_zero_or_pos (dg W64 gk) with h|h
    ·have:=bO aD h;omega
    ·exact h
   obtain⟨k,hk⟩:∃k,dg W64 gk=k:=⟨_,rfl⟩
   rw[hk]at hkc hcs hv hkN hk0⊢;have HK:=hZ hk;clear hk;have lck:(cs.take k).length=k:=(by rw[List.length_take];omega);have so:Src wr w.heap.size 0 (some ⟨w.heap.size,0,none⟩) (cs.take k):=by
    have h:=Src.own (off:=0) (n:=k) hb
    rwa [List.drop_zero]at h
   have LCK:=hZ lck;have HV:=hZ hv;clear lck hv;go_wp2_with fail
   refine (kX (some ⟨w.heap.size,0,none⟩) (some ⟨w.heap.size,0,none⟩) k L k L w.heap.size 127 0 10000000000000000000 (cs.take k) cs _ hb LCK.out (by omega) (fun _=>rfl) (Nat.le_refl _) (by omega) (by omega) (by omega) so hcs (by decide) (by decide)).mono ?_;rintro e w4 ⟨o,rfl,lo,ho',hvo,hb4,hg4⟩;rw[HV.out]at hvo⊢;have hOn4:=hrow.kept hg4 (by
    right;intro e;have:=(hrow.lt e).1;omega)
   have hq4:=Q.gr hq hg4 (Nat.le_refl _);have e4:cs.take 0++o++cs.drop (0+k)=o++cs.drop k:=(by simp);rw[e4]at hb4;have rwo:Rw w4 (some ⟨w.heap.size,0,none⟩) o:=by
    have h:=Rw.part (off:=0) (n:=k) hb4
    rwa [List.drop_zero,List.take_append_of_le_length (by omega),List.take_of_length_le (by omega)]at h
   obtain⟨G,hG⟩:∃G,gk/10000000000000000000=G:=⟨_,rfl⟩
   obtain⟨p0,hp0⟩:∃p,gk % 10000000000000000000=p:=⟨_,rfl⟩
   rw[hG]at hvo;rw[hp0];have hp0l:p0<10^19:=(by rw[←hp0];exact Nat.lt_of_lt_of_eq (Nat.mod_lt _ (by decide)) (by decide));have hGk:G*10^19+p0=gk:=by
    rw[←hG,←hp0,show (10:Nat)^19=10000000000000000000 by decide,Nat.mul_comm];exact Nat.div_add_mod _ _
   have hGlt:G<gk:=(by rw[←hG];exact Nat.div_lt_self hg0 (by decide));have hlfG:Lf w4 w.heap.size L (gF (some ⟨w.heap.size,0,none⟩) L G) G:=by
    rcases Nat.eq_zero_or_pos G with h|h
    ·subst h;exact Or.inl ⟨rfl,yO⟩
    ·have hd:dg W64 G≤k:=(by rw[←HK.out];exact bK aD (Nat.le_of_lt hGlt));have ht:(o++cs.drop k).take (dg W64 G)=o.take (dg W64 G):=List.take_append_of_le_length (by omega);refine Or.inr ⟨h,o++cs.drop k,oU h,hb4,by rw[List.length_append];omega,by rw[List.length_append,List.length_drop];omega,by rw[ht];exact aR ho',?_⟩;rw[ht];have:=iW (b:=W64) (n:=dg W64 G) (xs:=o) (by omega) ho';rw[hvo,Nat.mod_eq_of_lt (aX aD G)]at this;exact this
   have hrwG:Hid (Ma.Rw N (G*10^19+p0) row):=(by rw[hGk];exact hrw);have HGL:=hZ hGlt;have hsz4:w1.heap.size≤w4.heap.size:=Nat.le_trans hbase3 hg4.size;clear hG hp0 hGk hGlt e4 hb4 hg4 so hb hcs;go_wp2_with fail
   refine (v_trimmed' (some ⟨w.heap.size,0,none⟩) L k G o _ lo (by omega) (by omega) rwo ho' hvo).mono ?_;rintro e w5 ⟨rfl,rfl⟩;generalize hvL:gF (some ⟨w.heap.size,0,none⟩) L G=vL at*
   clear hvL;obtain⟨A',c',rfl⟩:=hlfG.len;obtain⟨kG,hkG⟩:∃kG,dg W64 G=kG:=⟨_,rfl⟩
   have hG0:kG=0↔G=0:=by
    rw[←hkG];constructor
    ·intro h;exact bO aD h
    ·intro h;rw[h,aZ]
   have hkG63:kG≤L:=(by rw[←hkG];exact Nat.le_trans (bK aD (Nat.le_of_lt HGL.out)) (by rw[HK.out];exact hkN));rw[hkG]at hlfG⊢;clear hkG rwo lo ho' hvo;go_wp2_with fail
   go_loopw [8,9,10] (fun rv pv iv w6=>∃(i p:Nat) (row:List UInt8),i≤19∧iv=.int .i64 (i:Int)∧pv=.int .u64 (p:Int)∧Hid (p<10^(19-i))∧p<10000000000000000000∧Own w6 w1.heap.size rv (bytes row)∧Hid (Ma.Rw N (G*10^(19-i)+p) row)∧
    Lf w6 w.heap.size L (.slice A' kG c') G∧Q w w6∧w1.heap.size≤w6.heap.size) (fun _ _ iv _=>19-(intOf iv).toNat)
   case atStart=>exact⟨0,p0,row,by omega,rfl,rfl,hZ hp0l,by omega,hOn4,hrwG,hlfG,hq4,hsz4⟩
   case round=>
    obtain⟨i,p,row,hi,rfl,rfl,hpl,hp19,hrow,hrw,hlf,hq,hbase6⟩:=hrel;have hlen:(bytes row).length≤20*L:=(by have:=hrw.out.len;rw[bC];omega);have hfin:∀T,G*10^(19-i)+p=T→T=G→Hid (Ma.Rw N G row):=fun T h1 h2=>(by rw[←h2,←h1];exact hrw);rcases Nat.lt_or_ge i 19 with hlt|hge
    ·by_cases hbody:0<p∨0<kG
     ·obtain⟨m,hm⟩:∃m,p % 10=m:=⟨_,rfl⟩
      obtain⟨p',hp'⟩:∃m,p/10=m:=⟨_,rfl⟩
      have hm9:m<10:=(by omega);obtain⟨cd,hcd⟩:∃c,48+m=c:=⟨_,rfl⟩
      have j1:(p:Int) % 10=(m:Int):=(by omega);have j2:48+(m:Int)=(cd:Int):=(by omega);have j3:IntKind.u64.wrap (cd:Int)=(cd:Int):=aP (by omega);have j4:IntKind.u8.wrap (cd:Int)=(cd:Int):=(by rw[IntKind.wrap_u8];omega);have j5:(p:Int)/10=(p':Int):=(by omega);have hT:0<G*10^(19-i)+p:=by
       rcases hbody with h|h
       ·omega
       ·have hg:0<G:=by
         rcases Nat.eq_zero_or_pos G with h2|h2
         ·have:=hG0.2 h2;omega
         ·exact h2
        have:=Nat.mul_pos hg (show 0<10^(19-i) from Nat.pow_pos (by decide));omega
      have hst:=hrw.out.step hT;obtain⟨i',hi'⟩:∃i',19-i=i'+1:=⟨18-i,by omega⟩
      have hpl':=hpl.out;rw[hi']at hst hpl';obtain⟨t1,t2,t3⟩:=aHN (M:=G) hpl';rw[t1,t2,hm,hp']at hst;rw[hp']at t3;have HST:=hZ hst;have T3:=hZ t3;have HI':=hZ hi';have HCD:=hZ hcd;have hp19':p' <10000000000000000000:=(by omega);clear hm hp' hst t1 t2 t3 hT hi' hpl' hfin hcd;obtain⟨nr,hnr⟩:∃nr,(bytes row).length=nr:=⟨_,rfl⟩
      obtain⟨Ar,cr,rfl⟩:=hrow.form;rw[hnr]at hlen hrow⊢;have HNR:=hZ hnr;clear hnr;rcases Nat.eq_zero_or_pos p with hpz|hpz
      case' inl=>
       have k1:¬(0:Int)<(p:Int):=(by omega);have k1n:¬0<p:=(by omega);have k2:(0:Int)<(kG:Int):=(by omega);have k2n:0<kG:=(by omega);have HPZ:=hZ hpz
      case' inr=>
       have k1:(0:Int)<(p:Int):=(by omega);have HPZ:=hZ hpz
      all_goals
       clear hpz hbody;go_wp2_with (at_builtin;go_loud (refine lH rfl _ _ rfl w1.heap.size _ (bytes row) rfl hrow (cd:Int) cd rfl rfl (by rw[HNR.out];omega) hbase6 ?_);intro v7 w7 h71 h72 h73)
       have hrow7:Own w7 w1.heap.size v7 (bytes (row++[dig m])):=by
        rw[aE5,aAc hm9,HCD.out];exact h71
       have hnb:∀j,(Value.slice Ar nr cr).ownBlock=some j→w1.heap.size≤j:=fun j e=>(hrow.lt e).1;have hlf7:=hlf.kept h72 (fun e=>by have:=hnb _ e;omega);have hq7:=Q.grown hq h72 (fun j e=>by have:=hnb _ e;omega);have hsz7:=Nat.le_trans hbase6 h72.size;clear h71 h72 h73 hnb hrow hlf hq;go_wp2_with fail
       exact⟨⟨i+1,p',row++[dig m],by omega,congrArg (Value.int _) (by omega),rfl,hZ (by rw[show 19-(i+1)=i' by have:=HI'.out;omega];exact T3.out),hp19',hrow7,hZ (by rw[show 19-(i+1)=i' by have:=HI'.out;omega];exact HST.out),hlf7,hq7,hsz7⟩,by simp[intOf];omega⟩
     ·have hp0':p=0:=(by omega);have hkG0:kG=0:=(by omega);have hGz:=hG0.1 hkG0;have HR:=hZ (hfin _ rfl (by rw[hGz,hp0',Nat.zero_mul]));have k1:¬(0:Int)<(p:Int):=(by omega);have k1n:¬0<p:=(by omega);have k2:¬(0:Int)<(kG:Int):=(by omega);have k2n:¬0<kG:=(by omega);obtain⟨Ar,cr,rfl⟩:=hrow.form;clear hp0' hkG0 hGz hbody hfin hG0;go_wp2_with fail
      go_roundg G
      case measure=>exact HGL.out
      case rel=>exact⟨row,by have h:=hlf;exact h,hrow,HR.out,hq,by have:=HGL.out;omega,hbase6⟩
    ·obtain rfl:i=19:=(by omega);have hpz:p=0:=(by have:=hpl.out;simp at this;omega);have HR:=hZ (hfin _ rfl (by rw[hpz];simp));have k1:¬((19:Nat):Int)<19:=(by omega);obtain⟨Ar,cr,rfl⟩:=hrow.form;clear hpz hfin;go_wp2_with fail
     go_roundg G
     case measure=>exact HGL.out
     case rel=>exact⟨row,hlf,hrow,HR.out,hq,by have:=HGL.out;omega,hbase6⟩
theorem aCn(out x:Value)(os:List Nat)(width base:Nat)(z:Int)(w:World)(ho:Own w base out os)(hx:Nm w x 0)(hz:z=(width:Int))(hsz:os.length+width+1000≤1099511627776)(hbase:base≤w.heap.size):
  Calls Tryz.prog 202 #[out,x,.int .i64 z] w fun e w'=>∃v,e=.returned v∧Own w' base v (os++bytes (dw width 0))∧w.grownBy w' out.ownBlock∧(v.ownBlock=out.ownBlock∨∃k,v.ownBlock=some k∧w.heap.size≤k):=by
 subst hz;obtain⟨A,c,rfl,hc⟩:=hx.parts;obtain⟨Ao,co,rfl⟩:=ho.form;have hdw:dw width 0=List.replicate width 48:=by
  have hp:0<10^width:=Nat.pow_pos (by decide);have h:=aFR (w:=width) (N:=0) (Or.inr hp);rw[h,aZ,sV];simp
 have HDW:=hZ hdw;clear hdw;rw[aZ]at hx hc⊢;go_enter Tryz.func202,Tryz.ntmps202
 go_wp2_with fail
 refine (vS _ 0 _ hx (by rw[aZ,aC];omega)).mono ?_;rintro e w1 ⟨lv,rfl,hlv,hq1,-⟩;obtain⟨A1,c1,rfl,hc1⟩:=hlv.parts;rw[aZ]at hc1⊢;obtain⟨w2,hmk,hown,hq2⟩:=aGV 0 0 rfl (by omega) w1;have hq12:=hq1.trans hq2;have hs1:=hq1.size;have hog:=Og.start (v:=.slice Ao os.length co) hq12;have hon:=ho.q hq12;have hbw:base≤w2.heap.size:=Nat.le_trans hbase hq12.size;generalize hro:(Value.slice Ao os.length co).ownBlock=ro at*
 go_wp2_with fail
 go_loopw [7,8] (fun lv rv w3=>lv=.slice A1 0 c1∧rv=.slice (some ⟨w1.heap.size,0,none⟩) 0 0∧w3=w2) (fun _ _ _=>0)
 case atStart=>exact⟨rfl,rfl,rfl⟩
 case round=>
  obtain⟨rfl,rfl,rfl⟩:=hrel;go_wp2_with fail
  go_loopw [0,11] (fun ov iv w5=>∃(i:Nat),iv=.int .i64 (i:Int)∧i≤width∧Own w5 base ov (os++bytes (List.replicate i 48))∧Og w w5 ro ov∧base≤w5.heap.size) (fun _ iv _=>width-(intOf iv).toNat)
  case atStart=>exact⟨0,rfl,by omega,by simp[bytes];exact hon,hog,hbw⟩
  case round=>
   obtain⟨i,rfl,hi2,hon,hog,hbw⟩:=hrel;obtain⟨lo,hlo⟩:∃lo,(os++bytes (List.replicate i 48)).length=lo:=⟨_,rfl⟩
   obtain⟨Av,cv,rfl⟩:=hon.form;have hlol:lo≤os.length+width:=(by rw[←hlo,List.length_append,bC,List.length_replicate];omega);rw[hlo]at hon hog⊢;have HLO:=hZ hlo;clear hlo;by_cases hlt:i<width
   ·have j1:(i:Int)<(width:Int):=(by omega);go_wp2_with (at_builtin;go_loud (refine lH rfl _ _ rfl base _ (os++bytes (List.replicate i 48)) rfl hon (48:Int) 48 rfl rfl (by rw[HLO.out];omega) hbw ?_);intro v7 w7 h71 h72 h73)
    have ho7:Own w7 base v7 (os++bytes (List.replicate (i+1) 48)):=by
     rw[List.replicate_succ',iF,←List.append_assoc];exact h71
    have hg7:=hog.step h72 h73;have hb7:=Nat.le_trans hbw h72.size;exact⟨⟨i+1,congrArg (Value.int _) (by omega),by omega,ho7,hg7,hb7⟩,by simp[intOf];omega⟩
   ·obtain rfl:i=width:=(by omega);have j1:¬(i:Int)<(i:Int):=(by omega);rw[←HDW.out]at hon;go_wp2_with fail
    go_loopw [0,12] (fun ov iv w6=>ov=.slice Av lo cv∧iv=.int .i64 (-1)∧w6=wr) (fun _ _ _=>0)
    case atStart=>exact⟨rfl,rfl,rfl⟩
    case round=>
     obtain⟨rfl,rfl,rfl⟩:=hrel;go_wp2_with fail
     go_ret
     exact⟨_,rfl,hon,by rw[hro];exact hog.gr,by rw[hro];exact hog.own⟩
theorem aOu(out x:Value)(os:List Nat)(N width base:Nat)(z:Int)(w:World)(ho:Own w base out os)(hx:Nm w x N)(hz:z=(width:Int))(hw:width=0∨N<10^width)(hsz:os.length+width+100*dg W64 N+1000≤1099511627776)(hbase:base≤w.heap.size):
  Calls Tryz.prog 202 #[out,x,.int .i64 z] w fun e w'=>∃v,e=.returned v∧Own w' base v (os++bytes (dw width N))∧Og w w' out.ownBlock v:=by
 rcases Nat.eq_zero_or_pos N with h|h
 ·subst h;refine (aCn out x os width base z w ho hx hz (by omega) hbase).mono ?_;rintro e w' ⟨v,h1,h2,h3,h4⟩;exact⟨v,h1,h2,h3,h4⟩
 ·refine (aC8 out x os N width base z w ho hx hz hw hsz hbase h).mono ?_;rintro e w' ⟨v,h1,h2,h3,h4⟩;exact⟨v,h1,h2,h3,h4⟩
def Us(w:World)(v:Value)(n:Nat):Prop:=∃A c,v=.slice A n c∧n≤c∧∀i,i<n→∃g u,A=some ⟨g,0,none⟩∧g<w.heap.size∧w.cell? ⟨g,i,none⟩=some u∧Nm w u (10^(304*2^i))
theorem Us.q{w w':World}{v:Value}{n:Nat}(h:Us w v n)(hq:Q w w'):Us w' v n:=by
 obtain⟨A,c,h1,h2,h3⟩:=h;refine⟨A,c,h1,h2,fun i hi=>?_⟩;obtain⟨g,u,k1,k2,k3,k4⟩:=h3 i hi;exact⟨g,u,k1,Nat.lt_of_lt_of_le k2 hq.size,(hq.cell (p:=⟨g,i,none⟩) k2).trans k3,k4.q hq⟩
theorem Us.pre{w:World}{A:Option Addr}{n c:Nat}(h:Us w (.slice A (n+1) c) (n+1)):Us w (.slice A n c) n:=by
 obtain⟨A',c',h1,h2,h3⟩:=h;injection h1 with e1 e2 e3;subst e1 e3;exact⟨A,c,rfl,by omega,fun i hi=>h3 i (by omega)⟩
theorem Me.Nm.og{w w':World}{r:Option Nat}{v:Value}{N:Nat}(h:Nm w v N)(hg:w.grownBy w' r)(hne:∀g,v.ownBlock=some g→r≠some g):Nm w' v N:=by
 obtain⟨A,c,ws,rfl,h2,h3,h4,h5⟩:=h;refine⟨A,c,ws,rfl,h2,fun hn=>?_,h4,h5⟩;obtain⟨b,o,rfl,hb,hc⟩:=h3 hn;refine⟨b,o,rfl,Nat.lt_of_lt_of_le hb hg.size,fun j d hd=>?_⟩;have hh:w'.heap[b]? =w.heap[b]? :=hg.block b hb (fun e=>hne b rfl e.symm);have:=hc j d hd;unfold World.cell? at this⊢;rw[hh];exact this
theorem aIM{w w':World}{base:Nat}{r:Option Nat}(hg:w.grownBy w' r)(hr:∀k,r=some k→base≤k)(hb:base≤w.heap.size):Below base w w':=
 ⟨hg.os,hg.tape,hg.output,hg.size,fun k hk=>hg.block k (by omega) (fun e=>by have:=hr k e.symm;omega)⟩
theorem aK0{w w':World}{base:Nat}(hq:Q w w')(hb:base≤w.heap.size):Below base w w':=⟨hq.os,hq.tape,hq.output,hq.size,fun k hk=>hq.heap (by omega)⟩
theorem zS(n:Nat):∀(out x us:Value) (os:List Nat) (N width base:Nat) (z:Int) (w:World),Own w base out os→Nm w x N→(∀w',Below base w w'→Us w' us n)→z=(width:Int)→(width=0∨width=304*2^n)→(width=0∨N<10^width)→n≤40→os.length+(dw width N).length≤549755813888→100*dg W64 N+4*(304*2^n)≤274877906944→base≤w.heap.size→
  Calls Tryz.prog 131 #[out,x,.int .i64 z,us] w fun e w'=>∃v,e=.returned v∧Own w' base v (os++bytes (dw width N))∧Og w w' out.ownBlock v:=by
 induction n with
 |zero=>
  intro out x us os N width base z w ho hx hu hz hw hwN hn hlen hD hbase;subst hz;obtain⟨A,c,rfl,hc,-⟩:=hu w (Below.refl _ _);clear hu;go_enter Tryz.func131,Tryz.ntmps131
  go_wp2_with fail
  refine (aOu out x os N width base _ _ ho hx rfl hwN (by omega) hbase).mono ?_;rintro e w' ⟨v,rfl,hv,hog⟩;go_wp2_with fail
  go_ret
  exact⟨v,rfl,hv,hog⟩
 |succ n ih=>
  intro out x us os N width base z w ho hx hu hz hw hwN hn hlen hD hbase;subst hz;obtain⟨K,hK⟩:∃K,304*2^n=K:=⟨_,rfl⟩
  have hK2:304*2^(n+1)=K+K:=(by rw[Nat.pow_succ,←hK];omega);have hK0:0<K:=(by rw[←hK];exact Nat.mul_pos (by decide) (Nat.pow_pos (by decide)));rw[hK2]at hw hD;obtain⟨A,c,rfl,hc,hcell⟩:=hu w (Below.refl _ _);obtain⟨g,u,rfl,hg,hcu,hnu⟩:=hcell n (by omega);rw[hK]at hnu;clear hcell;have hpre:∀w',Below base w w'→Us w' (.slice (some ⟨g,0,none⟩) n c) n:=fun w' h=>(hu w' h).pre;have hU0:0<10^K:=Nat.pow_pos (by decide);have hdU:dg W64 (10^K)≤K+1:=by
    rw[aK aD];exact Nat.lt_of_le_of_lt (Nat.pow_le_pow_left (by decide) K) (Nat.pow_lt_pow_right aD (by omega))
  have hsp:=fun h=>aHM (N:=N) hK0 hw h;have hwN1:width-K=0∨N/10^K<10^(width-K):=by
    rcases hw with h2|h2
    ·left;clear hwN;omega
    ·rcases hwN with h|h
     ·left;omega
     ·right;rw[h2,show K+K-K=K from Nat.add_sub_cancel K K,Nat.div_lt_iff_lt_mul hU0,←Nat.pow_add,←h2];exact h
  have hmodU:N % 10^K<10^K:=Nat.mod_lt _ hU0;have hlow:=aLJ (k:=K) (N:=N);obtain⟨U,hU⟩:∃U,10^K=U:=⟨_,rfl⟩
  rw[hU]at hnu hU0 hdU hsp hmodU hlow;rw[hU]at hwN1;have HWN1:=hZ hwN1;have HMODU:Hid (N % U<10^K):=hZ (by rw[hU];exact hmodU);have HSP:=hZ hsp;have HLOW:=hZ hlow;clear hU hwN hwN1 hmodU hsp hlow;have hd1:dg W64 (N/U)≤dg W64 N:=jO aD;have hd2:dg W64 (N % U)≤dg W64 N:=dg_rest' aD;have hi1:(n:Int)+1-1=(n:Int):=(by omega);have hshl:wrap64 ((304:Int)*2^n)=(K:Int):=by
    have e:(304:Int)*2^n=(K:Int):=(by rw[←hK,Int.natCast_mul,Int.natCast_pow];rfl);rw[e,wrap64];omega
  have HSH:=hZ hshl;clear hshl;have hcap:(n:Int)≤(c:Int):=(by omega);have hmax:max ((width:Int)-(K:Int)) 0=((width-K:Nat):Int):=(by omega);have hform:=hx.form;obtain⟨Ax,kx,cx,rfl⟩:=hform;obtain⟨Ao,co,rfl⟩:=ho.form;have HK:=hZ hK;have HK2:=hZ hK2;clear hK hK2 hu;go_enter Tryz.func131,Tryz.ntmps131
  go_wp2_with fail
  rw[HSH.out];refine (rQ N (U) _ _ _ hx hnu hU0 (by rw[aC];omega)).mono ?_;rintro e w1 ⟨hv,lv,rfl,hhi,hlo,hq1,hnh,hnl⟩;obtain⟨Ah,ch,rfl,hch⟩:=hhi.parts;obtain⟨Al,kl,cl,rfl⟩:=hlo.form;have hon1:=ho.q hq1;have hbq1:=aK0 hq1 hbase;have hb1:=Nat.le_trans hbase hq1.size;obtain⟨kh,hkh⟩:∃kh,dg W64 (N/U)=kh:=⟨_,rfl⟩
  have hkh0:kh=0↔N/U=0:=by
    rw[←hkh];exact⟨fun h=>bO aD h,fun h=>by rw[h,aZ]⟩
  rw[hkh]at hhi hch⊢;have HKH:=hZ hkh;clear hkh;by_cases hsplit:0<kh∨0<width
  ·have hpos:0<N/U∨0<width:=by
     rcases hsplit with h|h
     ·left;rcases Nat.eq_zero_or_pos (N/U) with h2|h2
      ·have:=hkh0.2 h2;omega
      ·exact h2
     ·exact Or.inr h
   have hdw:=HSP.out hpos;have hl2:=congrArg List.length hdw;rw[List.length_append]at hl2;have hlenB:os.length+(dw (width-K) (N/U)).length≤549755813888:=Nat.le_trans (Nat.add_le_add_left (by rw[hl2];exact Nat.le_add_right _ _) _) hlen;have hlenC:os.length+(dw (width-K) (N/U)).length+(dw K (N % U)).length≤549755813888:=(by rw[Nat.add_assoc,←hl2];exact hlen);have HLENB:=hZ hlenB;have HLENC:=hZ hlenC;clear hlenB hlenC hl2;have hbl:bytes (dw width N)=bytes (dw (width-K) (N/U))++bytes (dw K (N % U)):=(by rw[hdw,iF]);have hll:(bytes (dw (width-K) (N/U))).length=(dw (width-K) (N/U)).length:=bC _;have HBL:=hZ hbl;have HLL:=hZ hll;clear hdw hbl hkh0 hpos hll;rcases Nat.eq_zero_or_pos kh with hz|hz
   case' inl=>
     have k1:¬(0:Int)<(kh:Int):=(by omega);have k1n:¬0<kh:=(by omega);have k2:(0:Int)<(width:Int):=(by omega);have k2n:0<width:=(by omega);have HZ:=hZ hz
   case' inr=>
     have k1:(0:Int)<(kh:Int):=(by omega);have HZ:=hZ hz
   all_goals
     clear hz hsplit;go_wp2_with fail
     refine (ih _ _ _ os (N/U) (width-K) base _ _ hon1 hhi (fun w' h=>hpre w' (hbq1.trans h)) (by omega) (by rw[HK.out];clear hlen;omega) HWN1.out (by omega) HLENB.out (by rw[HK.out];clear hlen;omega) hb1).mono ?_;rintro e w2 ⟨v2,rfl,hv2,hog2⟩;have hlo2:=hlo.og hog2.gr (fun g' e1 e2=>by
      have h1:=(ho.lt e2).2;cases Al with
      |none=>cases e1
      |some ad=>
       have h2:=hnl ad _ _ rfl;injection e1 with e1;omega)
     have hbw2:=aIM hog2.gr (fun k e=>(ho.lt e).1) hb1;go_wp2_with fail
     refine (ih _ _ _ (os++bytes (dw (width-K) (N/U))) (N % U) K base _ _ hv2 hlo2 (fun w' h=>hpre w' (hbq1.trans (hbw2.trans h))) rfl (Or.inr HK.out.symm) (Or.inr HMODU.out) (by omega) (by rw[List.length_append,HLL.out];exact HLENC.out) (by rw[HK.out];clear hlen;omega) (Nat.le_trans hb1 hog2.gr.size)).mono ?_;rintro e w3 ⟨v3,rfl,hv3,hog3⟩;rw[List.append_assoc,←HBL.out]at hv3;have hog:=(Og.q (Og.start (v:=.slice Ao os.length co) (Q.refl w)) hq1)
     have hogf:Og w w3 (Value.slice Ao os.length co).ownBlock v3:=(Og.step hog hog2.gr (by
      rcases hog2.own with h|⟨k,h,hk⟩
      ·exact Or.inl h
      ·exact Or.inr ⟨k,h,hk⟩)).step hog3.gr hog3.own
     go_wp2_with fail
     go_ret
     exact⟨v3,rfl,hv3,hogf⟩
  ·have hz:kh=0:=(by omega);have hwz:width=0:=(by omega);have hq0:=hkh0.1 hz;have hmod:=HLOW.out hq0;have hdwl:dw width N=dw 0 (N % U):=(by rw[hwz,hmod]);have hlenA:os.length+(dw 0 (N % U)).length≤549755813888:=(by rw[←hdwl];exact hlen);have HLENA:=hZ hlenA;clear hlenA;have HDWL:=hZ hdwl;have k1:¬(0:Int)<(kh:Int):=(by omega);have k1n:¬0<kh:=(by omega);have k2:¬(0:Int)<(width:Int):=(by omega);have k2n:¬0<width:=(by omega);have hwi:(width:Int)=((0:Nat):Int):=(by omega);have HWI:=hZ hwi;clear hz hwz hq0 hmod hdwl hkh0 hsplit hwi;go_wp2_with fail
   refine (ih _ _ _ os (N % U) 0 base _ _ hon1 hlo (fun w' h=>hpre w' (hbq1.trans h)) HWI.out (Or.inl rfl) (Or.inl rfl) (by omega) HLENA.out (by rw[HK.out];clear hlen;omega) hb1).mono ?_;rintro e w2 ⟨v2,rfl,hv2,hog2⟩;rw[←HDWL.out]at hv2;have hog:=(Og.q (Og.start (v:=.slice Ao os.length co) (Q.refl w)) hq1)
   have hogf:Og w w2 (Value.slice Ao os.length co).ownBlock v2:=Og.step hog hog2.gr hog2.own;go_wp2_with fail
   go_ret
   exact⟨v2,rfl,hv2,hogf⟩
theorem aIN:(Tryz.prog.info? 49).map (fun i=>(i.zero,i.size,i.bytes))=some (some (.slice none 0 0),1,24):=by kernel_rfl
theorem aM1(k:Nat):k<20*dg W64 (10^k):=by
 have h1:=aX aD (10^k);have h2:W64^dg W64 (10^k)≤(10^20)^dg W64 (10^k):=Nat.pow_le_pow_left (by decide) _;rw[←Nat.pow_mul]at h2;exact (Nat.pow_lt_pow_iff_right (by decide)).1 (Nat.lt_of_lt_of_le h1 h2)
structure Uo (w:World) (base:Nat) (v:Value) (vs:List Value):Prop where
 own:w.ownsRow base 49 1 v vs.length vs
 nm:∀(i:Nat) (u:Value),vs[i]? =some u→Nm w u (10^(304*2^i))
 dis:∀(i:Nat) (u:Value) (g:Nat),vs[i]? =some u→u.ownBlock=some g→v.ownBlock≠some g
theorem Uo.us{w:World}{base:Nat}{v:Value}{vs:List Value}(h:Uo w base v vs):Us w v vs.length:=by
 have ho:=h.own;rcases ho.2 with⟨h1,h2⟩|⟨g,cap,cur,h1,hb,hh,hnc,hcm,hcs,htake⟩
 ·exact⟨none,0,by rw[h1,h2],by omega,fun i hi=>by omega⟩
 ·refine⟨_,cap,h1,hnc,fun i hi=>?_⟩;have hlt:g<w.heap.size:=by
   rcases Nat.lt_or_ge g w.heap.size with hlt|hge
   ·exact hlt
   ·rw[Array.getElem?_eq_none hge]at hh;cases hh
  have hu:vs[i]? =some (vs[i]'hi):=List.getElem?_eq_getElem hi;have hc:=World.ownsRow.cells ho (g:=g) (by rw[h1];rfl) i _ hu;rw[gL,Nat.zero_add]at hc;exact⟨g,_,rfl,hlt,hc,h.nm i _ hu⟩
theorem aC9{w1:World}{ops:Array Oper}{rest:List Oper}{o:Oper}{a:Act}{Q':Exit→Act→World→Prop}(hgd:o.guard=none)(s x:Operand)(hop:o.op=Op.call {callee:=Callee.builtin Builtin.append,args:=#[s,x],argTypes:=#[214,214]})
  (base:Nat) (v:Value) (vs:List Value) (hs:a.eval s=v) (hown:Uo w1 base v vs) (u:Value) (hu:Nm w1 u (10^(304*2^vs.length))) (hud:∀g,u.ownBlock=some g→v.ownBlock≠some g) (hx:a.eval x=.slice (some ⟨w1.heap.size,0,none⟩) 1 1)
  (hl:vs.length+1≤1000000) (hb:base≤w1.heap.size)
  (hK:∀v' w',Uo w' base v' (vs++[u])→w1.grownBy w' v.ownBlock→wpList Tryz.prog ops Q' rest (a.put o.dst v') w'):
  wpList Tryz.prog ops Q' (o::rest) a (w1.alloc (.cells #[u] 49)):=by
 obtain⟨i0,hi0,hz0,hz1,hz2⟩:=info_parts aIN;have hone:u.oneCell'=true:=by obtain⟨A,c,ws,rfl,_⟩:=hu;rfl
 refine wpList_plain hgd fun K hK'=>?_
 obtain⟨v',w',hrun,r1,r2,_,r3⟩:=run_append_own_at (P:=Tryz.prog) (w1.alloc (.cells #[u] 49)) base 214 o.type 49 i0 (.slice none 0 0) 1 24 Tryz.underlying214 hi0 hz0 hz1 hz2 rfl (by decide) v vs.length vs
  (World.ownsRow.alloc hown.own _) ⟨w1.heap.size,0,none⟩ 1 1 [u] rfl (fun j u' hj=>by
   rcases j with _|j
   ·simp at hj;subst hj;rw[gL];exact dW _ _ _
   ·simp at hj) (by simpa using hone) (by unfold maxLen;omega) (by omega) (by simp;omega)
 have h0:w1.grownBy (w1.alloc (.cells #[u] 49)) v.ownBlock:=⟨rfl,rfl,rfl,by simp,fun k hk _=>by exact Below.heap_alloc w1 _ k hk⟩
 have hgr:w1.grownBy w' v.ownBlock:=World.grownBy.trans h0 r2;unfold Oper.wp;simp[execOp,hop,resolve,invoke,builtin,hs,hx,hrun,Result.andThen];refine hK' _ _ (hK v' w' ⟨by rw[List.length_append];exact r1,?_,?_⟩ hgr)
 ·intro i u' hi;rcases Nat.lt_or_ge i vs.length with h|h
  ·rw[List.getElem?_append_left h]at hi;exact (hown.nm i u' hi).og hgr (fun g e=>hown.dis i u' g hi e)
  ·rw[List.getElem?_append_right h]at hi;have:i=vs.length:=by
    rcases Nat.eq_zero_or_pos (i-vs.length) with h2|h2
    ·omega
    ·rw[List.getElem?_eq_none (by simp;omega)]at hi;cases hi
   subst this;simp at hi;subst hi;exact hu.og hgr hud
 ·intro i u' g hi e;have hold:u'.ownBlock=some g→v.ownBlock≠some g∧g<w1.heap.size:=by
   intro e;have hN:∃M,Nm w1 u' M∧0<M:=by
    rcases Nat.lt_or_ge i vs.length with h|h
    ·rw[List.getElem?_append_left h]at hi;exact⟨_,hown.nm i u' hi,Nat.pow_pos (by decide)⟩
    ·rw[List.getElem?_append_right h]at hi;rcases Nat.eq_zero_or_pos (i-vs.length) with h2|h2
     ·rw[h2]at hi;simp at hi;subst hi;exact⟨_,hu,Nat.pow_pos (by decide)⟩
     ·rw[List.getElem?_eq_none (by simp;omega)]at hi;cases hi
   have hne:v.ownBlock≠some g:=by
    rcases Nat.lt_or_ge i vs.length with h|h
    ·rw[List.getElem?_append_left h]at hi;exact hown.dis i u' g hi e
    ·rw[List.getElem?_append_right h]at hi;rcases Nat.eq_zero_or_pos (i-vs.length) with h2|h2
     ·rw[h2]at hi;simp at hi;subst hi;exact hud g e
     ·rw[List.getElem?_eq_none (by simp;omega)]at hi;cases hi
   obtain⟨M,⟨A,c,ws,rfl,h2,h3,h4,h5⟩,hM⟩:=hN;refine⟨hne,?_⟩;have hw0:0<ws.length:=by
    rcases Nat.eq_zero_or_pos ws.length with h|h
    ·rw[List.eq_nil_of_length_eq_zero h]at h5;simp[vl]at h5;omega
    ·exact h
   obtain⟨b,o,rfl,hb,_⟩:=h3 hw0;cases e;exact hb
  obtain⟨n1,n2⟩:=hold e;rcases r3 with r3|r3
  ·rw[r3];exact n1
  ·rw[r3];intro e2;injection e2 with e2;simp at e2;omega
theorem Uo.start{w:World}{u:Value}{k:Nat}(hk:k=304*2^0)(hu:Nm w u (10^k)):Uo (w.alloc (.cells #[u] 49)) w.heap.size (.slice (some ⟨w.heap.size,0,none⟩) 1 1) [u]:=by
 refine⟨⟨rfl,Or.inr ⟨w.heap.size,1,#[u],rfl,Nat.le_refl _,heap_alloc_new w _,Nat.le_refl _,by decide,rfl,rfl⟩⟩,?_,?_⟩
 ·intro i u' hi;rcases i with _|i
  ·simp at hi;subst hi;rw[←hk];exact hu.q ((Q.refl w).alloc _)
  ·simp at hi
 ·intro i u' g hi e;rcases i with _|i
  ·simp at hi;subst hi;obtain⟨A,c,ws,rfl,h2,h3,h4,h5⟩:=hu;have hw0:0<ws.length:=by
    rcases Nat.eq_zero_or_pos ws.length with h|h
    ·rw[List.eq_nil_of_length_eq_zero h]at h5;exact absurd h5 (Nat.ne_of_lt (Nat.pow_pos (by decide)))
    ·exact h
   obtain⟨b,o,rfl,hb,_⟩:=h3 hw0;cases e;intro e2;injection e2 with e2;simp at e2;omega
  ·simp at hi
theorem Uo.q{w w':World}{base:Nat}{v:Value}{vs:List Value}(h:Uo w base v vs)(hq:Q w w'):Uo w' base v vs:=
 ⟨World.ownsRow.kept (row:=none) h.own ⟨hq.os,hq.tape,hq.output,hq.size,fun _ hk _=>hq.heap hk⟩ (by cases hv:v.ownBlock<;>simp),fun i u hi=>(h.nm i u hi).q hq,h.dis⟩
theorem Uo.lt{w:World}{base k:Nat}{v:Value}{vs:List Value}(h:Uo w base v vs)(hk:v.ownBlock=some k):base≤k∧k<w.heap.size:=World.ownsRow.lt h.own k hk
theorem Uo.last{w:World}{base m:Nat}{v:Value}{vs:List Value}(h:Uo w base v vs)(hm:vs.length=m+1):∃g c u,v=.slice (some ⟨g,0,none⟩) (m+1) c∧g<w.heap.size∧w.cell? ⟨g,m,none⟩=some u∧Nm w u (10^(304*2^m)):=by
 obtain⟨A,c,h1,h2,h3⟩:=h.us;rw[hm]at h1 h2;obtain⟨g,u,rfl,k2,k3,k4⟩:=h3 m (by omega);exact⟨g,c,u,h1,k2,k3,k4⟩
theorem aGW{N:Nat}(h:dg W64 N≤1000000000){m:Nat}(hm:304*2^m≤20*(dg W64 N+1)+608):m<40:=by
 rcases Nat.lt_or_ge m 40 with h1|h1
 ·exact h1
 ·have h2:2^40≤2^m:=Nat.pow_le_pow_right (by decide) h1;have h3:(2:Nat)^40=1099511627776:=(by decide);omega
theorem aM2(k:Nat):dg W64 (10^k)≤k+1:=by
 rw[aK aD];exact Nat.lt_of_le_of_lt (Nat.pow_le_pow_left (by decide) k) (Nat.pow_lt_pow_right aD (by omega))
theorem aM3(m:Nat):10^(304*2^m)*10^(304*2^m)=10^(304*2^(m+1)):=by
 rw[←Nat.pow_add];congr 1;rw[Nat.pow_succ];omega
theorem aE6(x:Value)(N:Nat)(w:World)(hx:Nm w x N)(hN:dg W64 N≤1000000000):Calls Tryz.prog 132 #[x] w
  fun e w'=>∃v n,e=.returned v∧Us w' v n∧Q w w'∧n≤40∧304*2^n≤40*(dg W64 N+1)+1216:=by
 obtain⟨A,c,rfl,hc⟩:=hx.parts;obtain⟨L,hL⟩:∃L,dg W64 N=L:=⟨_,rfl⟩
 rw[hL]at hc hx hN⊢;have HL:=hZ hL;clear hL;go_enter Tryz.func132,Tryz.ntmps132
 by_cases hsm:L≤16
 ·have k1:(L:Int)≤16:=(by omega);go_wp2_with fail
  go_ret
  exact⟨_,0,rfl,⟨none,0,rfl,by omega,fun i hi=>by omega⟩,Q.refl _,by omega,by omega⟩
 ·have k1:¬(L:Int)≤16:=(by omega);obtain⟨T,hT⟩:∃T,T=304*2^0:=⟨_,rfl⟩
  have HT:=hZ hT;clear hT;go_wp2_with fail
  refine (qR T _ _ (by rw[HT.out];rfl) (by rw[aC,HT.out];omega)).mono ?_;rintro e w1 ⟨u0,rfl,hu0,hq1,-⟩;have hUo:=Uo.start HT.out hu0;have hQ0:=hq1.alloc (.cells #[u0] 49);have hs1:=hq1.size;obtain⟨Az,kz,cz,rfl⟩:=hu0.form;clear hu0;go_wp2_with fail
  go_loopg [3] 64 (fun gk uv w2=>∃(m:Nat) (vs:List Value),vs.length=m+1∧Uo w2 w1.heap.size uv vs∧Q w w2∧w1.heap.size≤w2.heap.size∧gk+m=64∧m<40∧304*2^m≤20*(L+1)+608)
  case atStart=>exact⟨0,[_],rfl,hUo,hQ0,by simp,rfl,by omega,by omega⟩
  case round=>
   obtain⟨wo,rfl⟩:∃wo:World,wo=wr:=⟨_,rfl⟩
   obtain⟨m,vs,hvl,hU,hq2,hb2,hgk,hm40,hmL⟩:=hrel;obtain⟨g,cu,u,rfl,hg,hcell,hnu⟩:=hU.last hvl;have hm1:((m:Int)+1)-1=(m:Int):=(by omega);obtain⟨l,hl⟩:∃l,dg W64 (10^(304*2^m))=l:=⟨_,rfl⟩
   have hten:=aM1 (304*2^m);obtain⟨Au,cu2,rfl,hcu2⟩:=hnu.parts;rw[hl]at hten hcu2 hnu hcell;have hl2:=aM2 (304*2^m);rw[hl]at hl2;have hlb:l≤100000000000:=(by omega);have hnext:¬L+1<2*l→m+1<40∧304*2^(m+1)≤20*(L+1)+608:=by
    intro h;have h1:304*2^(m+1)≤20*(L+1)+608:=(by rw[Nat.pow_succ];omega);exact⟨aGW (N:=N) (by rw[HL.out];exact hN) (by rw[HL.out];exact h1),h1⟩
   have HLL:=hZ hl;clear hl hl2;have HML:=hZ hmL;have HTEN:=hZ hten;have HVL:=hZ hvl;have HNX:=hZ hnext;clear hmL hten hvl hnext;by_cases hstop:L+1<2*l
   ·have k2:(L:Int)+1<2*(l:Int):=(by omega);go_wp2_with fail
    go_ret
    refine⟨_,m+1,rfl,?_,hq2,by omega,?_⟩
    ·have:=hU.us;rw[HVL.out]at this;exact this
    ·have:=HML.out;rw[Nat.pow_succ];omega
   ·have k2:¬(L:Int)+1<2*(l:Int):=(by omega);have HNX2:=hZ (HNX.out hstop);go_wp2_with fail
    refine (kY _ _ _ _ _ hnu hnu (by rw[HLL.out,aC];omega)).mono ?_;rintro e w3 ⟨uv,rfl,huv,hq3,hnw⟩;rw[aM3]at huv;obtain⟨Av,kv,cv,rfl⟩:=huv.form;have hU3:=hU.q hq3;have hs3:=hq3.size;have hud:∀g',(Value.slice Av kv cv).ownBlock=some g'→(Value.slice (some ⟨g,0,none⟩) (m+1) cu).ownBlock≠some g':=by
     intro g' e1 e2;cases Av with
     |none=>cases e1
     |some ad=>
      have h2:=hnw ad _ _ rfl;injection e1 with e1;injection e2 with e2;simp at e2;omega
    go_wp2_with (at_builtin;go_loud (refine aC9 rfl _ _ rfl w1.heap.size (.slice (some ⟨g,0,none⟩) (m+1) cu) vs rfl hU3 (.slice Av kv cv) (by rw[HVL.out];exact huv) hud rfl (by rw[HVL.out];omega) (Nat.le_trans hb2 hs3) ?_);intro v7 w7 h71 h72)
    go_roundg (gk-1)
    case measure=>omega
    case rel=>
     obtain⟨h8,h9⟩:=HNX2.out;refine⟨m+1,vs++[.slice Av kv cv],by rw[List.length_append,HVL.out];rfl,h71,?_,Nat.le_trans hb2 (Nat.le_trans hs3 h72.size),by omega,h8,h9⟩;exact Q.grown (hq2.trans hq3) h72 (fun k e=>Nat.le_trans hs1 (hU3.lt e).1)
theorem aE7{N:Nat}:(dec N).length≤20*dg W64 N+1:=by
 rw[jV];split
 ·omega
 ·have h:dg 10 N≤20*dg W64 N:=by
   rw[aK (by decide)];refine Nat.lt_of_lt_of_le (aX aD N) ?_;rw[Nat.pow_mul];exact Nat.pow_le_pow_left (by decide) _
  omega
theorem aDa(N:Nat):0<(dec N).length:=by
 rw[jV];split
 ·omega
 ·rename_i h;rcases Nat.eq_zero_or_pos (dg 10 N) with h2|h2
  ·exact absurd (bO (by decide) h2) h
  ·exact h2
theorem aIO{w:World}{base:Nat}{v:Value}{l:List UInt8}(h:Own w base v (bytes l))(hl:0<l.length):∃g cap,v=.slice (some ⟨g,0,none⟩) l.length cap∧(convert 211 9 (.slice (some ⟨g,0,none⟩) l.length cap)).run Tryz.prog w=.ok (.string ⟨l.toArray⟩) w:=by
 obtain⟨A,c,rfl⟩:=h.form;rw[bC]at h⊢;obtain⟨g,rfl,_⟩:=wY h (bC l) hl;refine⟨g,c,rfl,run_convert_bytes_back w _ _ 5 _ c l Tryz.underlying211 (by kernel_rfl) (by kernel_rfl) (fun j hj=>?_)⟩;obtain⟨g',e,hc⟩:=wY h (bC l) hj;injection e with e;injection e with e1;subst e1;rw[gL,Nat.zero_add,hc];simp[bytes]
theorem yP(x:Value)(N:Nat)(w:World)(hx:Nm w x N)(hN:dg W64 N≤1000000000):Calls Tryz.prog 55 #[x] w
  fun e w'=>∃s:ByteArray,e=.returned (.string s)∧s.data.toList=dec N∧Q w w':=by
 obtain⟨A,c,rfl,hc⟩:=hx.parts;obtain⟨L,hL⟩:∃L,dg W64 N=L:=⟨_,rfl⟩
 have hlen:=aE7 (N:=N);rw[hL]at hc hx hlen⊢;rcases Nat.eq_zero_or_pos N with h0|h0
 ·have hL0:L=0:=(by rw[←hL,h0,aZ]);have k1:((L:Int) == 0)=true:=(by rw[hL0];rfl);go_enter Tryz.func55,Tryz.ntmps55
  go_wp2_with fail
  go_ret
  exact⟨_,rfl,by rw[h0,eZ (by decide)];rfl,Q.refl _⟩
 ·have hL0:L≠0:=fun h=>(by rw[h]at hL;have:=bO aD hL;omega);have k1:((L:Int) == 0)=false:=beq_eq_false_iff_ne.2 (by omega);have HL:=hZ hL;rw[hL]at hN;clear hL;go_enter Tryz.func55,Tryz.ntmps55
  go_wp2_with fail
  refine (aE6 _ N _ hx (by rw[HL.out];exact hN)).mono ?_;rintro e w1 ⟨uv,n,rfl,hu,hq1,hn,hb⟩;rw[HL.out]at hb;have HB:=hZ hb;clear hb;have hform:∃A c,uv=.slice A n c:=(by obtain⟨A,c,h,_⟩:=hu;exact⟨A,c,h⟩);obtain⟨Au,cu,rfl⟩:=hform;go_wp2_with fail
  refine (zS n _ _ _ [] N 0 w1.heap.size 0 _ (Own.nil _ _) (hx.q hq1) (fun w'' h=>hu.q h) rfl (Or.inl rfl) (Or.inl rfl) hn (by rw[xH h0];simp only[List.length_nil];omega) (by have:=HB.out;rw[HL.out];omega) (Nat.le_refl _)).mono ?_;rintro e w2 ⟨v,rfl,hv,hog⟩;rw[List.nil_append,xH h0]at hv;obtain⟨g,cap,rfl,hcv⟩:=aIO hv (aDa N);have hq2:Q w w2:=Q.grown hq1 hog.gr (fun k e=>by cases e);clear hv hog;generalize (dec N).length=dl at*
  go_wp2_with fail
  go_ret
  exact⟨_,rfl,rfl,hq2⟩
end
namespace K
open Go.RowKit
open Ma Me
def Rq(w:World)(v:Value)(q:Rat):Prop:=∃A1 n1 c1 A2 n2 c2,v=.agg #[.int .i64 (sn q),.slice A1 n1 c1,.slice A2 n2 c2]∧Nr w (.slice A1 n1 c1) q.num.natAbs∧(q≠0→Nr w (.slice A2 n2 c2) q.den)
theorem Rq.q{w w':World}{v:Value}{q:Rat}(h:Rq w v q)(hq:Q w w'):Rq w' v q:=by
 obtain⟨A1,n1,c1,A2,n2,c2,e,h1,h2⟩:=h;exact⟨A1,n1,c1,A2,n2,c2,e,h1.q hq,fun hz=>(h2 hz).q hq⟩
theorem Rq.ap{w w':World}{v:Value}{q:Rat}{g:Nat}(h:Rq w v q)(ha:Ap w w' g):Rq w' v q:=by
 obtain⟨A1,n1,c1,A2,n2,c2,e,h1,h2⟩:=h;exact⟨A1,n1,c1,A2,n2,c2,e,ha.nr h1,fun hz=>ha.nr (h2 hz)⟩
section
variable {w:World} {q p:Rat} {s:Int} {A1 A2 A3 A4:Option Addr} {n1 c1 n2 c2 n3 c3 n4 c4:Nat}
theorem Rq.parts(h:Rq w (.agg #[.int .i64 s,.slice A1 n1 c1,.slice A2 n2 c2]) q):s=sn q∧Nr w (.slice A1 n1 c1) q.num.natAbs∧(q≠0→Nr w (.slice A2 n2 c2) q.den):=by
 obtain⟨A1',n1',c1',A2',n2',c2',e,h1,h2⟩:=h;simp only[Value.agg.injEq,Array.mk.injEq,List.cons.injEq,Value.int.injEq,Value.slice.injEq,and_true,true_and]at e;obtain⟨rfl,⟨rfl,rfl,rfl⟩,rfl,rfl,rfl⟩:=e;exact⟨rfl,h1,h2⟩
end
theorem Rq.none(w:World):Rq w (.agg #[.int .i64 0,.slice .none 0 0,.slice .none 0 0]) 0:=⟨.none,0,0,.none,0,0,rfl,Nn.zero _ _,fun h=>absurd rfl h⟩
theorem Rq.mk{w:World}{x y:Value}{q:Rat}(h1:Nr w x q.num.natAbs)(h2:q≠0→Nr w y q.den)(hy:∃A n c,y=.slice A n c){s:Int}(hs:s=sn q):Rq w (.agg #[.int .i64 s,x,y]) q:=by
 obtain⟨A,n,c,rfl⟩:=hy;obtain⟨A1,c1,ds,rfl,h3⟩:=h1;subst hs;exact⟨_,_,_,_,_,_,rfl,⟨A1,c1,ds,rfl,h3⟩,h2⟩
theorem Nr.form{w:World}{x:Value}{N:Nat}(h:Nr w x N):∃A n c,x=.slice A n c:=by
 obtain⟨A1,c1,ds,rfl,h3⟩:=h;exact⟨_,_,_,rfl⟩
def Rs(w:World)(v:Value)(p q:Rat):Prop:=∃s1 A1 n1 c1 A2 n2 c2 s2 A3 n3 c3 A4 n4 c4,v=.agg #[.int .i64 s1,.slice A1 n1 c1,.slice A2 n2 c2,.int .i64 s2,.slice A3 n3 c3,.slice A4 n4 c4]∧
 Rq w (.agg #[.int .i64 s1,.slice A1 n1 c1,.slice A2 n2 c2]) p∧Rq w (.agg #[.int .i64 s2,.slice A3 n3 c3,.slice A4 n4 c4]) q
section
variable {w:World} {q p:Rat} {s1 s2:Int} {A1 A2 A3 A4:Option Addr} {n1 c1 n2 c2 n3 c3 n4 c4:Nat}
theorem Rs.parts(h:Rs w (.agg #[.int .i64 s1,.slice A1 n1 c1,.slice A2 n2 c2,.int .i64 s2,.slice A3 n3 c3,.slice A4 n4 c4]) p q):Rq w (.agg #[.int .i64 s1,.slice A1 n1 c1,.slice A2 n2 c2]) p∧Rq w (.agg #[.int .i64 s2,.slice A3 n3 c3,.slice A4 n4 c4]) q:=by
 obtain⟨s1',A1',n1',c1',A2',n2',c2',s2',A3',n3',c3',A4',n4',c4',e,h1,h2⟩:=h;simp only[Value.agg.injEq,Array.mk.injEq,List.cons.injEq,Value.int.injEq,Value.slice.injEq,and_true,true_and]at e;obtain⟨rfl,⟨rfl,rfl,rfl⟩,⟨rfl,rfl,rfl⟩,rfl,⟨rfl,rfl,rfl⟩,rfl,rfl,rfl⟩:=e;exact⟨h1,h2⟩
end
def Ex:List Ck→(List Value→Prop)→Prop
 | [],P=>P []
 | .b::ks,P=>∃x,Ex ks fun l=>P (.bool x::l)
 | .i::ks,P=>∃x,Ex ks fun l=>P (.int .i64 x::l)
 | .s::ks,P=>∃A n c,Ex ks fun l=>P (.slice A n c::l)
 | .t::ks,P=>∃x,Ex ks fun l=>P (.string x::l)
theorem Sh.ex:∀{ks:List Ck} {row:List Value} {P:List Value→Prop},Sh ks row→P row→Ex ks P
 | [],[],_,_,h=>h
 | .b::_,_::_,_,⟨⟨x,rfl⟩,hs⟩,h=>⟨x,Sh.ex hs h⟩
 | .i::_,_::_,_,⟨⟨x,rfl⟩,hs⟩,h=>⟨x,Sh.ex hs h⟩
 | .s::_,_::_,_,⟨⟨A,n,c,rfl⟩,hs⟩,h=>⟨A,n,c,Sh.ex hs h⟩
 | .t::_,_::_,_,⟨⟨x,rfl⟩,hs⟩,h=>⟨x,Sh.ex hs h⟩
theorem NbV.ex{w:World}{g:Nat}{t:TypeId}{ck:List Ck}{v:Value}(h:NbV w g t ck v):Ex ck fun row=>v=.agg row.toArray∧Bx w g t row:=by
 obtain⟨row,e,hs,hb⟩:=h;exact hs.ex ⟨e,hb⟩
theorem NbV.mk{w:World}{g:Nat}{t:TypeId}{ck:List Ck}{row:List Value}(hs:Sh ck row)(h:Bx w g t row):NbV w g t ck (.agg row.toArray):=⟨row,rfl,hs,h⟩
theorem NbV.out{w:World}{g:Nat}{t:TypeId}{ck:List Ck}{row:List Value}(h:NbV w g t ck (.agg row.toArray)):Bx w g t row:=by
 obtain⟨row',e,hs,hb⟩:=h;injection e with e;have:row=row':=by simpa using e
 subst this;exact hb
def oD(l:List Vs)(o:Oper)(vals:Nat→Value):Nat→Value:=fun j=>
 if (o.after.any fun e=>Region.binds .any e && e.on == j)=true then (match l.getD j .any with| .eq v=>v|_=>vals j) else vals j
theorem qU{l:List Vs}{o:Oper}{vals:Nat→Value}{w:World}(hd:∀j,(o.after.any fun e=>Region.binds .any e && e.on == j)=true→SL l j (vals j) w):oD l o vals=vals:=by
 funext j;unfold oD;split
 ·rename_i h;have hs:=hd j h;unfold SL at hs;split
  ·rename_i v e;rw[e]at hs;exact hs.symm
  ·rfl
 ·rfl
section
variable {P:Program} {ops:Array Oper} {l:List Vs} {cs:List Ce} {ks:List (Value × Vs)} {F:(Nat→Value)→Act} {a:Act} {w0:World} {i:Nat} {o:Oper} {rest:List Oper} {v:Value}
theorem JC.p(c:Ctx ops a F)(hr:Ja.Steps P ops (JC w0 ops l cs ks) F (i+1) rest)
  (hck:dG ops cs=true:=by kernel_rfl) (ho:ops[i]? =some o:=by rfl) (hg:bW ops l o true=true:=by kernel_rfl) (hf:(cs.all fun c=>c.al != some i && c.st != i)=true:=by kernel_rfl)
  (hl:l.getD i .any=.eq v:=by rfl) (hrun:∀vals w,(execOp (F (oD l o vals)).eval o).run P w=.ok (.value v) w:=by intro vals w;kernel_rfl):
  Ja.Steps P ops (JC w0 ops l cs ks) F i (o::rest):=
 JC.o c (fun L vals w _ _ hd K hK=>by
  have h:=hrun vals w;rw[qU hd]at h;unfold Oper.wp;rw[h,Oper.upon_value];exact hK.out v w _ rfl (by unfold SL;rw[hl];rfl) (Q.refl _)) hr hck ho hg hf
theorem JC.m(j:Nat)(c:Ctx ops a F)(hr:Ja.Steps P ops (JC w0 ops l cs ks) F (i+1) rest)
  (hck:dG ops cs=true:=by kernel_rfl) (ho:ops[i]? =some o:=by rfl) (hg:bW ops l o true=true:=by kernel_rfl) (hf:(cs.all fun c=>c.al != some i && c.st != i)=true:=by kernel_rfl)
  (hl:l.getD i .any=l.getD j .any:=by rfl) (hj:(o.after.any fun e=>Region.binds .any e && e.on == j)=true:=by kernel_rfl) (hrun:∀vals w,(execOp (F (oD l o vals)).eval o).run P w=.ok (.value (vals j)) w:=by intro vals w;kernel_rfl):
  Ja.Steps P ops (JC w0 ops l cs ks) F i (o::rest):=
 JC.o c (fun L vals w _ _ hd K hK=>by
  have h:=hrun vals w;rw[qU hd]at h;have hs:=hd j hj;unfold Oper.wp;rw[h,Oper.upon_value];exact hK.out (vals j) w _ rfl (by unfold SL at hs⊢;rw[hl];exact hs) (Q.refl _)) hr hck ho hg hf
theorem JC.lo{g:Nat}{t:TypeId}{row:List Value}(v:Value)(hb:Bx w0 g t row)(hv:∀W,Q w0 W→(l.getD i .any).holds v W)(hrun:∀vals w,Bx w g t row→(execOp (F (oD l o vals)).eval o).run P w=.ok (.value v) w)(c:Ctx ops a F)(hr:Ja.Steps P ops (JC w0 ops l cs ks) F (i+1) rest)
  (hck:dG ops cs=true:=by kernel_rfl) (ho:ops[i]? =some o:=by rfl) (hg:bW ops l o true=true:=by kernel_rfl) (hf:(cs.all fun c=>c.al != some i && c.st != i)=true:=by kernel_rfl):
  Ja.Steps P ops (JC w0 ops l cs ks) F i (o::rest):=
 JC.o c (fun L vals w _ hJ hd K hK=>by
  have h:=hrun vals w (hb.q hJ.q);rw[qU hd]at h;unfold Oper.wp;rw[h,Oper.upon_value];exact hK.out v w _ rfl (hv w hJ.q) (Q.refl _)) hr hck ho hg hf
end
theorem ld1{ρ:Operand→Value}{o:Oper}{w:World}{g off:Nat}{v:Value}{T:TypeId}{x:Operand}(h:w.cell? ⟨g,off,none⟩=some v)(ho:o.op=.load T x)(hx:ρ x=.pointer (some ⟨g,off,none⟩))(hT:∀w,Sem.run Tryz.prog (isAgg T) w=.ok false w):
  (execOp ρ o).run Tryz.prog w=.ok (.value v) w:=by
 unfold execOp;rw[ho];simp[hx,go_sem,h,hT]
theorem ld3{ρ:Operand→Value}{o:Oper}{w:World}{g off:Nat}{v0 v1 v2:Value}{T:TypeId}{x:Operand}(h0:w.cell? ⟨g,off,none⟩=some v0)(h1:w.cell? ⟨g,off+1,none⟩=some v1)(h2:w.cell? ⟨g,off+2,none⟩=some v2)(ho:o.op=.load T x)(hx:ρ x=.pointer (some ⟨g,off,none⟩))(hT:∀w,Sem.run Tryz.prog (isAgg T) w=.ok true w)(hS:∀w,Sem.run Tryz.prog (sizeOf T) w=.ok 3 w):
  (execOp ρ o).run Tryz.prog w=.ok (.value (.agg #[v0,v1,v2])) w:=by
 unfold execOp;rw[ho];simp[hx,go_sem,hT,hS,loadCellsFrom,Addr.add,h0,h1,h2]
theorem st3{ρ:Operand→Value}{o:Oper}{w:World}{g:Nat}{t:TypeId}{v0 v1 v2 u0 u1 u2:Value}{T:TypeId}{x y:Operand}(hb:Bx w g t [u0,u1,u2])(o0:v0.oneCell'=true)(o1:v1.oneCell'=true)(o2:v2.oneCell'=true)(ho:o.op=.store T x y)(hx:ρ x=.pointer (some ⟨g,0,none⟩))(hy:ρ y=.agg #[v0,v1,v2])(hS:∀w,Sem.run Tryz.prog (sizeOf T) w=.ok 3 w):
  (execOp ρ o).run Tryz.prog w=.ok .skip (pK w g 0 [v0,v1,v2]):=by
 have fz:=hb.frozen;have c0:=hb.cell 0 rfl;have c1:=hb.cell 1 rfl;have c2:=hb.cell 2 rfl;unfold execOp;rw[ho];simp[hx,hy,go_sem,hS,storeCells,Addr.add,fz,c0,c1,c2,pK,o0,o1,o2,run_store]
section
variable {ops:Array Oper} {l:List Vs} {cs:List Ce} {ks:List (Value × Vs)} {F:(Nat→Value)→Act} {a:Act} {w0:World} {i:Nat} {o:Oper} {rest:List Oper}
theorem JC.l1{g off:Nat}{t T:TypeId}{row:List Value}{v:Value}{x:Operand}(hb:Bx w0 g t row)(hv:∀W,Q w0 W→(l.getD i .any).holds v W)(c:Ctx ops a F)(hr:Ja.Steps Tryz.prog ops (JC w0 ops l cs ks) F (i+1) rest)
  (ho:ops[i]? =some o:=by rfl) (hop:o.op=.load T x:=by rfl) (hx:∀vals,(F (oD l o vals)).eval x=.pointer (some ⟨g,off,none⟩):=by intro vals;kernel_rfl) (hc:row[off]? =some v:=by rfl)
  (hck:dG ops cs=true:=by kernel_rfl) (hg:bW ops l o true=true:=by kernel_rfl) (hf:(cs.all fun c=>c.al != some i && c.st != i)=true:=by kernel_rfl) (hT:∀w,Sem.run Tryz.prog (isAgg T) w=.ok false w:=by intro _;kernel_rfl):
  Ja.Steps Tryz.prog ops (JC w0 ops l cs ks) F i (o::rest):=
 JC.lo v hb hv (fun vals _ h=>ld1 (h.cell off hc) hop (hx vals) hT) c hr hck ho hg hf
theorem JC.l3{g off:Nat}{t T:TypeId}{row:List Value}{v0 v1 v2:Value}{x:Operand}(hb:Bx w0 g t row)(hv:∀W,Q w0 W→(l.getD i .any).holds (.agg #[v0,v1,v2]) W)(c:Ctx ops a F)(hr:Ja.Steps Tryz.prog ops (JC w0 ops l cs ks) F (i+1) rest)
  (ho:ops[i]? =some o:=by rfl) (hop:o.op=.load T x:=by rfl) (hx:∀vals,(F (oD l o vals)).eval x=.pointer (some ⟨g,off,none⟩):=by intro vals;kernel_rfl)
  (hc0:row[off]? =some v0:=by rfl) (hc1:row[off+1]? =some v1:=by rfl) (hc2:row[off+2]? =some v2:=by rfl)
  (hck:dG ops cs=true:=by kernel_rfl) (hg:bW ops l o true=true:=by kernel_rfl) (hf:(cs.all fun c=>c.al != some i && c.st != i)=true:=by kernel_rfl)
  (hT:∀w,Sem.run Tryz.prog (isAgg T) w=.ok true w:=by intro _;kernel_rfl) (hS:∀w,Sem.run Tryz.prog (sizeOf T) w=.ok 3 w:=by intro _;kernel_rfl):
  Ja.Steps Tryz.prog ops (JC w0 ops l cs ks) F i (o::rest):=
 JC.lo _ hb hv (fun vals _ h=>ld3 (h.cell off hc0) (h.cell (off+1) hc1) (h.cell (off+2) hc2) hop (hx vals) hT hS) c hr hck ho hg hf
theorem JC.r3{g off:Nat}{t T:TypeId}{ck:List Ck}{row:List Value}{v0 v1 v2:Value}{x:Operand}(hst:∀L vals W,L i=false→JC w0 ops l cs ks L vals W→NbV W g t ck (.agg row.toArray))(hv:∀L vals W,JC w0 ops l cs ks L vals W→(l.getD i .any).holds (.agg #[v0,v1,v2]) W)(c:Ctx ops a F)(hr:Ja.Steps Tryz.prog ops (JC w0 ops l cs ks) F (i+1) rest)
  (ho:ops[i]? =some o:=by rfl) (hop:o.op=.load T x:=by rfl) (hx:∀vals,(F (oD l o vals)).eval x=.pointer (some ⟨g,off,none⟩):=by intro vals;kernel_rfl)
  (hc0:row[off]? =some v0:=by rfl) (hc1:row[off+1]? =some v1:=by rfl) (hc2:row[off+2]? =some v2:=by rfl)
  (hck:dG ops cs=true:=by kernel_rfl) (hg:bW ops l o true=true:=by kernel_rfl) (hf:(cs.all fun c=>c.al != some i && c.st != i)=true:=by kernel_rfl)
  (hT:∀w,Sem.run Tryz.prog (isAgg T) w=.ok true w:=by intro _;kernel_rfl) (hS:∀w,Sem.run Tryz.prog (sizeOf T) w=.ok 3 w:=by intro _;kernel_rfl):
  Ja.Steps Tryz.prog ops (JC w0 ops l cs ks) F i (o::rest):=
 JC.o c (fun L vals w hL hJ hd K hK=>by
  have hb:=NbV.out (hst L vals w hL hJ);have h:=ld3 (hb.cell off hc0) (hb.cell (off+1) hc1) (hb.cell (off+2) hc2) hop (hx vals) hT hS;rw[qU hd]at h;unfold Oper.wp;rw[h,Oper.upon_value];exact hK.out _ w _ rfl (hv L vals w hJ) (Q.refl _)) hr hck ho hg hf
theorem JC.u{P:Program}{v:Value}(u:Value)(e:u=v)(c:Ctx ops a F)(hr:Ja.Steps P ops (JC w0 ops l cs ks) F (i+1) rest)
  (hck:dG ops cs=true:=by kernel_rfl) (ho:ops[i]? =some o:=by rfl) (hg:bW ops l o true=true:=by kernel_rfl) (hf:(cs.all fun c=>c.al != some i && c.st != i)=true:=by kernel_rfl)
  (hl:l.getD i .any=.eq v:=by rfl) (hrun:∀vals w,(execOp (F (oD l o vals)).eval o).run P w=.ok (.value u) w:=by intro vals w;kernel_rfl):
  Ja.Steps P ops (JC w0 ops l cs ks) F i (o::rest):=
 JC.p c hr hck ho hg hf hl (fun vals w=>by rw[←e];exact hrun vals w)
theorem JC.ca{P:Program}{f:FuncId}{args:(Nat→Value)→Array Value}
  (h:∀vals W,Q w0 W→(∀j,(o.after.any fun e=>Region.binds .any e && e.on == j)=true→SL l j (vals j) W)→(∀(n:Nat) (p:Value × Vs),ks[n]? =some p→p.2.holds p.1 W)→Calls P f (args vals) W fun e w'=>∃r,e=.returned r∧(l.getD i .any).holds r w'∧Q W w')
  (c:Ctx ops a F) (hr:Ja.Steps P ops (JC w0 ops l cs ks) F (i+1) rest)
  (hck:dG ops cs=true:=by kernel_rfl) (ho:ops[i]? =some o:=by rfl) (hg:bW ops l o true=true:=by kernel_rfl) (hf:(cs.all fun c=>c.al != some i && c.st != i)=true:=by kernel_rfl)
  (hrun:∀vals w,(execOp (F (oD l o vals)).eval o).run P w=.ok (.enter f (args (oD l o vals))) w:=by intro vals w;kernel_rfl):
  Ja.Steps P ops (JC w0 ops l cs ks) F i (o::rest):=
 JC.o c (fun L vals w _ hJ hd K hK=>by
  have h1:=hrun vals w;rw[qU hd]at h1;unfold Oper.wp;rw[h1,Oper.upon_enter];refine (h vals w hJ.q hd (fun n p hn=>hJ.k p (List.mem_of_getElem? hn))).mono ?_;rintro e w' ⟨r,rfl,h2,h3⟩;exact hK.out r w' _ rfl h2 h3) hr hck ho hg hf
theorem Sh.one:∀{ks:List Ck} {vs:List Value},Sh ks vs→∀x∈vs,x.oneCell'=true
 | [],[],_,_,h=>by cases h
 |k::ks,v::vs,hs,x,hx=>by
  rcases List.mem_cons.1 hx with rfl|hx
  ·have:=hs.1;cases k
   ·obtain⟨b,rfl⟩:=this;rfl
   ·obtain⟨b,rfl⟩:=this;rfl
   ·obtain⟨b,_,_,rfl⟩:=this;rfl
   ·obtain⟨b,rfl⟩:=this;rfl
  ·exact Sh.one hs.2 x hx
theorem aPu{t:TypeId}{n:Nat}(h:(t != 2 && (t != wO || Nat.ble n 3))=true):t≠2∧(t=wO→n≤3):=by
 rcases (Bool.and_eq_true _ _).mp h with⟨h1,h2⟩
 refine⟨bne_iff_ne.1 h1,fun e=>?_⟩;rcases (Bool.or_eq_true _ _).mp h2 with h3|h3
 ·exact absurd e (bne_iff_ne.1 h3)
 ·exact Nat.le_of_ble_eq_true h3
theorem JC.s3{n:Nat}{x:Ce}{T:TypeId}{p y:Operand}(hx:cs[n]? =some x)(form:∀v W,(l.getD x.src .any).holds v W→∃v0 v1 v2,v=.agg #[v0,v1,v2]∧Sh x.ck [v0,v1,v2])(c:Ctx ops a F)(hr:Ja.Steps Tryz.prog ops (JC w0 ops l cs ks) F (i+1) rest)
  (ho:ops[i]? =some o:=by rfl) (hop:o.op=.store T p y:=by rfl) (hp:∀vals,(F vals).eval p=x.ptr vals:=by intro vals;kernel_rfl) (hy:∀vals,(F vals).eval y=vals x.src:=by intro vals;kernel_rfl)
  (hty:(x.t != 2 && (x.t != wO || Nat.ble x.ck.length 3))=true:=by kernel_rfl) (hst:x.st=i:=by rfl) (hf:((cs.eraseIdx n).all fun c=>c.al != some i && c.st != i)=true:=by kernel_rfl) (hl:l.getD i .any=.any:=by rfl) (hok:(l.all Vs.ok && ks.all fun p=>p.2.ok)=true:=by kernel_rfl)
  (hck:dG ops cs=true:=by kernel_rfl) (hg:bW ops l o true=true:=by kernel_rfl) (hS:∀w,Sem.run Tryz.prog (sizeOf T) w=.ok 3 w:=by intro _;kernel_rfl):
  Ja.Steps Tryz.prog ops (JC w0 ops l cs ks) F i (o::rest):=
 Ja.Steps.cons (JC.store c hck ho hg hx (aPu hty) hst hf hl hok (fun L vals w g old hJ hpt ho' hs K hK=>by
  obtain⟨v0,v1,v2,e,hsh⟩:=form _ _ hs;obtain⟨row,e2,hsr,hb⟩:=ho';have hlen:row.length=3:=(by rw[hsr.length,←hsh.length];rfl);obtain⟨u0,u1,u2,rfl⟩:∃u0 u1 u2,row=[u0,u1,u2]:=by
   match row,hlen with
   | [u0,u1,u2],_=>exact⟨_,_,_,rfl⟩
  have h1:=st3 hb (Sh.one hsh v0 (by simp)) (Sh.one hsh v1 (by simp)) (Sh.one hsh v2 (by simp)) hop ((hp vals).trans hpt) ((hy vals).trans e) hS;unfold Oper.wp;rw[h1,Oper.upon_skip];exact hK.out undef _ _ rfl ⟨_,e,hsh,rfl⟩)) hr
end
section
variable {P:Program} {ops:Array Oper} {Q':Exit→Act→World→Prop} {F:(Nat→Value)→Act} {a:Act} {w:World}
end
end K
section
open Go.RowKit
open Ma Me
section
variable {fn:Func} {R:Ending→World→Prop} {a:Act} {w:World} {g:Nat} {T:TypeId} {c t:Nat} {v0 v1 v2:Value}
theorem rz3(h0:w.cell? ⟨g,0,none⟩=some v0)(h1:w.cell? ⟨g,1,none⟩=some v1)(h2:w.cell? ⟨g,2,none⟩=some v2)(hR:R (.returned (.agg #[v0,v1,v2])) w)
  (hres:fn.results=#[.cell c T]:=by rfl) (hslot:a.tmps.getD c undef=.pointer (some ⟨g,0,none⟩):=by kernel_rfl) (hT:∀w,Sem.run Tryz.prog (isAgg T) w=.ok true w:=by intro _;kernel_rfl) (hS:∀w,Sem.run Tryz.prog (sizeOf T) w=.ok 3 w:=by intro _;kernel_rfl)
  (hd:a.defers=[]:=by rfl):bodyPost Tryz.prog fn R .ret a w:=by
 refine bodyPost_ret (v:=.agg #[v0,v1,v2]) ?_ hd hR;unfold results;rw[hres];rw[Array.getD_eq_getD_getElem?]at hslot;simp[go_sem,hslot,hT,hS,loadVar,loadCells,loadCellsFrom,Addr.add,h0,h1,h2]
theorem rt3(u:Value)(h0:w.cell? ⟨g,0,none⟩=some v0)(h1:w.cell? ⟨g,1,none⟩=some v1)(h2:w.cell? ⟨g,2,none⟩=some v2)(hR:R (.returned (.tuple #[.agg #[v0,v1,v2],u])) w)
  (hres:fn.results=#[.cell c T,.tmp t]:=by rfl) (hu:a.tmps.getD t undef=u:=by rfl) (hslot:a.tmps.getD c undef=.pointer (some ⟨g,0,none⟩):=by kernel_rfl) (hT:∀w,Sem.run Tryz.prog (isAgg T) w=.ok true w:=by intro _;kernel_rfl) (hS:∀w,Sem.run Tryz.prog (sizeOf T) w=.ok 3 w:=by intro _;kernel_rfl)
  (hd:a.defers=[]:=by rfl):bodyPost Tryz.prog fn R .ret a w:=by
 refine bodyPost_ret (v:=.tuple #[.agg #[v0,v1,v2],u]) ?_ hd hR;unfold results;rw[hres];rw[Array.getD_eq_getD_getElem?]at hslot hu;simp[go_sem,hslot,hu,hT,hS,loadVar,loadCells,loadCellsFrom,Addr.add,h0,h1,h2]
end
def Nb(w:World)(g:Nat)(s:Bool)(t b:Value):Prop:=w.heap[g]? =some (.cells #[.bool s,t,b] 51 (0,0))
theorem Nb.cells{w:World}{g:Nat}{s:Bool}{t b:Value}(h:Nb w g s t b):w.cell? ⟨g,0,none⟩=some (.bool s)∧w.cell? ⟨g,1,none⟩=some t∧w.cell? ⟨g,2,none⟩=some b:=by
 unfold Nb at h;refine⟨?_,?_,?_⟩<;>simp[World.cell?,h]
theorem Nb.frozen{w:World}{g:Nat}{s:Bool}{t b:Value}(h:Nb w g s t b)(i:Nat):w.frozen? ⟨g,i,none⟩=false:=by
 unfold Nb at h;simp[World.frozen?,h]
theorem Nb.lt{w:World}{g:Nat}{s:Bool}{t b:Value}(h:Nb w g s t b):g<w.heap.size:=by
 rcases Nat.lt_or_ge g w.heap.size with hlt|hge
 ·exact hlt
 ·unfold Nb at h;rw[Array.getElem?_eq_none hge]at h;cases h
theorem Nb.q{w w':World}{g:Nat}{s:Bool}{t b:Value}(h:Nb w g s t b)(hq:Q w w'):Nb w' g s t b:=(hq.heap h.lt).trans h
theorem Nb.new(w:World)(s:Bool)(t b:Value):Nb (w.alloc (.cells #[.bool s,t,b] 51)) w.heap.size s t b:=heap_alloc_new w _
def put3(w:World)(g:Nat)(s:Bool)(t b:Value):World:=((w.setCell ⟨g,0,none⟩ (.bool s)).setCell ⟨g,1,none⟩ t).setCell ⟨g,2,none⟩ b
theorem Nb.put{w:World}{g:Nat}{s s':Bool}{t b t' b':Value}(h:Nb w g s' t' b'):Nb (put3 w g s t b) g s t b:=by
 unfold Nb at h⊢;unfold put3;simp[World.setCell,Array.getElem?_modify,h]
theorem aCo{a w:World}{g:Nat}{s:Bool}{t b:Value}(h:Q a w)(hg:a.heap.size≤g):Q a (put3 w g s t b):=
 ((h.setCell (p:=⟨g,0,none⟩) hg _).setCell (p:=⟨g,1,none⟩) hg _).setCell (p:=⟨g,2,none⟩) hg _
theorem aGX{w:World}{g k:Nat}{s:Bool}{t b:Value}(h:k≠g):(put3 w g s t b).heap[k]? =w.heap[k]? :=by
 unfold put3;rw[Below.heap_setCell _ _ _ _ h,Below.heap_setCell _ _ _ _ h,Below.heap_setCell _ _ _ _ h]
theorem aGY{w:World}{g:Nat}{s:Bool}{t b:Value}:(put3 w g s t b).heap.size=w.heap.size:=by
 unfold put3;simp
theorem Me.Nm.put3{w:World}{x:Value}{N g:Nat}{s s':Bool}{A1 A2:Option Addr}{n1 c1 n2 c2:Nat}{t' b':Value}(h:Nm w x N)(hb:Nb w g s (.slice A1 n1 c1) (.slice A2 n2 c2)):Nm (put3 w g s' t' b') x N:=by
 obtain⟨A,c,ws,rfl,h2,h3,h4,h5⟩:=h;refine⟨A,c,ws,rfl,h2,fun hn=>?_,h4,h5⟩;obtain⟨bl,o,rfl,hlt,hc⟩:=h3 hn;have hne:bl≠g:=by
  rintro rfl;have h6:=hc 0 _ (List.getElem?_eq_getElem hn);unfold Nb at hb;simp[World.cell?,hb]at h6;rcases o with _|_|_|o
  ·simp at h6
  ·simp at h6
  ·simp at h6
  ·simp at h6
 refine⟨bl,o,rfl,by rw[aGY];exact hlt,fun j d hd=>?_⟩;have:=hc j d hd;unfold World.cell? at this⊢;rw[aGX hne];exact this
theorem Nf.put3{w:World}{v:Value}{N D g:Nat}{s0 s s':Bool}{A1 A2:Option Addr}{n1 c1 n2 c2:Nat}{t' b':Value}(h:Nf w v s0 N D)(hb:Nb w g s (.slice A1 n1 c1) (.slice A2 n2 c2)):Nf (put3 w g s' t' b') v s0 N D:=by
 obtain⟨t,b,h1,h2,h3⟩:=h;exact⟨t,b,h1,h2.put3 hb,h3.put3 hb⟩
theorem kI(s:Bool)(t b:Value)(N D:Nat)(w:World)(ht:Nm w t N)(hb:Nm w b D):Calls Tryz.prog 136 #[.bool s,t,b] w
  fun e w'=>∃v,e=.returned v∧Nf w' v (decide (0<N) && s) N (if N=0 then 0 else bt D)∧Q w w':=by
 obtain⟨A,c,rfl,hc⟩:=ht.parts;obtain⟨A2,c2,rfl,hc2⟩:=hb.parts;obtain⟨L,hL⟩:∃L,dg W64 N=L:=⟨_,rfl⟩
 obtain⟨L2,hL2⟩:∃L,dg W64 D=L:=⟨_,rfl⟩
 rw[hL]at hc ht⊢;rw[hL2]at hc2 hb⊢;have hz:L=0↔N=0:=by
  rw[←hL];exact⟨fun h=>bO aD h,fun h=>by rw[h,aZ]⟩
 have HZ:=hZ hz;clear hL hL2 hz;have hq0:Q w (w.alloc (.cells #[.bool false,.slice none 0 0,.slice none 0 0] 51)):=(Q.refl _).alloc _;have hn0:=Nb.new w false (.slice none 0 0) (.slice none 0 0);have hfz:=hn0.frozen;obtain⟨e0,e1,e2⟩:=hn0.cells;rcases Nat.eq_zero_or_pos L with h0|h0
 ·have k1:((L:Int) == 0)=true:=(by rw[h0];rfl);have hN:=HZ.out.1 h0;have HN:=hZ hN;clear hN h0;go_enter Tryz.func136,Tryz.ntmps136
  go_wp2_with fail
  have hqF:Q w (w.alloc (.cells #[.bool false,.slice none 0 0,.slice none 0 0] 51)):=(Q.refl _).alloc _;refine bodyPost_ret (v:=.agg #[.bool false,.slice none 0 0,.slice none 0 0]) (by simp[results,Tryz.results136,go_sem]) rfl ?_;refine⟨_,rfl,?_,hqF⟩;exact⟨_,_,rfl,Nm.zero _ _,Nm.zero _ _⟩
 ·have k1:((L:Int) == 0)=false:=beq_eq_false_iff_ne.2 (by omega);have hN:N≠0:=fun h=>(by have:=HZ.out.2 h;omega);have hN0:decide (0<N)=true:=(by simp;omega);have hres:(if N=0 then 0 else bt D)=bt D:=(by rw[if_neg hN]);rw[hres,hN0,Bool.true_and];have ht1:=ht.q hq0;have hb1:=hb.q hq0;go_enter Tryz.func136,Tryz.ntmps136
  go_wp2_with fail
  refine (vR _ D _ hb1).mono ?_;rintro e w1 ⟨rfl,rfl⟩;by_cases h1:D=1
  ·have k2:decide (D=1)=true:=(by simp[h1]);rw[k2];go_wp2_with fail
   have hqF:Q w (w.alloc (.cells #[.bool s,.slice A L c,.slice none 0 0] 51)):=(Q.refl _).alloc _;refine bodyPost_ret (v:=.agg #[.bool s,.slice A L c,.slice none 0 0]) (by simp[results,Tryz.results136,go_sem]) rfl ?_;refine⟨_,rfl,⟨_,_,rfl,ht.q hqF,?_⟩,hqF⟩;rw[show bt D=0 from by simp[bt,h1]];exact Nm.zero _ _
  ·have k2:decide (D=1)=false:=(by simp[h1]);rw[k2];go_wp2_with fail
   have hqF:Q w (w.alloc (.cells #[.bool s,.slice A L c,.slice A2 L2 c2] 51)):=(Q.refl _).alloc _;refine bodyPost_ret (v:=.agg #[.bool s,.slice A L c,.slice A2 L2 c2]) (by simp[results,Tryz.results136,go_sem]) rfl ?_;refine⟨_,rfl,⟨_,_,rfl,ht.q hqF,?_⟩,hqF⟩;rw[show bt D=D from by simp[bt,h1]];exact hb.q hqF
theorem gH(s:Bool)(t:Value)(N:Nat)(w:World)(ht:Nm w t N):Calls Tryz.prog 59 #[.bool s,t] w
  fun e w'=>∃v,e=.returned v∧Nf w' v (decide (0<N) && s) N 0∧Q w w':=by
 obtain⟨A,c,rfl,hc⟩:=ht.parts;obtain⟨s1,hs1⟩:∃s1,(decide (0<N) && s)=s1:=⟨_,rfl⟩
 rw[hs1];have HS:=hZ hs1;clear hs1;have hq0:Q w (w.alloc (.cells #[.bool false,.slice none 0 0,.slice none 0 0] 51)):=(Q.refl _).alloc _;have hn0:=Nb.new w false (.slice none 0 0) (.slice none 0 0);have ht1:=ht.q hq0;go_enter Tryz.func59,Tryz.ntmps59
 go_wp2_with fail
 refine (kI s _ _ N 0 _ ht1 (Nm.zero _ _)).mono ?_;rintro e w1 ⟨v,rfl,hv,hq1⟩;rw[show (if N=0 then 0 else bt 0)=0 from by split<;>rfl]at hv;rw[HS.out]at hv;obtain⟨A1,c1,A2,c2,rfl,hv1,hv2⟩:=hv.form;have hn1:=hn0.q hq1;have hfz:=hn1.frozen;obtain⟨e0,e1,e2⟩:=hn1.cells;generalize w.alloc (.cells #[.bool false,.slice none 0 0,.slice none 0 0] 51)=w0 at*
 generalize dg W64 N=L at*
 generalize dg W64 0=L2 at*
 go_wp2_with fail
 have hF:=hn1.put (s:=s1) (t:=.slice A1 L c1) (b:=.slice A2 L2 c2);have hqF:=aCo (g:=w.heap.size) (s:=s1) (t:=.slice A1 L c1) (b:=.slice A2 L2 c2) (hq0.trans hq1) (Nat.le_refl _);have hvF:=hv.put3 (s':=s1) (t':=.slice A1 L c1) (b':=.slice A2 L2 c2) hn1;obtain⟨r0,r1,r2⟩:=hF.cells;unfold put3 at r0 r1 r2 hqF hvF;refine rz3 r0 r1 r2 ?_;exact⟨_,rfl,hvF,hqF⟩
theorem aDP(v:Value)(s:Bool)(N D:Nat)(w:World)(hv:Nf w v s N D):Calls Tryz.prog 56 #[v] w fun e w'=>e=.returned (.bool (decide (D=0)))∧Q w w':=by
 obtain⟨A1,c1,A2,c2,rfl,hv1,hv2⟩:=hv.form;have hz:=zF (D:=D);generalize dg W64 N=L at*
 generalize dg W64 D=L2 at*
 have hq0:Q w (w.alloc (.cells #[.bool s,.slice A1 L c1,.slice A2 L2 c2] 51)):=(Q.refl _).alloc _;have hn0:=Nb.new w s (.slice A1 L c1) (.slice A2 L2 c2);have hfz:=hn0.frozen;obtain⟨e0,e1,e2⟩:=hn0.cells;have k1:((L2:Int) == 0)=decide (D=0):=by
  by_cases h:L2=0
  ·have:=hz.1 h;simp[h,this]
  ·have h2:¬D=0:=fun h3=>h (hz.2 h3);rw[decide_eq_false h2];exact beq_eq_false_iff_ne.2 (by omega)
 clear hz;go_enter Tryz.func56,Tryz.ntmps56
 go_wp2_with fail
 go_ret
 exact⟨rfl,hq0⟩
theorem aK1(v:Value)(s:Bool)(N D:Nat)(w:World)(hv:Nf w v s N D):Calls Tryz.prog 205 #[v] w fun e w'=>∃r,e=.returned r∧Nm w' r (if D=0 then 1 else D)∧Q w w':=by
 obtain⟨A1,c1,A2,c2,rfl,hv1,hv2⟩:=hv.form;have hz:=zF (D:=D);generalize dg W64 N=L at*
 generalize dg W64 D=L2 at*
 have hq0:Q w (w.alloc (.cells #[.bool s,.slice A1 L c1,.slice A2 L2 c2] 51)):=(Q.refl _).alloc _;have hn0:=Nb.new w s (.slice A1 L c1) (.slice A2 L2 c2);have hfz:=hn0.frozen;obtain⟨e0,e1,e2⟩:=hn0.cells;rcases Nat.eq_zero_or_pos L2 with h|h
 ·have k1:((L2:Int) == 0)=true:=(by rw[h];rfl);have hD:=hz.1 h;rw[if_pos hD];clear hz h hD;go_enter Tryz.func205,Tryz.ntmps205
  go_wp2_with fail
  refine (fC 1 1 _ rfl (by decide)).mono ?_;rintro e w7 ⟨ov,rfl,hov,hq7',-⟩;go_wp2_with fail
  go_ret
  exact⟨_,rfl,hov,hq0.trans hq7'⟩
 ·have k1:((L2:Int) == 0)=false:=beq_eq_false_iff_ne.2 (by omega);have hD:¬D=0:=fun h3=>(by have:=hz.2 h3;omega);rw[if_neg hD];clear hz h hD;go_enter Tryz.func205,Tryz.ntmps205
  go_wp2_with fail
  go_ret
  exact⟨_,rfl,hv2.q hq0,hq0⟩
theorem aM4(v:Value)(s:Bool)(N D:Nat)(w:World)(hv:Nf w v s N D):Calls Tryz.prog 261 #[v] w fun e w'=>∃r,e=.returned r∧Nf w' r false N D∧Q w w':=by
 obtain⟨A1,c1,A2,c2,rfl,hv1,hv2⟩:=hv.form;generalize dg W64 N=L at*
 generalize dg W64 D=L2 at*
 have hq0:Q w (w.alloc (.cells #[.bool s,.slice A1 L c1,.slice A2 L2 c2] 51)):=(Q.refl _).alloc _;have hn0:=Nb.new w s (.slice A1 L c1) (.slice A2 L2 c2);have hfz:=hn0.frozen;obtain⟨e0,e1,e2⟩:=hn0.cells;have hqq:=hq0.alloc (.cells #[.bool false,.slice A1 L c1,.slice A2 L2 c2] 51);go_enter Tryz.func261,Tryz.ntmps261
 go_wp2_with fail
 refine bodyPost_ret (v:=.agg #[.bool false,.slice A1 L c1,.slice A2 L2 c2]) (by simp[results,Tryz.results261,go_sem]) rfl ?_;exact⟨_,rfl,⟨_,_,rfl,hv1.q hqq,hv2.q hqq⟩,hqq⟩
theorem yQ(v:Value)(s:Bool)(N D:Nat)(w:World)(hv:Nf w v s N D):Calls Tryz.prog 165 #[v] w fun e w'=>∃r,e=.returned r∧Nf w' r (!s && decide (0<N)) N D∧Q w w':=by
 obtain⟨A1,c1,A2,c2,rfl,hv1,hv2⟩:=hv.form;have hz:=zF (D:=N);obtain⟨L,hL⟩:∃L,dg W64 N=L:=⟨_,rfl⟩
 rw[hL]at hz hv1 hv⊢;generalize dg W64 D=L2 at*
 have hd:decide (0<N)=decide (0<L):=by
  by_cases h:N=0
  ·rw[h,hz.2 h]
  ·have h2:¬L=0:=fun h3=>h (hz.1 h3);rw[decide_eq_true (by omega),decide_eq_true (by omega)]
 rw[hd];clear hz hL hd;have hq0:Q w (w.alloc (.cells #[.bool s,.slice A1 L c1,.slice A2 L2 c2] 51)):=(Q.refl _).alloc _;have hn0:=Nb.new w s (.slice A1 L c1) (.slice A2 L2 c2);have hfz:=hn0.frozen;obtain⟨e0,e1,e2⟩:=hn0.cells;cases s
 ·have hqq:=hq0.alloc (.cells #[.bool (decide (0<L)),.slice A1 L c1,.slice A2 L2 c2] 51);go_enter Tryz.func165,Tryz.ntmps165
  go_wp2_with fail
  refine bodyPost_ret (v:=.agg #[.bool (decide (0<L)),.slice A1 L c1,.slice A2 L2 c2]) (by simp[results,Tryz.results165,go_sem]) rfl ?_;exact⟨_,rfl,⟨_,_,rfl,hv1.q hqq,hv2.q hqq⟩,hqq⟩
 ·have hqq:=hq0.alloc (.cells #[.bool false,.slice A1 L c1,.slice A2 L2 c2] 51);go_enter Tryz.func165,Tryz.ntmps165
  go_wp2_with fail
  refine bodyPost_ret (v:=.agg #[.bool false,.slice A1 L c1,.slice A2 L2 c2]) (by simp[results,Tryz.results165,go_sem]) rfl ?_;exact⟨_,rfl,⟨_,_,rfl,hv1.q hqq,hv2.q hqq⟩,hqq⟩
theorem aCp(z:Int)(w:World)(h0:-9223372036854775808≤z)(h1:z≤9223372036854775807):Calls Tryz.prog 61 #[.int .i64 z] w fun e w'=>e=.returned (.int .u64 (z.natAbs:Int))∧w'=w:=by
 by_cases hs:z<0
 ·have k1:IntKind.u64.wrap z=z+18446744073709551616:=by
   rw[IntKind.wrap_u64];omega
  have k2:IntKind.u64.wrap (-(z+18446744073709551616))=(z.natAbs:Int):=(by rw[IntKind.wrap_u64];omega);go_enter Tryz.func61,Tryz.ntmps61
  go_wp2_with fail
  go_ret
  exact⟨rfl,rfl⟩
 ·have k1:IntKind.u64.wrap z=(z.natAbs:Int):=(by rw[IntKind.wrap_u64];omega);have k2:z≤0∨0≤z:=(by omega);go_enter Tryz.func61,Tryz.ntmps61
  go_wp2_with fail
  go_ret
  exact⟨rfl,rfl⟩
theorem aOv(z:Int)(w:World)(h0:-9223372036854775808≤z)(h1:z≤9223372036854775807):Calls Tryz.prog 17 #[.int .i64 z] w fun e w'=>∃r,e=.returned r∧Nf w' r (decide (z<0)) z.natAbs 0∧Q w w':=by
 have hq0:Q w (w.alloc (.cells #[.bool false,.slice none 0 0,.slice none 0 0] 51)):=(Q.refl _).alloc _;have hn0:=Nb.new w false (.slice none 0 0) (.slice none 0 0);obtain⟨N,hN⟩:∃N,z.natAbs=N:=⟨_,rfl⟩
 have hs:(decide (0<N) && decide (z<0))=decide (z<0):=by
  by_cases h:z<0
  ·rw[decide_eq_true h,decide_eq_true (by omega)];rfl
  ·rw[decide_eq_false h,Bool.and_false]
 have hb:N<18446744073709551616:=by omega
 rw[hN];go_enter Tryz.func17,Tryz.ntmps17
 go_wp2_with fail
 refine (aCp z _ h0 h1).mono ?_;rintro e w1 ⟨rfl,rfl⟩;rw[hN];have HS:=hZ hs;clear hs hN;go_wp2_with fail
 refine (fC _ N _ rfl hb).mono ?_;rintro e w1 ⟨nv,rfl,hnv,hq1,-⟩;obtain⟨An,kn,cn,rfl⟩:=hnv.form;have hn1:=hn0.q hq1;have hq01:=hq0.trans hq1;go_wp2_with fail
 refine (gH (decide (z<0)) _ N _ hnv).mono ?_;rintro e w2 ⟨v,rfl,hv,hq2⟩;rw[HS.out]at hv;obtain⟨A1,c1,A2,c2,rfl,hv1,hv2⟩:=hv.form;have hn2:=hn1.q hq2;have hfz:=hn2.frozen;obtain⟨e0,e1,e2⟩:=hn2.cells;generalize w.alloc (.cells #[.bool false,.slice none 0 0,.slice none 0 0] 51)=w0 at*
 generalize dg W64 N=L at*
 generalize dg W64 0=L2 at*
 have hF:=hn2.put (s:=decide (z<0)) (t:=.slice A1 L c1) (b:=.slice A2 L2 c2);have hqF:=aCo (g:=w.heap.size) (s:=decide (z<0)) (t:=.slice A1 L c1) (b:=.slice A2 L2 c2) (hq01.trans hq2) (Nat.le_refl _);have hvF:=hv.put3 (s':=decide (z<0)) (t':=.slice A1 L c1) (b':=.slice A2 L2 c2) hn2;obtain⟨r0,r1,r2⟩:=hF.cells;unfold put3 at r0 r1 r2 hqF hvF;go_wp2_with fail
 refine rz3 r0 r1 r2 ?_;exact⟨_,rfl,hvF,hqF⟩
def sg(s:Bool)(N:Nat):Int:=if s then -(N:Int) else N
def un(d:Nat):Nat:=if d=0 then 1 else d
theorem yR(x y:Value)(N M:Nat)(w:World)(hT:Tb w)(hx:Nm w x N)(hy:Nm w y M)(hN0:0<N)(hB:8*(dg W64 N+dg W64 M)+80≤LIM):Calls Tryz.prog 155 #[x,y] w
  fun e w'=>∃a b,e=.returned (.tuple #[a,b])∧Nm w' a (N/Nat.gcd N (un M))∧Nm w' b (un M/Nat.gcd N (un M))∧Q w w':=by
 obtain⟨A1,k1,c1,rfl⟩:=hx.form;obtain⟨A2,c2,rfl,hc2⟩:=hy.parts;rcases Nat.eq_zero_or_pos M with h|h
 ·subst h;have e1:N/Nat.gcd N (un 0)=N:=(by simp[un]);have e2:un 0/Nat.gcd N (un 0)=1:=(by simp[un]);rw[e1,e2];rw[aZ]at hy hc2⊢;go_enter Tryz.func155,Tryz.ntmps155
  go_wp2_with fail
  refine (fC 1 1 _ rfl (by decide)).mono ?_;rintro e w7 ⟨ov,rfl,hov,hq,-⟩;go_wp2_with fail
  go_ret2
  exact⟨_,_,rfl,hx.q hq,hov,hq⟩
 ·have hz:=zF (D:=M);obtain⟨L,hL⟩:∃L,dg W64 M=L:=⟨_,rfl⟩
  rw[hL]at hz hy hc2 hB⊢;have k1:((L:Int) == 0)=false:=beq_eq_false_iff_ne.2 (by omega);have eu:un M=M:=(by unfold un;rw[if_neg (by omega)]);rw[eu];have HL:=hZ hL;clear hL hz eu;have hG0:0<Nat.gcd N M:=Nat.gcd_pos_of_pos_left M hN0;have hG1:dg W64 (Nat.gcd N M)≤dg W64 N:=bK aD (Nat.gcd_le_left M hN0);have hB1:4*(dg W64 N+dg W64 (Nat.gcd N M))+60≤LIM:=(by rw[aC]at*;omega);have hB2:4*(dg W64 M+dg W64 (Nat.gcd N M))+60≤LIM:=(by rw[aC]at*;rw[HL.out];omega);have HB:=hZ (show 8*(dg W64 N+dg W64 M)+80≤LIM from by rw[HL.out];exact hB);clear hB hG1;go_enter Tryz.func155,Tryz.ntmps155
  go_wp2_with fail
  refine (uI N M _ _ _ hT hx hy hN0 h HB.out).mono ?_;rintro e w1 ⟨dv,rfl,hd,hq1,-⟩;obtain⟨A3,k3,c3,rfl⟩:=hd.form;go_wp2_with fail
  refine (uG N (Nat.gcd N M) _ _ _ (hT.q hq1) (hx.q hq1) hd hG0 hB1).mono ?_;rintro e w2 ⟨av,rfl,ha,hq2,-⟩;have hq12:=hq1.trans hq2;go_wp2_with fail
  refine (uG M (Nat.gcd N M) _ _ _ (hT.q hq12) (hy.q hq12) (hd.q hq2) hG0 hB2).mono ?_;rintro e w3 ⟨bv,rfl,hb,hq3,-⟩;go_wp2_with fail
  go_ret2
  exact⟨_,_,rfl,ha.q hq3,hb,hq12.trans hq3⟩
end
namespace E
open Go Go.RowKit
open Ma Me K
noncomputable section
def nn(n:Nat):AV:=sc (.m n)
def nfr(s:Bool)(n d:Nat):AV:=.c true [.b s,.m n,.m d]
def aCq(s:Bool)(n d:Nat):AV:=nfr (decide (0<n) && s) n (if n=0 then 0 else bt d)
abbrev PF:=List AV→Option AV
open Classical in
def m1(p:Nat→Prop)(f:Nat→AV):PF:=fun l=>match l with| [.c false [.m n]]=>if p n then some (f n) else none|_=>none
open Classical in
def m2(p:Nat→Nat→Prop)(f:Nat→Nat→AV):PF:=fun l=>match l with| [.c false [.m n],.c false [.m m]]=>if p n m then some (f n m) else none|_=>none
def n1(f:Bool→Nat→Nat→AV):PF:=fun l=>match l with| [.c true [.b s,.m n,.m d]]=>some (f s n d)|_=>none
def aE8:PF:=fun l=>match l with
 | [.c false [.b s],.c false [.m n],.c false [.m d]]=>some (aCq s n d)
 |_=>none
def aE9:PF:=fun l=>match l with| [.c false [.b s],.c false [.m n]]=>some (nfr (decide (0<n) && s) n 0)|_=>none
open Classical in
def aAT:PF:=fun l=>match l with| [.c false [.i .u64 z]]=>if 0≤z∧z<18446744073709551616 then some (nn z.toNat) else none|_=>none
open Classical in
def aDQ:PF:=fun l=>match l with| [.c false [.i .i64 z]]=>if -9223372036854775808≤z∧z≤9223372036854775807 then some (sc (.i .u64 (z.natAbs:Int))) else none|_=>none
open Classical in
def vU:PF:=fun l=>match l with| [.c false [.m n],.c false [.i .i64 z]]=>if 0≤z∧z≤64∧64*dg W64 n+9≤LIM then some (nn (n^z.toNat)) else none|_=>none
def ub(d:Nat):Nat:=if d=0 then 1 else d
def cB(a b:Nat):Prop:=16*(dg W64 a+dg W64 b)+100≤LIM
def cP(z:Bool)(a b:Nat):Prop:=z=true∧cB a b∧0<a∧0<b
def cD(z:Bool)(a b:Nat):Prop:=z=true∧cB a b∧0<b
def cW(z:Bool)(a b:Nat):Prop:=z=true∧cB a b∧0<a
def cQ(a b:Nat):Prop:=cB a b∧0<b
def cM(a b:Nat):Prop:=cB a b∧b≤a
def ns(z:Bool):List (Nat × PF):=
 [(60,aAT),
  (61,aDQ),
  (215,m1 (fun _=>True) fun n=>sc (.b (decide (n=1)))),
  (239,m1 (fun n=>dg W64 n≤LIM) fun n=>sc (.i .i64 (Ma.bl n:Int))),
  (243,m1 (fun n=>dg W64 n≤LIM) nn),
  (238,m2 cB fun a b=>sc (.i .i64 (cmp a b))),
  (235,m2 cB fun a b=>nn (a+b)),
  (234,m2 cM fun a b=>nn (a-b)),
  (154,m2 cB fun a b=>nn (a*b)),
  (222,m2 (cP z) fun a b=>nn (Nat.gcd a b)),
  (236,m2 (cD z) fun a b=>nn (a/b)),
  (155,m2 (cW z) fun a b=>.t [(false,[.m (a/Nat.gcd a (ub b))]),(false,[.m (ub b/Nat.gcd a (ub b))])]),
  (203,m2 cQ fun a b=>.t [(false,[.m (a/b)]),(false,[.m (a % b)])]),
  (294,vU),
  (136,aE8),
  (59,aE9),
  (56,n1 fun _ _ d=>sc (.b (decide (d=0)))),
  (205,n1 fun _ _ d=>nn (if d=0 then 1 else d)),
  (261,n1 fun _ n d=>nfr false n d),
  (165,n1 fun s n d=>nfr (!s && decide (0<n)) n d)]
def nsT(z:Bool):T 3 PF:=T.ofL (ns z)
def FN(z:Bool):Cf:=⟨Tryz.prog,fun w=>z=true→Tb w,49,fun f=>(nsT z).get f,aAJ,fun _=>none,fun _ _=>none,fun r n=>cb r none (some (dg W64 n)),fun _=>none⟩
theorem lI{c:Cx}{n:Nat}{u:Value}:VR c (nn n) u↔Nm c.w u n:=aF
theorem mF{c:Cx}{s:Bool}{n d:Nat}{u:Value}:VR c (nfr s n d) u↔Nf c.w u s n d:=by
 constructor
 ·rintro⟨cs,rfl,h⟩
  match cs,h with
  | [x,y,z],h=>
    obtain⟨h1,h2,h3,-⟩:=h;cases h1;exact⟨y,z,rfl,h2,h3⟩
 ·rintro⟨t,b,rfl,h2,h3⟩;exact⟨[_,t,b],rfl,rfl,h2,h3,trivial⟩
def NOk(z:Bool)(fn:Nat)(g:PF):Prop:=∀(args:List AV) (v:AV),g args=some v→∀(c:Cx) (vs:List Value),(z=true→Tb c.w)→VL c args vs→
 Calls Tryz.prog fn vs.toArray c.w fun e w'=>∃u,e=.returned u∧Q c.w w'∧VR ⟨c.n,c.k,c.r,w',c.z⟩ v u
theorem nk1{z:Bool}{fn:Nat}{p:Nat→Prop}{f:Nat→AV}(h:∀x n (c:Cx),(z=true→Tb c.w)→Nm c.w x n→p n→Calls Tryz.prog fn #[x] c.w fun e w'=>∃u,e=.returned u∧Q c.w w'∧VR ⟨c.n,c.k,c.r,w',c.z⟩ (f n) u):NOk z fn (m1 p f):=by
 intro args v hx c vs hT hv;unfold m1 at hx;split at hx
 ·split at hx
  ·rename_i n hp;cases hx
   match vs,hv with
   | [x],hv=>exact h x n c hT (lI.1 hv.1) hp
  ·cases hx
 ·cases hx
theorem nk2{z:Bool}{fn:Nat}{p:Nat→Nat→Prop}{f:Nat→Nat→AV}(h:∀x y n m (c:Cx),(z=true→Tb c.w)→Nm c.w x n→Nm c.w y m→p n m→Calls Tryz.prog fn #[x,y] c.w fun e w'=>∃u,e=.returned u∧Q c.w w'∧VR ⟨c.n,c.k,c.r,w',c.z⟩ (f n m) u):NOk z fn (m2 p f):=by
 intro args v hx c vs hT hv;unfold m2 at hx;split at hx
 ·split at hx
  ·rename_i n m hp;cases hx
   match vs,hv with
   | [x,y],hv=>exact h x y n m c hT (lI.1 hv.1) (lI.1 hv.2.1) hp
  ·cases hx
 ·cases hx
theorem nk3{z:Bool}{fn:Nat}{f:Bool→Nat→Nat→AV}(h:∀x s n d (c:Cx),(z=true→Tb c.w)→Nf c.w x s n d→Calls Tryz.prog fn #[x] c.w fun e w'=>∃u,e=.returned u∧Q c.w w'∧VR ⟨c.n,c.k,c.r,w',c.z⟩ (f s n d) u):NOk z fn (n1 f):=by
 intro args v hx c vs hT hv;unfold n1 at hx;split at hx
 ·rename_i s n d;cases hx
  match vs,hv with
  | [x],hv=>exact h x s n d c hT (mF.1 hv.1)
 ·cases hx
theorem rR{fn:Nat}{args:Array Value}{c:Cx}{n:Nat}(h:Calls Tryz.prog fn args c.w (eQ n c.w)):Calls Tryz.prog fn args c.w fun e w'=>∃u,e=.returned u∧Q c.w w'∧VR ⟨c.n,c.k,c.r,w',c.z⟩ (nn n) u:=by
 refine h.mono ?_;rintro e w' ⟨r,h1,h2,h3,-⟩;exact⟨r,h1,h3,lI.2 h2⟩
theorem aAU{fn:Nat}{args:Array Value}{c:Cx}{s:Bool}{n d:Nat}(h:Calls Tryz.prog fn args c.w fun e w'=>∃r,e=.returned r∧Nf w' r s n d∧Q c.w w'):Calls Tryz.prog fn args c.w fun e w'=>∃u,e=.returned u∧Q c.w w'∧VR ⟨c.n,c.k,c.r,w',c.z⟩ (nfr s n d) u:=by
 refine h.mono ?_;rintro e w' ⟨r,h1,h2,h3⟩;exact⟨r,h1,h3,mF.2 h2⟩
theorem yS{fn:Nat}{args:Array Value}{c:Cx}{s:SV}{u:Value}(hs:∀w',SR ⟨c.n,c.k,c.r,w',c.z⟩ s u)(h:Calls Tryz.prog fn args c.w fun e w'=>e=.returned u∧Q c.w w'):Calls Tryz.prog fn args c.w fun e w'=>∃u,e=.returned u∧Q c.w w'∧VR ⟨c.n,c.k,c.r,w',c.z⟩ (sc s) u:=by
 refine h.mono ?_;rintro e w' ⟨h1,h2⟩;exact⟨u,h1,h2,aF.2 (hs w')⟩
theorem pV{a b:Nat}(h:cB a b):dg W64 a≤LIM∧dg W64 b≤LIM∧dg W64 a+1≤LIM∧dg W64 b+1≤LIM∧dg W64 a+dg W64 b+8≤LIM∧8*(dg W64 a+dg W64 b)+80≤LIM∧4*(dg W64 a+dg W64 b)+60≤LIM:=by
 unfold cB at h;omega
theorem aOw{z:Bool}:∀p∈ns z,NOk z p.1 p.2:=by
 intro p hp;unfold ns at hp;simp only[List.mem_cons,List.not_mem_nil,or_false]at hp;rcases hp with rfl|rfl|rfl|rfl|rfl|rfl|rfl|rfl|rfl|rfl|rfl|rfl|rfl|rfl|rfl|rfl|rfl|rfl|rfl|rfl
 ·intro args v hx c vs hT hv;show Calls Tryz.prog 60 _ _ _;unfold aAT at hx;dsimp only at hx;split at hx
  ·split at hx
   ·rename_i z hz;cases hx
    match vs,hv with
    | [x],hv=>
      have hu:x=.int .u64 z:=aF.1 hv.1;subst hu;exact rR (fC z z.toNat c.w (by omega) (by unfold W64;omega))
   ·cases hx
  ·cases hx
 ·intro args v hx c vs hT hv;show Calls Tryz.prog 61 _ _ _;unfold aDQ at hx;dsimp only at hx;split at hx
  ·split at hx
   ·rename_i z hz;cases hx
    match vs,hv with
    | [x],hv=>
      have hu:x=.int .i64 z:=aF.1 hv.1;subst hu;exact yS (fun _=>rfl) ((aCp z c.w hz.1 hz.2).mono fun e w' h=>⟨h.1,h.2▸Q.refl _⟩)
   ·cases hx
  ·cases hx
 ·exact nk1 fun x n c hT h1 _=>yS (fun _=>rfl) ((vR x n c.w h1).mono fun e w' h=>⟨h.1,h.2▸Q.refl _⟩)
 ·exact nk1 fun x n c hT h1 hp=>yS (fun _=>rfl) ((pR x n c.w h1 hp).mono fun e w' h=>⟨h.1,h.2▸Q.refl _⟩)
 ·exact nk1 fun x n c hT h1 hp=>rR (vS x n c.w h1 hp)
 ·exact nk2 fun x y n m c hT h1 h2 hp=>yS (fun _=>rfl) (bM x y n m c.w h1 h2 (pV hp).1 (pV hp).2.1)
 ·exact nk2 fun x y n m c hT h1 h2 hp=>rR (aCf x y n m c.w h1 h2 (pV hp).2.2.1 (pV hp).2.2.2.1)
 ·exact nk2 fun x y n m c hT h1 h2 hp=>rR (qP x y n m c.w h1 h2 hp.2 (pV hp.1).1)
 ·exact nk2 fun x y n m c hT h1 h2 hp=>rR (kY n m x y c.w h1 h2 (pV hp).2.2.2.2.1)
 ·exact nk2 fun x y n m c hT h1 h2 hp=>rR (uI n m x y c.w (hT hp.1) h1 h2 hp.2.2.1 hp.2.2.2 (pV hp.2.1).2.2.2.2.2.1)
 ·exact nk2 fun x y n m c hT h1 h2 hp=>(uG n m x y c.w (hT hp.1) h1 h2 hp.2.2 (pV hp.2.1).2.2.2.2.2.2).mono fun e w' h=>by
   obtain⟨v,h3,h4,h5,-⟩:=h;exact⟨v,h3,h5,lI.2 h4⟩
 ·exact nk2 fun x y n m c hT h1 h2 hp=>(yR x y n m c.w (hT hp.1) h1 h2 hp.2.2 (pV hp.2.1).2.2.2.2.2.1).mono fun e w' h=>by
   obtain⟨a,b,h3,h4,h5,h6⟩:=h;exact⟨_,h3,h6,[a,b],rfl,⟨_,rfl,h4⟩,⟨_,rfl,h5⟩,trivial⟩
 ·exact nk2 fun x y n m c hT h1 h2 hp=>(rQ n m x y c.w h1 h2 hp.2 (pV hp.1).2.2.2.2.2.2).mono fun e w' h=>by
   obtain⟨a,b,h3,h4,h5,h6,-⟩:=h;exact⟨_,h3,h6,[a,b],rfl,⟨_,rfl,h4⟩,⟨_,rfl,h5⟩,trivial⟩
 ·intro args v hx c vs hT hv;show Calls Tryz.prog 294 _ _ _;unfold vU at hx;dsimp only at hx;split at hx
  ·split at hx
   ·rename_i n z hz;cases hx
    match vs,hv with
    | [x,y],hv=>
      have hu:y=.int .i64 z:=aF.1 hv.2.1;subst hu;refine rR (aCj x n z.toNat z c.w (lI.1 hv.1) (by omega) ?_ (by omega));have:z.toNat*dg W64 n≤64*dg W64 n:=Nat.mul_le_mul_right _ (by omega);omega
   ·cases hx
  ·cases hx
 ·intro args v hx c vs hT hv;show Calls Tryz.prog 136 _ _ _;unfold aE8 at hx;dsimp only at hx;split at hx
  ·rename_i s n d;cases hx
   match vs,hv with
   | [x,y,z],hv=>
     have hu:x=.bool s:=aF.1 hv.1;subst hu;exact aAU (kI s y z n d c.w (lI.1 hv.2.1) (lI.1 hv.2.2.1))
  ·cases hx
 ·intro args v hx c vs hT hv;show Calls Tryz.prog 59 _ _ _;unfold aE9 at hx;dsimp only at hx;split at hx
  ·rename_i s n;cases hx
   match vs,hv with
   | [x,y],hv=>
     have hu:x=.bool s:=aF.1 hv.1;subst hu;exact aAU (gH s y n c.w (lI.1 hv.2.1))
  ·cases hx
 ·exact nk3 fun x s n d c hT h1=>yS (fun _=>rfl) (aDP x s n d c.w h1)
 ·exact nk3 fun x s n d c hT h1=>(aK1 x s n d c.w h1).mono fun e w' h=>by
   obtain⟨v,h3,h4,h5⟩:=h;exact⟨v,h3,h5,lI.2 h4⟩
 ·exact nk3 fun x s n d c hT h1=>aAU (aM4 x s n d c.w h1)
 ·exact nk3 fun x s n d c hT h1=>aAU (yQ x s n d c.w h1)
theorem aPv(z:Bool):FOk (FN z):=by
 refine⟨fun f G h=>?_,fun _ _ hq h e=>(h e).q hq,fun fn g args v hg hx c vs hb hv=>aOw _ (vQ (show (T.ofL (ns z):T 3 _).get fn=some g from hg)) args v hx c vs hb hv,fun _ _ _ h=>(by cases h),fun n k=>⟨fun h w v hv=>?_,fun h=>(by cases h)⟩,fun _ _ _ _ _ h=>(by cases h),fun _ _ _ _ _ _ _ h=>(by cases h)⟩
 ·have:=aDJ aGH h;unfold ngB at this;simpa using this
 ·injection h with h;obtain⟨A,c,e,-⟩:=hv.parts;exact⟨A,c,h▸e⟩
end
end E
section
open Go.RowKit
open Ma Me
theorem qV(q:Rat):sg (decide (q.num<0)) q.num.natAbs=q.num:=by
 unfold sg;by_cases h:q.num<0
 ·rw[if_pos (decide_eq_true h)];omega
 ·rw[if_neg (by rw[decide_eq_false h];decide)];omega
theorem Nq.of{w:World}{v:Value}{s:Bool}{N D:Nat}{q:Rat}(h:Nf w v s N (bt D))(hs:s=true→0<N)(hn:q.num=sg s N)(hd:q.den=D):Nq w v q:=by
 have e1:decide (q.num<0)=s:=by
  rw[hn];cases s
  ·exact decide_eq_false (by simp[sg])
  ·have:=hs rfl;exact decide_eq_true (by simp only[sg,if_pos];omega)
 have e2:q.num.natAbs=N:=by
  rw[hn];cases s<;>simp[sg]
 unfold Nq;rw[e1,e2,hd];exact h
theorem aOx(z:Int)(w:World)(h0:-9223372036854775808≤z)(h1:z≤9223372036854775807):Calls Tryz.prog 17 #[.int .i64 z] w fun e w'=>∃r,e=.returned r∧Nq w' r (z:Rat)∧Q w w':=by
 refine (aOv z w h0 h1).mono ?_;rintro e w' ⟨r,h1,h2,h3⟩;refine⟨r,h1,?_,h3⟩;unfold Nq;rw[Rat.num_intCast,Rat.den_intCast];exact h2
theorem aK2(v:Value)(q:Rat)(w:World)(hv:Nq w v q):Calls Tryz.prog 56 #[v] w fun e w'=>e=.returned (.bool (decide (q.den=1)))∧Q w w':=by
 refine (aDP v _ _ _ w hv).mono ?_;rintro e w' ⟨h1,h2⟩;refine⟨?_,h2⟩;rw[h1];congr 2;exact decide_eq_decide.2 (wF q)
theorem aFa(v:Value)(q:Rat)(w:World)(hv:Nq w v q):Calls Tryz.prog 165 #[v] w fun e w'=>∃r,e=.returned r∧Nq w' r (-q)∧Q w w':=by
 refine (yQ v _ _ _ w hv).mono ?_;rintro e w' ⟨r,h1,h2,h3⟩;refine⟨r,h1,?_,h3⟩;unfold Nq;rw[Rat.neg_num,Rat.neg_den,Int.natAbs_neg];have e:decide (-q.num<0)=(!decide (q.num<0) && decide (0<q.num.natAbs)):=by
  by_cases h:q.num<0
  ·rw[decide_eq_true h,decide_eq_false (by omega)];rfl
  ·rw[decide_eq_false h,Bool.not_false,Bool.true_and];exact decide_eq_decide.2 (by omega)
 rw[e];exact h2
end
end Go.Proofs.YtamnpcdkcdfgaaaGreatDoor
