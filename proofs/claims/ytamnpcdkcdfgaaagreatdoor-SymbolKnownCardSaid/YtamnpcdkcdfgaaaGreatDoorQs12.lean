/- SymbolKnown holds. No condition. -/
import Derived.BigQuiet
import Derived.WalkLawsBesides
import Derived.WalkSpells
import Derived.Test.YtamnpcdkcdfgaaaGreatDoorQs04
import Derived.Test.YtamnpcdkcdfgaaaGreatDoorQs10
import Derived.Test.YtamnpcdkcdfgaaaGreatDoorQs11
set_option maxHeartbeats 1000000
set_option maxRecDepth 100000
namespace Go.Proofs.YtamnpcdkcdfgaaaGreatDoor
section
open Go.RowKit
open Ma Me
def dO(x y c:Nat):Nat × Nat:=((x+y+c) % W64,(x+y+c)/W64)
theorem wU(x y c:Nat)(hx:x<W64)(hy:y<W64)(hc:c≤1):(dO x y c).1<W64∧(dO x y c).2≤1:=by
 unfold dO;refine⟨Nat.mod_lt _ (by decide),?_⟩;rw[bE]at*
 show (x+y+c)/_≤1;omega
theorem zO(x y c:Nat)(hc:c≤1)(w:World):(callFunc 376 #[.int .u64 (x:Int),.int .u64 (y:Int),.int .u64 (c:Int)]).run Tryz.prog w=
  .ok (.value (.tuple #[.int .u64 ((dO x y c).1:Int),.int .u64 ((dO x y c).2:Int)])) w:=by
 unfold dO W64;exact Any7.bits_Add64 Tryz.lays7n25 x y c hc w
theorem aC1(Az Ax Ay:Option Addr)(nz cz nx cx n cy gz t off c0:Nat)(xs ys cs:List Nat)(w:World)(hc0:c0≤1)(hb:Blk .u64 w gz t cs)(hoff:off+n≤cs.length)(hz:0<n→Az=some ⟨gz,off,none⟩)(hnz:n≤cz)(hnx:n≤cx)(hny:n≤cy)(hn:n≤1099511627776)(lx:xs.length=n)(ly:ys.length=n)(sx:Src w gz off Ax xs)(sy:Src w gz off Ay ys)(hx:∀d∈xs,d<W64)(hy:∀d∈ys,d<W64):Calls Tryz.prog 350 #[.slice Az nz cz,.slice Ax nx cx,.slice Ay n cy,.int .u64 (c0:Int),.func (.func 376) #[] #[]] w
   fun e w'=>e=.returned (.int .u64 ((aG dO xs ys c0).2:Int))∧Blk .u64 w' gz t (cs.take off++(aG dO xs ys c0).1++cs.drop (off+n))∧w.grownBy w' (some gz):=by
 have LX:=hZ lx;have LY:=hZ ly;clear lx ly;go_enter Tryz.func350,Tryz.ntmps350
 go_wp2_with fail
 go_quiet (fail)
 go_wp2_with fail
 go_loopw [3,23] (fun cv iv w1=>∃k:Nat,k≤n∧iv=.int .i64 (k:Int)∧cv=.int .u64 ((aG dO (xs.take k) (ys.take k) c0).2:Int)∧(aG dO (xs.take k) (ys.take k) c0).2≤1∧
     Part w w1 gz t off k cs (aG dO (xs.take k) (ys.take k) c0).1) (fun _ iv _=>n-(intOf iv).toNat)
 case atStart=>exact⟨0,by omega,rfl,rfl,hc0,⟨by rw[List.take_zero,List.take_zero,bQ,bL];exact hb,Gr.drewN (Gr.refl _ _) _⟩⟩
 case round=>
  obtain⟨k,hk,rfl,rfl,hpc,hp⟩:=hrel;by_cases hlt:k<n
  ·have hol:(aG dO (xs.take k) (ys.take k) c0).1.length=k:=by
    rw[aW _ _ _ _ (by rw[List.length_take,List.length_take,LX.out,LY.out]),List.length_take,LX.out];omega
   obtain⟨bx,qx,rfl,hcx⟩:=sx.at_ hb hp hol hoff LX.out hlt;obtain⟨by_,qy,rfl,hcy⟩:=sy.at_ hb hp hol hoff LY.out hlt;obtain rfl:=hz (by omega);have hkx:k<xs.length:=(by rw[LX.out];exact hlt);have hky:k<ys.length:=(by rw[LY.out];exact hlt);have hst:=dZ dO c0 hkx hky;have bx':xs[k]<W64:=hx _ (List.getElem_mem _);have by':ys[k]<W64:=hy _ (List.getElem_mem _);generalize xs[k]=x at*
   generalize ys[k]=y at*
   have HST:=hZ hst;clear hst;have HOL:=hZ hol;clear hol;have hcb:=hp.blk;have hkc:off+k<(cs.take off++(aG dO (xs.take k) (ys.take k) c0).1++cs.drop (off+k)).length:=by
    rw[aV HOL.out (by omega)];omega
   have HP:=hZ hp;clear hp hcb;have HKC:=hZ hkc;clear hkc;have hgs:=wU x y _ bx' by' hpc;generalize hcc:(aG dO (xs.take k) (ys.take k) c0).2=Z at*
   have HCC:=hZ hcc;clear hcc;have hb2:=HP.out.blk;have hE:=fun w1:World=>zO x y Z hpc w1;have hcell:=hb2.cell HKC.out;have hfz:=hb2.frozen (off+k);generalize (cs.take off++(aG dO (xs.take k) (ys.take k) c0).1++cs.drop (off+k))[off+k]'HKC.out=old at*
   go_wp2_with fail
   have hb3:=hb2.set_ (off+k) (dO x y Z).1;rw[dS HOL.out (by omega)]at hb3;refine⟨⟨k+1,by omega,by go_num,?_,?_,⟨?_,?_⟩⟩,by simp[intOf];omega⟩
   ·rw[HST.out]
   ·rw[HST.out];exact hgs.2
   ·rw[HST.out];exact hb3
   ·exact Gr.setCell HP.out.gr _ _
  ·obtain rfl:k=n:=(by omega);go_wp2_with fail
   go_ret
   rw[List.take_of_length_le (by rw[LX.out];omega),List.take_of_length_le (by rw[LY.out];omega)]at*
   exact⟨rfl,hp.blk,hp.gr⟩
def dE(x y c:Nat):Nat × Nat:=((x+W64-y-c) % W64,if x<y+c then 1 else 0)
theorem wV(x y c:Nat)(_:x<W64)(_:y<W64)(_:c≤1):(dE x y c).1<W64∧(dE x y c).2≤1:=by
 unfold dE;refine⟨Nat.mod_lt _ (by decide),?_⟩;show (if x<y+c then 1 else 0)≤1;split<;>omega
theorem zP(x y c:Nat)(hc:c≤1)(w:World):(callFunc 384 #[.int .u64 (x:Int),.int .u64 (y:Int),.int .u64 (c:Int)]).run Tryz.prog w=
  .ok (.value (.tuple #[.int .u64 ((dE x y c).1:Int),.int .u64 ((dE x y c).2:Int)])) w:=by
 unfold dE W64;exact Any7.bits_Sub64 Tryz.lays7n26 x y c hc w
theorem aC2(Az Ax Ay:Option Addr)(nz cz nx cx n cy gz t off c0:Nat)(xs ys cs:List Nat)(w:World)(hc0:c0≤1)(hb:Blk .u64 w gz t cs)(hoff:off+n≤cs.length)(hz:0<n→Az=some ⟨gz,off,none⟩)(hnz:n≤cz)(hnx:n≤cx)(hny:n≤cy)(hn:n≤1099511627776)(lx:xs.length=n)(ly:ys.length=n)(sx:Src w gz off Ax xs)(sy:Src w gz off Ay ys)(hx:∀d∈xs,d<W64)(hy:∀d∈ys,d<W64):Calls Tryz.prog 350 #[.slice Az nz cz,.slice Ax nx cx,.slice Ay n cy,.int .u64 (c0:Int),.func (.func 384) #[] #[]] w
   fun e w'=>e=.returned (.int .u64 ((aG dE xs ys c0).2:Int))∧Blk .u64 w' gz t (cs.take off++(aG dE xs ys c0).1++cs.drop (off+n))∧w.grownBy w' (some gz):=by
 have LX:=hZ lx;have LY:=hZ ly;clear lx ly;go_enter Tryz.func350,Tryz.ntmps350
 go_wp2_with fail
 go_quiet (fail)
 go_wp2_with fail
 go_loopw [3,23] (fun cv iv w1=>∃k:Nat,k≤n∧iv=.int .i64 (k:Int)∧cv=.int .u64 ((aG dE (xs.take k) (ys.take k) c0).2:Int)∧(aG dE (xs.take k) (ys.take k) c0).2≤1∧
     Part w w1 gz t off k cs (aG dE (xs.take k) (ys.take k) c0).1) (fun _ iv _=>n-(intOf iv).toNat)
 case atStart=>exact⟨0,by omega,rfl,rfl,hc0,⟨by rw[List.take_zero,List.take_zero,bQ,bL];exact hb,Gr.drewN (Gr.refl _ _) _⟩⟩
 case round=>
  obtain⟨k,hk,rfl,rfl,hpc,hp⟩:=hrel;by_cases hlt:k<n
  ·have hol:(aG dE (xs.take k) (ys.take k) c0).1.length=k:=by
    rw[aW _ _ _ _ (by rw[List.length_take,List.length_take,LX.out,LY.out]),List.length_take,LX.out];omega
   obtain⟨bx,qx,rfl,hcx⟩:=sx.at_ hb hp hol hoff LX.out hlt;obtain⟨by_,qy,rfl,hcy⟩:=sy.at_ hb hp hol hoff LY.out hlt;obtain rfl:=hz (by omega);have hkx:k<xs.length:=(by rw[LX.out];exact hlt);have hky:k<ys.length:=(by rw[LY.out];exact hlt);have hst:=dZ dE c0 hkx hky;have bx':xs[k]<W64:=hx _ (List.getElem_mem _);have by':ys[k]<W64:=hy _ (List.getElem_mem _);generalize xs[k]=x at*
   generalize ys[k]=y at*
   have HST:=hZ hst;clear hst;have HOL:=hZ hol;clear hol;have hcb:=hp.blk;have hkc:off+k<(cs.take off++(aG dE (xs.take k) (ys.take k) c0).1++cs.drop (off+k)).length:=by
    rw[aV HOL.out (by omega)];omega
   have HP:=hZ hp;clear hp hcb;have HKC:=hZ hkc;clear hkc;have hgs:=wV x y _ bx' by' hpc;generalize hcc:(aG dE (xs.take k) (ys.take k) c0).2=Z at*
   have HCC:=hZ hcc;clear hcc;have hb2:=HP.out.blk;have hE:=fun w1:World=>zP x y Z hpc w1;have hcell:=hb2.cell HKC.out;have hfz:=hb2.frozen (off+k);generalize (cs.take off++(aG dE (xs.take k) (ys.take k) c0).1++cs.drop (off+k))[off+k]'HKC.out=old at*
   go_wp2_with fail
   have hb3:=hb2.set_ (off+k) (dE x y Z).1;rw[dS HOL.out (by omega)]at hb3;refine⟨⟨k+1,by omega,by go_num,?_,?_,⟨?_,?_⟩⟩,by simp[intOf];omega⟩
   ·rw[HST.out]
   ·rw[HST.out];exact hgs.2
   ·rw[HST.out];exact hb3
   ·exact Gr.setCell HP.out.gr _ _
  ·obtain rfl:k=n:=(by omega);go_wp2_with fail
   go_ret
   rw[List.take_of_length_le (by rw[LX.out];omega),List.take_of_length_le (by rw[LY.out];omega)]at*
   exact⟨rfl,hp.blk,hp.gr⟩
theorem oK(x f hi lo:Nat)(hx:x<W64)(hf:f<W64)(hh:x*f/18446744073709551616=hi)(hl:x*f % 18446744073709551616=lo)(w:World):
  Calls Tryz.prog 277 #[.int .u64 (x:Int),.int .u64 (f:Int)] w fun e w'=>e=.returned (.tuple #[.int .u64 (hi:Int),.int .u64 (lo:Int)])∧w=w':=by
 subst hh hl;exact (Tryz.bits_Mul64 x f hx hf w).mono fun _ _ ⟨h1,h2⟩=>⟨h1,h2.symm⟩
theorem add0(x y s o:Nat)(hs:(x+y) % 18446744073709551616=s)(ho:(x+y)/18446744073709551616=o)(w:World):
  (callFunc 376 #[.int .u64 (x:Int),.int .u64 (y:Int),.int .u64 0]).run Tryz.prog w=.ok (.value (.tuple #[.int .u64 (s:Int),.int .u64 (o:Int)])) w:=by
 subst hs ho;exact zO x y 0 (by omega) w
theorem aMV(x y s o:Nat)(hs:(x+18446744073709551616-y) % 18446744073709551616=s)(ho:(if x<y then 1 else 0)=o)(w:World):
  (callFunc 384 #[.int .u64 (x:Int),.int .u64 (y:Int),.int .u64 0]).run Tryz.prog w=.ok (.value (.tuple #[.int .u64 (s:Int),.int .u64 (o:Int)])) w:=by
 subst hs ho;exact zP x y 0 (by omega) w
theorem aP{n:Nat}(h:n<18446744073709551616):IntKind.u64.wrap (n:Int)=(n:Int):=by
 rw[IntKind.wrap_u64];omega
theorem wW{k l:IntKind}{a b c d:Int}(h1:a=c)(h2:b=d):Ending.returned (.tuple #[.int k a,.int l b])=.returned (.tuple #[.int k c,.int l d]):=by rw[h1,h2]
def iO(f x _y c:Nat):Nat × Nat:=((x*f+c) % W64,(x*f+c)/W64)
def dU(f x y c:Nat):Nat × Nat:=((y*f+c+x) % W64,(y*f+c+x)/W64)
def dV(x _y c:Nat):Nat × Nat:=((x+c) % W64,(x+c)/W64)
def dH(x _y c:Nat):Nat × Nat:=((x+W64-c) % W64,if x<c then 1 else 0)
theorem aIz(f x y c:Nat)(b:Addr)(w:World)(hx:x<W64)(hc:c<W64)(hf:f<W64)(hb:w.cell? b=some (.int .u64 (f:Int))):
  Calls Tryz.prog 375 #[.int .u64 (x:Int),.int .u64 (y:Int),.int .u64 (c:Int),.pointer (some b)] w fun e w'=>e=.returned (.tuple #[.int .u64 ((iO f x y c).1:Int),.int .u64 ((iO f x y c).2:Int)])∧Q w w':=by
 go_enter Tryz.func375,Tryz.ntmps375
 obtain⟨hi,hh⟩:∃hi,x*f/18446744073709551616=hi:=⟨_,rfl⟩
 obtain⟨lo,hl⟩:∃lo,x*f % 18446744073709551616=lo:=⟨_,rfl⟩
 obtain⟨s,hs⟩:∃s,(lo+c) % 18446744073709551616=s:=⟨_,rfl⟩
 obtain⟨o,ho⟩:∃o,(lo+c)/18446744073709551616=o:=⟨_,rfl⟩
 have hE:=add0 lo c s o hs ho;have H:=hZ (aA0 hx hf hc hh hl hs ho);have H1:=hZ hh;have H2:=hZ hl;clear hh hl hs ho;go_wp2_with fail
 refine (oK x f hi lo hx hf H1.out H2.out _).mono ?_;rintro e w' ⟨rfl,rfl⟩;go_wp2_with fail
 go_ret2
 obtain⟨h1,h2,h3⟩:=H.out;refine⟨wW (by rw[h1];rfl) ?_,Q.refl _⟩;rw[←Int.natCast_add,aP h3,h2];rfl
theorem aB6(f x y c:Nat)(b:Addr)(w:World)(hx:x<W64)(hy:y<W64)(hc:c<W64)(hf:f<W64)(hb:w.cell? b=some (.int .u64 (f:Int))):
  Calls Tryz.prog 382 #[.int .u64 (x:Int),.int .u64 (y:Int),.int .u64 (c:Int),.pointer (some b)] w fun e w'=>e=.returned (.tuple #[.int .u64 ((dU f x y c).1:Int),.int .u64 ((dU f x y c).2:Int)])∧Q w w':=by
 go_enter Tryz.func382,Tryz.ntmps382
 obtain⟨hi,hh⟩:∃hi,y*f/18446744073709551616=hi:=⟨_,rfl⟩
 obtain⟨lo,hl⟩:∃lo,y*f % 18446744073709551616=lo:=⟨_,rfl⟩
 obtain⟨s,hs⟩:∃s,(lo+c) % 18446744073709551616=s:=⟨_,rfl⟩
 obtain⟨o,ho⟩:∃o,(lo+c)/18446744073709551616=o:=⟨_,rfl⟩
 obtain⟨s2,hs2⟩:∃s2,(s+x) % 18446744073709551616=s2:=⟨_,rfl⟩
 obtain⟨o2,ho2⟩:∃o2,(s+x)/18446744073709551616=o2:=⟨_,rfl⟩
 have hE:=add0 lo c s o hs ho;have hE2:=add0 s x s2 o2 hs2 ho2;have H:=hZ (sP hx hy hf hc hh hl hs ho hs2 ho2);have H1:=hZ hh;have H2:=hZ hl;clear hh hl hs ho hs2 ho2;go_wp2_with fail
 refine (oK y f hi lo hy hf H1.out H2.out _).mono ?_;rintro e w' ⟨rfl,rfl⟩;go_wp2_with fail
 go_ret2
 obtain⟨h1,h2,h3,h4⟩:=H.out;refine⟨wW (by rw[h1];rfl) ?_,Q.refl _⟩;rw[←Int.natCast_add,aP h4,←Int.natCast_add,aP h3,h2];rfl
theorem aB7(f x y c:Nat)(b:Addr)(w:World)(hy:y<W64)(hc:c<W64)(hf:f<W64)(hb:w.cell? b=some (.int .u64 (f:Int))):
  Calls Tryz.prog 423 #[.int .u64 (x:Int),.int .u64 (y:Int),.int .u64 (c:Int),.pointer (some b)] w fun e w'=>e=.returned (.tuple #[.int .u64 ((iR f x y c).1:Int),.int .u64 ((iR f x y c).2:Int)])∧Q w w':=by
 go_enter Tryz.func423,Tryz.ntmps423
 obtain⟨hi,hh⟩:∃hi,y*f/18446744073709551616=hi:=⟨_,rfl⟩
 obtain⟨lo,hl⟩:∃lo,y*f % 18446744073709551616=lo:=⟨_,rfl⟩
 obtain⟨s,hs⟩:∃s,(lo+c) % 18446744073709551616=s:=⟨_,rfl⟩
 obtain⟨o,ho⟩:∃o,(lo+c)/18446744073709551616=o:=⟨_,rfl⟩
 obtain⟨s2,hs2⟩:∃s2,(x+18446744073709551616-s) % 18446744073709551616=s2:=⟨_,rfl⟩
 obtain⟨o2,ho2⟩:∃o2,(if x<s then 1 else 0)=o2:=⟨_,rfl⟩
 have hE:=add0 lo c s o hs ho;have hE2:=aMV x s s2 o2 hs2 ho2;have H:=hZ (sQ hy hf hc hh hl hs ho hs2 ho2);have H1:=hZ hh;have H2:=hZ hl;clear hh hl hs ho hs2 ho2;go_wp2_with fail
 refine (oK y f hi lo hy hf H1.out H2.out _).mono ?_;rintro e w' ⟨rfl,rfl⟩;go_wp2_with fail
 go_ret2
 obtain⟨h1,h2,h3,h4⟩:=H.out;refine⟨wW (by rw[←h1]) ?_,Q.refl _⟩;rw[←Int.natCast_add,aP h4,←Int.natCast_add,aP h3,h2]
theorem aE0(f h x y c:Nat)(b d:Addr)(w:World)(hx:x<W64)(hy:y<W64)(hc:c<W64)(hf:f<W64)(hh:h<W64)(hb:w.cell? b=some (.int .u64 (f:Int)))(hd:w.cell? d=some (.int .u64 (h:Int))):
  Calls Tryz.prog 430 #[.int .u64 (x:Int),.int .u64 (y:Int),.int .u64 (c:Int),.pointer (some b),.pointer (some d)] w fun e w'=>e=.returned (.tuple #[.int .u64 ((dI f h x y c).1:Int),.int .u64 ((dI f h x y c).2:Int)])∧Q w w':=by
 go_enter Tryz.func430,Tryz.ntmps430
 obtain⟨hix,hhx⟩:∃hi,x*f/18446744073709551616=hi:=⟨_,rfl⟩
 obtain⟨lox,hlx⟩:∃lo,x*f % 18446744073709551616=lo:=⟨_,rfl⟩
 obtain⟨hiy,hhy⟩:∃hi,y*h/18446744073709551616=hi:=⟨_,rfl⟩
 obtain⟨loy,hly⟩:∃lo,y*h % 18446744073709551616=lo:=⟨_,rfl⟩
 obtain⟨s,hs⟩:∃s,(lox+18446744073709551616-loy) % 18446744073709551616=s:=⟨_,rfl⟩
 obtain⟨o,ho⟩:∃o,(if lox<loy then 1 else 0)=o:=⟨_,rfl⟩
 obtain⟨s2,hs2⟩:∃s2,(s+c) % 18446744073709551616=s2:=⟨_,rfl⟩
 obtain⟨o2,ho2⟩:∃o2,(s+c)/18446744073709551616=o2:=⟨_,rfl⟩
 have hE:=aMV lox loy s o hs ho;have hE2:=add0 s c s2 o2 hs2 ho2;have H:=hZ (aJS hc hhx hlx hhy hly hs ho hs2 ho2);have H1:=hZ hhx;have H2:=hZ hlx;have H3:=hZ hhy;have H4:=hZ hly;clear hhx hlx hs ho hhy hly hs2 ho2;go_wp2_with fail
 refine (oK x f hix lox hx hf H1.out H2.out _).mono ?_;rintro e w' ⟨rfl,rfl⟩;go_wp2_with fail
 refine (oK y h hiy loy hy hh H3.out H4.out _).mono ?_;rintro e w' ⟨rfl,rfl⟩;go_wp2_with fail
 go_ret2
 obtain⟨h1,h2⟩:=H.out;refine⟨wW (by rw[←h1]) ?_,Q.refl _⟩;simp only[IntKind.wrap_u64,wrap64];exact h2
theorem yK(x y c:Nat)(w:World)(hc:c≤1):
  Calls Tryz.prog 383 #[.int .u64 (x:Int),.int .u64 (y:Int),.int .u64 (c:Int)] w fun e w'=>e=.returned (.tuple #[.int .u64 ((dV x y c).1:Int),.int .u64 ((dV x y c).2:Int)])∧Q w w':=by
 have hE:=fun w1:World=>zO x 0 c hc w1;have e0:((0:Nat):Int)=0:=rfl;rw[e0]at hE;obtain⟨s,hs⟩:∃s,dO x 0 c=s:=⟨_,rfl⟩
 rw[hs]at hE;have HS:=hZ hs;clear hs e0;go_enter Tryz.func383,Tryz.ntmps383
 go_wp2_with fail
 go_ret2
 refine⟨?_,Q.refl _⟩;rw[←HS.out];rfl
theorem yL(x y c:Nat)(w:World)(hc:c≤1):
  Calls Tryz.prog 385 #[.int .u64 (x:Int),.int .u64 (y:Int),.int .u64 (c:Int)] w fun e w'=>e=.returned (.tuple #[.int .u64 ((dH x y c).1:Int),.int .u64 ((dH x y c).2:Int)])∧Q w w':=by
 have hE:=fun w1:World=>zP x 0 c hc w1;have e0:((0:Nat):Int)=0:=rfl;rw[e0]at hE;obtain⟨s,hs⟩:∃s,dE x 0 c=s:=⟨_,rfl⟩
 rw[hs]at hE;have HS:=hZ hs;clear hs e0;go_enter Tryz.func385,Tryz.ntmps385
 go_wp2_with fail
 go_ret2
 refine⟨?_,Q.refl _⟩;rw[←HS.out];unfold dE dH;simp
theorem aKW(p x y c:Nat)(b:Addr)(w:World)(hx:x<W64)(hc:c<2^p)(hp:p<64)(hb:w.cell? b=some (.int .u64 (p:Int))):
  Calls Tryz.prog 351 #[.int .u64 (x:Int),.int .u64 (y:Int),.int .u64 (c:Int),.pointer (some b)] w fun e w'=>e=.returned (.tuple #[.int .u64 ((shL p x c).1:Int),.int .u64 ((shL p x c).2:Int)])∧Q w w':=by
 obtain⟨h1,h2,h3,_⟩:=lL hp hx hc;have H1:=hZ h1;clear h1;rw[bE]at hx;go_enter Tryz.func351,Tryz.ntmps351
 go_wp2_with fail
 go_quiet (fail)
 go_wp2_with fail
 go_ret2
 refine⟨wW ?_ ?_,(Q.refl _).drewN _⟩
 ·have e:IntKind.u64.wrap ((x:Int)*2^p)=((x*2^p % 18446744073709551616:Nat):Int):=by
   rw[IntKind.wrap_u64,Int.natCast_emod,Int.natCast_mul,Int.natCast_pow];rfl
  show bits BinOp.or IntKind.u64 (IntKind.u64.wrap ((x:Int)*2^p)) (c:Int)=_;have h5:2^p≤2^63:=Nat.pow_le_pow_right (by decide) (by omega);have h6:(2:Nat)^63=9223372036854775808:=rfl;rw[e,u64_or_nat _ _ (Nat.mod_lt _ (by decide)) (by omega),H1.out]
 ·show (x:Int)/2^(64-p)=_;unfold shL;rw[Int.natCast_ediv,Int.natCast_pow];rfl
theorem aIA(p x y c:Nat)(b:Addr)(w:World)(_:x<W64)(hy:y<W64)(hp:p<64)(hb:w.cell? b=some (.int .u64 (p:Int))):
  Calls Tryz.prog 352 #[.int .u64 (x:Int),.int .u64 (y:Int),.int .u64 (c:Int),.pointer (some b)] w fun e w'=>e=.returned (.tuple #[.int .u64 ((shR p x y:Nat):Int),.int .u64 ((0:Nat):Int)])∧Q w w':=by
 have H1:=hZ (xG (a:=x) hp hy).1;have H2:=hZ hy;rw[bE]at hy;go_enter Tryz.func352,Tryz.ntmps352
 go_wp2_with fail
 go_ret2
 refine⟨wW ?_ rfl,Q.refl _⟩;have e:IntKind.u64.wrap ((x:Int)*2^(64-p))=((x*2^(64-p) % 18446744073709551616:Nat):Int):=by
  rw[IntKind.wrap_u64,Int.natCast_emod,Int.natCast_mul,Int.natCast_pow];rfl
 have e2:(y:Int)/2^p=((y/2^p:Nat):Int):=by
  rw[Int.natCast_ediv,Int.natCast_pow];rfl
 show bits BinOp.or IntKind.u64 ((y:Int)/2^p) (IntKind.u64.wrap ((x:Int)*2^(64-p)))=_;rw[e,e2,u64_or_nat _ _ (Nat.lt_of_le_of_lt (Nat.div_le_self _ _) hy) (Nat.mod_lt _ (by decide)),H1.out]
end
namespace Me
open Go.RowKit
open Ma
theorem eO{P:Program}{w:World}{ops:Array Oper}{rest:List Oper}{o:Oper}{a:Act}{Q:Exit→Act→World→Prop}(hgd:o.guard=none)(d s:Operand)(dT sT:TypeId)(ho:o.op=.call {callee:=.builtin .copy,args:=#[d,s],argTypes:=#[dT,sT]})(elem:TypeId)(hu:P.underlying dT=some (.slice elem))(hsz:(P.info? elem).map (·.size)=some 1)
  (Ad As:Option Addr) (dLen dCap sLen sCap:Nat) (hd:a.eval d=.slice Ad dLen dCap) (hs:a.eval s=.slice As sLen sCap)
  (g off t:Nat) (cs xs:List Nat) (m:Nat) (hb:Blk .u64 w g t cs) (hx:Rw w As xs) (hl:xs.length=sLen) (hm:m=min sLen dLen) (hA:0<m→Ad=some ⟨g,off,none⟩) (hfit:off+m≤cs.length)
  (h:∀w',Blk .u64 w' g t (cs.take off++xs.take m++cs.drop (off+m))→w.grownBy w' (some g)→wpList P ops Q rest (a.put o.dst (goInt m)) w'):wpList P ops Q (o::rest) a w:=by
 rcases Nat.eq_zero_or_pos m with h0|h0
 ·subst h0;refine wpList_copy_nothing hgd d s dT sT ho elem hu hsz Ad As dLen dCap sLen sCap hd hs (by rw[hm]) ?_;exact h w (by rw[List.take_zero,bL];exact hb) (Gr.refl _ _)
 ·obtain⟨b,q,rfl,hlt,hc⟩:=hx (by omega);obtain rfl:=hA h0;have hlen:(nums .u64 (xs.take m)).length=m:=(by rw[nums_length,List.length_take];omega);refine wpList_copy_own hgd d s dT sT ho elem hu hsz g off dLen dCap ⟨b,q,none⟩ sLen sCap hd hs (nums .u64 cs).toArray t hb (nums .u64 (xs.take m)) (by rw[hlen,hm]) ?_ ?_ ?_ ?_
  ·intro j v hv;rw[wH]at hv;obtain⟨e,he,rfl⟩:=Option.map_eq_some_iff.1 hv;rw[gL];refine hc j e ?_;rw[List.getElem?_take]at he;split at he
   ·exact he
   ·cases he
  ·rw[hlen];simp[nums];omega
  ·intro u hu;simp only[nums,List.mem_map]at hu;obtain⟨d,_,rfl⟩:=hu;rfl
  ·rw[hlen];refine h _ ?_ ⟨rfl,rfl,rfl,by simp[World.setRow],fun k _ hk=>setRow_other w g k _ (fun e=>hk (by simp[e]))⟩;refine (setRow_heap w g (nums .u64 cs).toArray _ t (0,0) hb).trans ?_;congr 3;simp[nums,List.append_assoc]
theorem Blk.ex{κ:IntKind}{w:World}{g:Nat}{t:TypeId}{ds:List Nat}(h:Blk κ w g t ds){i:Nat}(hi:i<ds.length):∃d:Nat,w.cell? ⟨g,i,none⟩=some (.int κ (d:Int)):=⟨_,h.cell hi⟩
def Tb(w:World):Prop:=TabAt 5 Lib.deBruijn64tab w
theorem Tb.q{w w':World}(h:Tb w)(hq:Q w w'):Tb w':=fun j hj=>by
 have h1:=h j hj;exact (hq.cell (World.block_lt_of_cell? w _ h1)).trans h1
theorem Tb.gr{w w':World}{g:Nat}(h:Tb w)(hq:w.grownBy w' (some g))(hg:g≠5):Tb w':=fun j hj=>by
 have h1:=h j hj;exact (Gr.cell hq (World.block_lt_of_cell? w _ h1) (fun e=>hg e.symm)).trans h1
end Me
section
open Go.RowKit
open Ma Me
theorem aAp(x:Nat)(h:x<2^64):Lib.bitLen x=bl x:=by
 induction x using Nat.strongRecOn with
 |_ x ih=>
  rcases Nat.eq_zero_or_pos x with h0|h0
  ·subst h0;rw[aDg];rfl
  ·rw[Lib.bitLen_half x (by omega) h,ih (x/2) (by omega) (by omega),jU h0];omega
theorem aMW(x:Nat)(h0:0<x)(h:x<2^64):Lib.ctz 64 x=tz x:=by
 unfold Lib.ctz;rw[if_neg (by omega)];have key:∀(f x:Nat),0<x→x<2^f→Lib.ctzFrom f x=tz x:=by
  intro f
  induction f with
  |zero=>intro x h0 h;simp at h;omega
  |succ f ih=>
   intro x h0 h;unfold Lib.ctzFrom;by_cases ho:x % 2=1
   ·rw[if_pos ho,xE ho]
   ·rw[if_neg ho,ih (x/2) (by omega) (by rw[Nat.pow_succ]at h;omega),pW h0 (by omega)];omega
 exact key 64 x h0 h
theorem aKX(x:Nat)(w:World)(h:x<W64):Calls Tryz.prog 287 #[.int .u64 (x:Int)] w fun e w'=>e=.returned (.int .i64 (bl x:Int))∧w=w':=by
 rw[bE]at h;refine (Tryz.bits_Len64 x w (by omega) (by omega)).mono fun e w' ⟨h1,h2⟩=>⟨?_,h2.symm⟩
 rw[h1,Int.toNat_natCast,aAp x h]
theorem jH(x:Nat)(w:World)(h:x<W64):Calls Tryz.prog 290 #[.int .u64 (x:Int)] w fun e w'=>e=.returned (.int .i64 ((64-bl x:Nat):Int))∧w=w':=by
 rw[bE]at h;refine (Tryz.bits_LeadingZeros64 x w (by omega) (by omega)).mono fun e w' ⟨h1,h2⟩=>⟨?_,h2.symm⟩
 have h3:=(bF x 64).2 h;rw[h1,Int.toNat_natCast,aAp x h];congr 2;omega
theorem mM(x:Nat)(w:World)(h:x<W64)(h0:0<x)(hT:Tb w):Calls Tryz.prog 377 #[.int .u64 (x:Int)] w fun e w'=>e=.returned (.int .i64 (tz x:Int))∧w=w':=by
 refine (Any7.bits_TrailingZeros64 Tryz.lays7n29 x h w (fun _=>hT)).mono fun e w' ⟨h1,h2⟩=>⟨?_,h2.symm⟩
 rw[h1,aMW x h0 h]
def gF(A:Option Addr)(c N:Nat):Value:=if N=0 then .slice none 0 0 else .slice A (dg W64 N) c
theorem rO{w:World}{A:Option Addr}{c n:Nat}{ds:List Nat}(hx:Rw w A ds)(hn:ds.length=n)(hc:n≤c)(hd:∀d∈ds,d<W64):Nm w (gF A c (vl W64 ds)) (vl W64 ds):=by
 unfold gF;split
 ·rename_i h;rw[h];exact Nm.zero _ _
 ·rename_i h;have hle:dg W64 (vl W64 ds)≤ds.length:=(aK aD _ _).2 (cK hd);have hlt:vl W64 ds<W64^dg W64 (vl W64 ds):=aX aD _;have hv:vl W64 (ds.take (dg W64 (vl W64 ds)))=vl W64 ds:=(by rw[iW hle hd,Nat.mod_eq_of_lt hlt]);refine Nm.of_rw hx hle (Nat.le_trans hle (by rw[hn];exact hc)) ?_ hd hv;obtain⟨k,hk⟩:∃k,dg W64 (vl W64 ds)=k+1:=⟨dg W64 (vl W64 ds)-1,by have:=Nat.pos_of_ne_zero (fun e=>h (bO aD e));omega⟩
  rw[hk]at hv hle⊢;refine aDd hle fun e=>?_;rw[fH W64 hle,e]at hv;have h2:vl W64 (ds.take k)<W64^k:=by
   have h3:=cK (aR (n:=k) hd)
   rwa [List.length_take,Nat.min_eq_left (by omega)]at h3
  have h3:dg W64 (vl W64 ds)≤k:=(aK aD _ _).2 (by omega);omega
theorem aB8{B n c N:Nat}{A:Option Addr}(h:Nw B (.slice A n c)):Nw B (gF A c N):=by
 unfold gF;split
 ·exact Nw.nil
 ·intro _ _ _ e;cases e;exact h _ _ _ rfl
theorem v_trimmed'(A:Option Addr)(c n N:Nat)(ds:List Nat)(w:World)(hn:ds.length=n)(hc:n≤c)(hm:n≤9223372036854775807)(hx:Rw w A ds)(hd:∀d∈ds,d<W64)(hN:vl W64 ds=N):
  Calls Tryz.prog 289 #[.slice A n c] w fun e w'=>e=.returned (gF A c N)∧w'=w:=by
 subst hn hN;go_enter Tryz.func289,Tryz.ntmps289
 go_wp2_with fail
 go_loop [3] (fun i=>∃k:Nat,k≤ds.length∧i=.int .i64 (k:Int)∧∀b,vl b (ds.take k)=vl b ds) (fun i=>(intOf i).toNat)
 case atStart=>exact⟨ds.length,by omega,rfl,fun b=>by simp⟩
 case round=>
  obtain⟨k,hk,rfl,hv⟩:=hrel;have HV:=hZ hv;clear hv;by_cases hlt:0<k
  ·obtain⟨j,rfl⟩:∃j,k=j+1:=⟨k-1,by omega⟩
   obtain⟨b,o,rfl,hb,hcell⟩:=hx.at_ (k:=j) (by omega);by_cases h0:ds[j]=0
   ·have h0':((ds[j]:Int) == 0)=true:=(by simp[h0]);have H:∀b,vl b (ds.take j)=vl b ds:=fun b=>(by rw[←HV.out b,fH b (by omega),h0];simp);have H:=hZ H;clear h0 HV;go_wp2_with fail
    exact⟨⟨j,by omega,rfl,H.out⟩,by simp[intOf]⟩
   ·have h0':((ds[j]:Int) == 0)=false:=(by simp;omega);have H:Nz (ds.take (j+1)):=aDd (by omega) h0;have hk1:((j:Int)+1 == 0)=false:=(by simp;omega);have hwf:Wf W64 (ds.take (j+1)):=⟨aR hd,H⟩
    have hl:=hwf.len aD;rw[List.length_take,Nat.min_eq_left (by omega),HV.out]at hl;have hne:vl W64 ds≠0:=fun e=>(by rw[e,aZ]at hl;omega);have et:gF (some ⟨b,o,none⟩) c (vl W64 ds)=.slice (some ⟨b,o,none⟩) (j+1) c:=(by unfold gF;rw[if_neg hne,←hl]);have ET:=hZ et;clear h0 hl hne et hwf H HV;go_wp2_with fail
    go_ret
    exact⟨by rw[ET.out];rfl,rfl⟩
  ·obtain rfl:k=0:=(by omega);go_wp2_with fail
   go_ret
   have e0:vl W64 ds=0:=(by rw[←HV.out W64];rfl);exact⟨by rw[e0];rfl,rfl⟩
theorem eD(A:Option Addr)(c n:Nat)(ds:List Nat)(w:World)(hn:ds.length=n)(hc:n≤c)(hm:n≤9223372036854775807)(hx:Rw w A ds)(hd:∀d∈ds,d<W64):
  Calls Tryz.prog 289 #[.slice A n c] w fun e w'=>∃v,e=.returned v∧Nm w v (vl W64 ds)∧(∀B,Nw B (.slice A n c)→Nw B v)∧w=w':=by
 refine (v_trimmed' A c n _ ds w hn hc hm hx hd rfl).mono ?_;rintro e w1 ⟨rfl,rfl⟩;exact⟨_,rfl,rO hx hn hc hd,fun B hB=>aB8 hB,rfl⟩
theorem aB9:(Tryz.prog.info? 127).map (fun i=>(i.zero,i.size,i.bytes))=some (some (.int .u64 0),1,8):=by kernel_rfl
theorem iH(n:Nat)(e:Int)(he:e=(n:Int))(hn:n≤LIM)(w:World):
  (Instr.makeSlice 48 (.int .i64 e) (.int .i64 e)).run Tryz.prog w=.ok (.slice (some ⟨w.heap.size,0,none⟩) n n) (w.alloc (.cells (zs .u64 n) 127)):=by
 rw[aC]at hn;subst he;rw[←aDf];exact run_make_row' _ _ _ 8 Tryz.underlying48 aB9 rfl _ _ n (by omega) (by omega) w
theorem aGP(n:Nat)(e:Int)(he:e=(n:Int))(hn:n≤LIM)(w:World):
  (Instr.makeSlice 49 (.int .i64 e) (.int .i64 e)).run Tryz.prog w=.ok (.slice (some ⟨w.heap.size,0,none⟩) n n) (w.alloc (.cells (zs .u64 n) 127)):=by
 rw[aC]at hn;subst he;rw[←aDf];exact run_make_row' _ _ _ 8 Tryz.underlying49 aB9 rfl _ _ n (by omega) (by omega) w
theorem fC(x:Int)(N:Nat)(w:World)(hx:x=(N:Int))(h:N<W64):Calls Tryz.prog 60 #[.int .u64 x] w (eQ N w):=by
 subst hx;rcases Nat.eq_zero_or_pos N with h0|h0
 ·subst h0;go_enter Tryz.func60,Tryz.ntmps60
  go_wp2_with fail
  go_ret
  exact⟨_,rfl,Nm.zero _ _,Q.refl _,Nw.nil⟩
 ·have h1:((N:Int) == 0)=false:=(by simp;omega);go_enter Tryz.func60,Tryz.ntmps60
  go_wp2_with fail
  go_ret
  have hb:Blk .u64 (w.alloc (Obj.cells #[Value.int IntKind.u64 (N:Int)] 127)) w.heap.size 127 [N]:=heap_alloc_new w _;exact⟨_,rfl,Nm.of_rw (k:=1) (Rw.of_blk hb) (by simp) (by omega) (by simp[Nz];omega) (by simpa using h) (by simp[vl]),(Q.refl _).alloc _,Nw.at_ (Nat.le_refl _)⟩
theorem vR(x:Value)(N:Nat)(w:World)(hx:Nm w x N):Calls Tryz.prog 215 #[x] w fun e w'=>e=.returned (.bool (decide (N=1)))∧w=w':=by
 obtain⟨A,c,xs,rfl,hc,rx,wx,rfl⟩:=hx;by_cases h1:xs.length=1
 ·obtain⟨d,rfl⟩:∃d,xs=[d]:=List.length_eq_one_iff.1 h1;obtain⟨b,o,rfl,hb,hcell⟩:=rx.head (by simp);simp only[List.getElem_cons_zero]at hcell;have e:decide (vl W64 [d]=1)=((d:Int) == 1):=by
   have e0:vl W64 [d]=d:=(by simp[vl]);rw[e0,Bool.eq_iff_iff,decide_eq_true_iff,beq_iff_eq];omega
  rw[e];have HE:=hZ e;clear e h1;go_enter Tryz.func215,Tryz.ntmps215
  go_wp2_with fail
  go_ret
  exact⟨rfl,rfl⟩
 ·have e:decide (vl W64 xs=1)=false:=by
   simp only[decide_eq_false_iff_not];intro e;apply h1;rw[wx.len aD,e,iA aD]
  rw[e];have h2:((xs.length:Int) == 1)=false:=(by simp;omega);go_enter Tryz.func215,Tryz.ntmps215
  go_wp2_with fail
  go_ret
  exact⟨rfl,rfl⟩
theorem pR(x:Value)(N:Nat)(w:World)(hx:Nm w x N)(h:dg W64 N≤LIM):Calls Tryz.prog 239 #[x] w fun e w'=>e=.returned (.int .i64 (bl N:Int))∧w=w':=by
 obtain⟨A,c,xs,rfl,hc,rx,wx,rfl⟩:=hx;rw[←wx.len aD,aC]at h;by_cases h0:xs.length=0
 ·obtain rfl:xs=[]:=List.eq_nil_of_length_eq_zero h0;rw[show bl (vl W64 [])=0 from aDg];simp only[List.length_nil];clear h0;go_enter Tryz.func239,Tryz.ntmps239
  go_wp2_with fail
  go_ret
  exact⟨rfl,rfl⟩
 ·obtain⟨n,hn⟩:∃n,xs.length=n+1:=⟨xs.length-1,by omega⟩
  obtain⟨b,o,rfl,hb,hcx⟩:=rx.at_ (k:=n) (by omega);have ba:xs[n]<W64:=wx.1 _ (List.getElem_mem _);have bz:0<xs[n]:=by
   have h1:=wx.2;rw[Nz,List.getLast?_eq_getElem?,hn,Nat.add_sub_cancel,List.getElem?_eq_getElem (by omega)]at h1;simp at h1;omega
  have hB:=aFw (p:=64) (n:=n) wx.1 hn (List.getElem?_eq_getElem (by omega)) bz;change bl (vl W64 xs)=_ at hB;rw[hn,hB];clear hB hc wx;generalize xs[n]=t0 at*
  have h2:((n:Int)+1 == 0)=false:=(by simp;omega);have hbl:bl t0≤64:=(bF _ _).2 ba;go_enter Tryz.func239,Tryz.ntmps239
  go_wp2_with fail
  refine (aKX t0 _ ba).mono ?_;rintro e w1 ⟨rfl,rfl⟩;go_wp2_with fail
  go_ret
  exact⟨aDj (by omega),rfl⟩
theorem bV(x:Value)(N:Nat)(w:World)(hT:Tb w)(hx:Nm w x N)(h:dg W64 N≤LIM)(h0:0<N):Calls Tryz.prog 307 #[x] w fun e w'=>e=.returned (.int .i64 (tz N:Int))∧w=w':=by
 obtain⟨A,c,xs,rfl,hc,rx,wx,rfl⟩:=hx;rw[←wx.len aD,aC]at h;have HT:=hZ hT;clear hT;go_enter Tryz.func307,Tryz.ntmps307
 go_wp2_with fail
 go_loop [3] (fun nv=>∃(q:Nat),nv=.int .i64 (q:Int)∧q<xs.length∧∀j,j<q→xs[j]? =some 0) (fun nv=>xs.length-(intOf nv).toNat)
 case atStart=>
  refine⟨0,rfl,?_,by omega⟩;rcases xs with _|_
  ·simp[vl]at h0
  ·simp
 case round=>
  obtain⟨q,rfl,hq,hz⟩:=hrel;obtain⟨b,o,rfl,hb,hcx⟩:=rx.at_ hq;have ba:xs[q]<W64:=wx.1 _ (List.getElem_mem _);by_cases hx0:xs[q]=0
  ·have hnext:q+1<xs.length:=by
    rcases Nat.lt_or_ge (q+1) xs.length with h1|h1
    ·exact h1
    ·exfalso;have h2:=wx.2;rw[Nz,List.getLast?_eq_getElem?,show xs.length-1=q by omega,List.getElem?_eq_getElem hq,hx0]at h2;exact h2 rfl
   have hz2:∀j,j<q+1→xs[j]? =some 0:=by
    intro j hj;rcases Nat.lt_or_ge j q with h1|h1
    ·exact hz j h1
    ·obtain rfl:j=q:=(by omega);rw[List.getElem?_eq_getElem hq,hx0]
   have HZ2:=hZ hz2;clear hz2 hz;have h3:((xs[q]:Int) == 0)=true:=(by simp[hx0]);clear hx0;generalize xs[q]=t at*
   go_wp2_with fail
   exact⟨⟨q+1,congrArg (Value.int _) (by omega),hnext,HZ2.out⟩,by simp[intOf];omega⟩
  ·have hB:=aFx (p:=64) (q:=q) hz (List.getElem?_eq_getElem hq) (by omega) ba;change tz (vl W64 xs)=_ at hB;have HB:=hZ hB;have h3:((xs[q]:Int) == 0)=false:=(by simp;omega);have hpos:0<xs[q]:=(by omega);clear hB hz wx h0 hc hx0;have htz:tz xs[q]≤64:=Nat.le_of_lt (Nat.lt_of_lt_of_le (kN hpos) ((bF _ _).2 ba));generalize xs[q]=t0 at*
   go_wp2_with fail
   refine (mM t0 _ ba hpos HT.out).mono ?_;rintro e w1 ⟨rfl,rfl⟩;go_wp2_with fail
   go_ret
   exact⟨aDj (by have:=HB.out;omega),rfl⟩
theorem eF(x:Value)(N:Nat)(w:World)(hT:Tb w)(hx:Nm w x N)(h:dg W64 N≤LIM)(h0:0<N):Calls Tryz.prog 308 #[x] w fun e w'=>e=.returned (.bool (decide (tz N+1=bl N)))∧w=w':=by
 have hb:=kP 64 N (by decide);change bl N≤64*dg W64 N at hb;have ht:=kN h0;have h2:=h;rw[aC]at h2;go_enter Tryz.func308,Tryz.ntmps308
 go_wp2_with fail
 refine (bV x N _ hT hx h h0).mono ?_;rintro e w1 ⟨rfl,rfl⟩;go_wp2_with fail
 refine (pR x N _ hx h).mono ?_;rintro e w1 ⟨rfl,rfl⟩;go_wp2_with fail
 go_ret
 refine⟨wN ?_,rfl⟩;rw[Bool.eq_iff_iff,decide_eq_true_iff,beq_iff_eq];omega
theorem aIB{q y0:Nat}(h:q<4294967296)(h0:y0<4294967296):q*y0<18446744073709551616:=by
 have h1:q*y0≤4294967295*4294967295:=Nat.mul_le_mul (by omega) (by omega);omega
theorem eH(s:Nat):((2^s:Nat):Int)=(2:Int)^s:=Int.natCast_pow 2 s
theorem aCa{a:Nat}(h:a<18446744073709551616):bits BinOp.and IntKind.u64 (a:Int) 4294967295=((a % 4294967296:Nat):Int):=by
 rw[show (4294967295:Int)=((4294967295:Nat):Int) from rfl,u64_and_nat _ _ h (by decide),show (4294967295:Nat)=2^32-1 from rfl,Nat.and_two_pow_sub_one_eq_mod]
theorem aCb{u u1 y1 y0 q r Q:Nat}(h:Gs u u1 y1 y0 q r)(h1:0<y1)(h0:y0<4294967296)(hu1:u1<4294967296)(hu:u<y1*4294967296+y0)(hQ:(u*4294967296+u1)/(y1*4294967296+y0)=Q):∃m R Z:Nat,(q:Int)*(y0:Int)=(m:Int)∧4294967296*(r:Int)=(R:Int)∧(R:Int)+(u1:Int)=(Z:Int)∧(R:Int)≤18446744073709551615∧(Z:Int)≤18446744073709551615∧(r:Int)≤4294967295∧((4294967296≤(q:Int)∧¬(q:Int)<4294967296∧∃p:Nat,q=p+1∧Hid (p*y1+(r+y1)=u∧Q≤p∧p≤4294967296))∨(¬4294967296≤(q:Int)∧(q:Int)<4294967296∧(m:Int)≤18446744073709551615∧(Z:Int)<(m:Int)∧∃p:Nat,q=p+1∧Hid (p*y1+(r+y1)=u∧Q≤p∧p≤4294967296))∨
    (¬4294967296≤(q:Int)∧(q:Int)<4294967296∧(m:Int)≤18446744073709551615∧¬(Z:Int)<(m:Int)∧q=Q)):=by
 have a1:=h.rl;refine⟨q*y0,4294967296*r,4294967296*r+u1,(Int.natCast_mul _ _).symm,by omega,by omega,by omega,by omega,by omega,?_⟩;have hm:q<4294967296→q*y0<18446744073709551616:=fun h=>aIB h h0;have go:=h.over hu1 hu;have st:=h.stop h1;rw[hQ]at go st;rcases Nat.lt_or_ge q 4294967296 with hq|hq
 ·have hm:=hm hq;rcases Nat.lt_or_ge (4294967296*r+u1) (q*y0) with hz|hz
  ·obtain⟨p,e,x⟩:=go (Or.inr hz);exact Or.inr (Or.inl ⟨by omega,by omega,by omega,by omega,p,e,hZ x⟩)
  ·exact Or.inr (Or.inr ⟨by omega,by omega,by omega,by omega,st hz⟩)
 ·obtain⟨p,e,x⟩:=go (Or.inl hq);exact Or.inl ⟨by omega,by omega,p,e,hZ x⟩
theorem aAq{u u1 Y q r:Nat}(hY:Y<18446744073709551616)(h0:0<Y)(hq:(u*4294967296+u1)/Y=q)(hr:(u*4294967296+u1) % Y=r):
  ∃A B C:Nat,IntKind.u64.wrap ((u:Int)*4294967296)=(A:Int)∧IntKind.u64.wrap ((A:Int)+(u1:Int))=(B:Int)∧IntKind.u64.wrap ((q:Int)*(Y:Int))=(C:Int)∧IntKind.u64.wrap ((B:Int)-(C:Int))=(r:Int):=by
 have h1:=Nat.div_add_mod (u*4294967296+u1) Y;have h2:=Nat.mod_lt (u*4294967296+u1) h0;rw[hq,hr]at h1;rw[hr]at h2;have e:(q:Int)*(Y:Int)=((Y*q:Nat):Int):=by rw[Int.natCast_mul,Int.mul_comm]
 refine⟨u*4294967296 % 18446744073709551616,(u*4294967296 % 18446744073709551616+u1) % 18446744073709551616,Y*q % 18446744073709551616,?_,?_,?_,?_⟩<;>rw[IntKind.wrap_u64]
 ·omega
 ·omega
 ·rw[e];omega
 ·omega
theorem aDN(hi lo y Qt Rt:Nat)(w:World)(hy:y<W64)(hh:hi<y)(hl:lo<W64)(hQt:(hi*W64+lo)/y=Qt)(hRt:(hi*W64+lo) % y=Rt):Calls Tryz.prog 346 #[.int .u64 (hi:Int),.int .u64 (lo:Int),.int .u64 (y:Int)] w
   fun e w'=>e=.returned (.tuple #[.int .u64 (Qt:Int),.int .u64 (Rt:Int)])∧∃m,w'=w.drewN m:=by
 have hy0:((y:Int) == 0)=false:=by rw[beq_eq_false_iff_ne];omega
 rcases Nat.eq_zero_or_pos hi with rfl|hi0
 ·rw[Nat.zero_mul,Nat.zero_add]at hQt hRt;subst hQt hRt;rw[bE]at*
  go_enter Tryz.func346,Tryz.ntmps346
  go_wp2_with fail
  go_region
  all_goals go_wp2_with fail
  go_ret2
  refine⟨wW ?_ (Int.natCast_emod _ _).symm,1,rfl⟩;rw[←Int.natCast_ediv,aP (Nat.lt_of_le_of_lt (Nat.div_le_self _ _) hl)]
 ·have hbl1:bl y≤64:=(bF _ _).2 hy;have hnorm:=yY (y:=y) (by omega) hbl1;obtain⟨hs1,hs2,hs3,hs4⟩:=aFI (s:=64-bl y) (by omega) hl hnorm.2 hh;rw[show 64-(64-bl y)=bl y by omega]at hs2 hs3 hs4;have hi0':((hi:Int) == 0)=false:=(by rw[beq_eq_false_iff_ne];omega);have hb0:0<bl y:=(by rw[jU (by omega)];omega);obtain⟨s,hs⟩:∃s,64-bl y=s:=⟨_,rfl⟩
  rw[hs]at hnorm hs1 hs2 hs3 hs4;have hs64:s<64:=(by omega);have hsb:64-s=bl y:=(by omega);rw[bE]at*
  have f1:IntKind.u64.wrap ((y:Int)*2^s)=((y*2^s:Nat):Int):=(by rw[←eH,←Int.natCast_mul];exact aP hnorm.2);have f4:IntKind.u64.wrap ((hi:Int)*2^s)=((hi*2^s:Nat):Int):=(by rw[←eH,←Int.natCast_mul];exact aP hs1);have f5:(lo:Int)/2^(64-s)=((lo/2^bl y:Nat):Int):=(by rw[←eH,←Int.natCast_ediv,hsb]);have f6:bits BinOp.or IntKind.u64 ((hi*2^s:Nat):Int) ((lo/2^bl y:Nat):Int)=((hi*2^s+lo/2^bl y:Nat):Int):=by
   rw[u64_or_nat _ _ hs1 (Nat.lt_of_le_of_lt (Nat.div_le_self _ _) hl),hs2]
  have f7:IntKind.u64.wrap ((lo:Int)*2^s)=((lo*2^s % 18446744073709551616:Nat):Int):=(by rw[←eH,←Int.natCast_mul,IntKind.wrap_u64,Int.natCast_emod];rfl);have hT:lo*2^s % 18446744073709551616<18446744073709551616:=Nat.mod_lt _ (by decide);have HQ:Hid ((hi*18446744073709551616+lo)/y=(hi*18446744073709551616+lo)*2^s/(y*2^s)∧(hi*18446744073709551616+lo) % y=(hi*18446744073709551616+lo)*2^s % (y*2^s)/2^s):=by
   refine hZ ⟨?_,?_⟩
   ·rw[Nat.mul_div_mul_right _ _ (Nat.pow_pos (by decide))]
   ·rw[Nat.mul_mod_mul_right,Nat.mul_div_cancel _ (Nat.pow_pos (by decide))]
  rw[←hs4]at HQ;rw[hQt,hRt]at HQ;clear hQt hRt;clear hs1 hs2 hs4 hsb;generalize hi*2^s=H at*
  generalize lo/2^bl y=L at*
  generalize lo*2^s % 18446744073709551616=T at*
  generalize y*2^s=Y at*
  generalize H+L=u at*
  have f2:(Y:Int)/4294967296=((Y/4294967296:Nat):Int):=(by omega);have f3:bits BinOp.and IntKind.u64 (Y:Int) 4294967295=((Y % 4294967296:Nat):Int):=aCa hnorm.2;have f8:(T:Int)/4294967296=((T/4294967296:Nat):Int):=(by omega);have f9:bits BinOp.and IntKind.u64 (T:Int) 4294967295=((T % 4294967296:Nat):Int):=aCa hT;have by1:2147483648≤Y/4294967296:=(by omega);have by1':Y/4294967296<4294967296:=(by omega);have by0:Y % 4294967296<4294967296:=(by omega);have bu1:T/4294967296<4294967296:=(by omega);have bu0:T % 4294967296<4294967296:=(by omega);have eY:Hid (Y/4294967296*4294967296+Y % 4294967296=Y):=hZ (by omega);have eT:Hid (T/4294967296*4294967296+T % 4294967296=T):=hZ (by omega);generalize Y/4294967296=y1 at*
  generalize Y % 4294967296=y0 at*
  generalize T/4294967296=u1 at*
  generalize T % 4294967296=u0 at*
  have hus:u<y1*4294967296+y0:=(by rw[eY.out];exact hs3);have G0:=Gs.init by1 by1' by0 bu1 hus;have f10:(u:Int)/(y1:Int)=((u/y1:Nat):Int):=(Int.natCast_ediv _ _).symm;have b10:=G0.le;have e10:=G0.eq;have b11:=G0.rl;have hy10:((y1:Int) == 0)=false:=(by rw[beq_eq_false_iff_ne];omega);obtain⟨Q1,hQ1⟩:∃Q1,(u*4294967296+u1)/(y1*4294967296+y0)=Q1:=⟨_,rfl⟩
  have HQ1:=hZ hQ1;have hG0:=hZ G0;clear G0 hQ1;generalize u/y1=qa at*
  generalize u % y1=ra at*
  have f11:(qa:Int)*(y1:Int)=((qa*y1:Nat):Int):=(Int.natCast_mul _ _).symm;generalize qa*y1=ma at*
  have e11:(u:Int)-(ma:Int)=(ra:Int):=(by omega);go_enter Tryz.func346,Tryz.ntmps346
  go_wp2_with fail
  refine (jH y _ (by rw[bE];exact hy)).mono ?_;rintro e w1 ⟨rfl,rfl⟩;rw[hs];go_upto_block 0 with (fail)
  go_cut [15] from 19 (fun qv w2=>qv=.int .u64 (Q1:Int)∧w2=w)
  case first=>
   go_wp2_with fail
   go_loopw [15,16] (fun qv rv w2=>∃q r:Nat,qv=.int .u64 (q:Int)∧rv=.int .u64 (r:Int)∧Gs u u1 y1 y0 q r∧w2=w) (fun qv _ _=>(intOf qv).toNat)
   case atStart=>exact⟨qa,ra,rfl,rfl,hG0.out,rfl⟩
   case round=>
    obtain⟨q,r,rfl,rfl,hg,rfl⟩:=hrel;obtain⟨m,R,Z,k1,k2,k3,k4,k5,k6,k7⟩:=aCb hg (by omega) by0 bu1 hus HQ1.out;clear hg;have i3:(y1:Int)≤4294967295:=(by omega);have i5:(2147483648:Int)≤(y1:Int):=(by omega);have K:=hZ (And.intro by1 (And.intro by1' (And.intro by0 (And.intro bu1 bu0))));have K2:=hZ (And.intro hnorm (And.intro hT (And.intro hus (And.intro hs3 (And.intro b10 (And.intro e10 b11))))));clear by1 by1' by0 bu1 bu0 hnorm hT hus hs3 b10 e10 b11 hy hh hl hbl1 hb0;have fin:∀p rn:Nat,q=p+1→Hid (p*y1+(r+y1)=u∧Q1≤p∧p≤4294967296)→r+y1=rn→
        (rn<4294967296→Hid (Gs u u1 y1 y0 p rn))∧(4294967296≤rn→Hid (p=Q1)):=by
     intro p rn hq hp hrn;have hp:=hp.out;have hQ:=HQ1.out;rw[hrn]at hp;obtain⟨d1,d2,d3,d4,d5⟩:=K.out;exact⟨fun h=>hZ (Gs.next h hp.1 (by rw[hQ];exact hp.2.1) hp.2.2),fun h=>hZ ((Gs.brk d1 d3 h hp.1 (by rw[hQ];exact hp.2.1) hp.2.2).trans hQ)⟩
    have i6:(r:Int)+(y1:Int)≤18446744073709551615:=(by omega);obtain⟨rn,hrn⟩:∃rn,r+y1=rn:=⟨_,rfl⟩
    have k11:(r:Int)+(y1:Int)=(rn:Int):=(by omega);have k12:(rn:Int)≤18446744073709551615:=(by omega);rcases k7 with⟨k7,k7',p,hqp,hp⟩|⟨k7,k7',k8,k9,p,hqp,hp⟩|⟨k7,k7',k8,k9,k10⟩
    case inr.inr=>
     replace k10:=hZ k10;clear fin i6 hrn k11 k12;go_wp2_with fail
     go_meet
     case rel=>exact⟨by rw[k10.out],rfl⟩
    all_goals
     have k13:(q:Int)-1=(p:Int):=(by omega);have k14:IntKind.u64.wrap (p:Int)=(p:Int):=aP (by have:=hp.out.2.2;omega);have k15:IntKind.u64.wrap (rn:Int)=(rn:Int):=aP (by omega);obtain⟨n1,n2⟩:=fin p rn hqp hp hrn;have HP:=hZ hqp;clear fin hqp hp;clear hrn;rcases Nat.lt_or_ge rn 4294967296 with hr|hr
     ·have hr1:¬4294967296≤(rn:Int):=(by omega);have hr2:(rn:Int)<4294967296:=(by omega);have n1:=n1 hr;clear n2 hr;go_wp2_with fail
      go_roundw
      case rel=>exact⟨p,rn,rfl,rfl,n1.out,trivial⟩
      case measure=>have:=HP.out;subst this;simp only[intOf];omega
     ·have hr1:4294967296≤(rn:Int):=(by omega);have hr2:¬(rn:Int)<4294967296:=(by omega);have n2:=n2 hr;clear n1 hr;go_wp2_with fail
      go_meet
      case rel=>exact⟨by rw[n2.out],rfl⟩
  case rest=>
   obtain⟨rfl,rfl⟩:=hcut;have hY0:0<Y:=(by omega);obtain⟨r1,hr1⟩:∃r1,(u*4294967296+u1) % Y=r1:=⟨_,rfl⟩
   have hq1:(u*4294967296+u1)/Y=Q1:=(by rw[←eY.out];exact HQ1.out);obtain⟨A,B,C,c1,c2,c3,c4⟩:=aAq hnorm.2 hY0 hq1 hr1;have hr1l:r1<Y:=(by rw[←hr1];exact Nat.mod_lt _ hY0);have hvs:r1<y1*4294967296+y0:=(by rw[eY.out];exact hr1l);have G0:=Gs.init by1 by1' by0 bu0 hvs;obtain⟨Q0,hQ0⟩:∃Q0,(r1*4294967296+u0)/(y1*4294967296+y0)=Q0:=⟨_,rfl⟩
   have hq0:(r1*4294967296+u0)/Y=Q0:=(by rw[←eY.out];exact hQ0);obtain⟨r0,hr0⟩:∃r0,(r1*4294967296+u0) % Y=r0:=⟨_,rfl⟩
   obtain⟨A2,B2,C2,d1,d2,d3,d4⟩:=aAq hnorm.2 hY0 hq0 hr0;have hr0l:r0<Y:=(by rw[←hr0];exact Nat.mod_lt _ hY0);have q1l:Q1<4294967296:=(by rw[←hq1];exact aDi hs3 bu1);have q0l:Q0<4294967296:=(by rw[←hq0];exact aDi hr1l bu0);have fin:Qt=Q1*4294967296+Q0∧Rt=r0/2^s:=by
    have h:=aFH hq1 hr1 hq0 hr0 hY0;rw[eT.out]at h;obtain⟨h1,h2⟩:=HQ.out;exact⟨h1.trans h.1.symm,by rw[h2,h.2]⟩
   obtain⟨z1,hz1⟩:∃z1,Q1*4294967296=z1:=⟨_,rfl⟩
   have d5:IntKind.u64.wrap ((Q1:Int)*4294967296)=(z1:Int):=by
    have h:=aP (show z1<18446744073709551616 by omega);have e:(Q1:Int)*4294967296=(z1:Int):=(by omega);rw[e];exact h
   have d6:IntKind.u64.wrap ((z1:Int)+(Q0:Int))=((Qt:Nat):Int):=by
    have h:=aP (show z1+Q0<18446744073709551616 by omega);rw[←Int.natCast_add,h,fin.1,hz1]
   have d7:(r0:Int)/2^s=(Rt:Int):=(by rw[←eH,←Int.natCast_ediv,fin.2]);have hQ0':=hZ hQ0;have f20:(r1:Int)/(y1:Int)=((r1/y1:Nat):Int):=(Int.natCast_ediv _ _).symm;have b20:=G0.le;have e20:=G0.eq;have b21:=G0.rl;have hG1:=hZ G0;have F:=hZ (And.intro hvs (And.intro hnorm (And.intro hT (And.intro hus hs3))));have r1b:r1<18446744073709551616:=(by omega);clear hr1l;clear G0 hQ0 hr1 hr0 hq1 hq0 fin hvs hr0l hz1 hnorm hT hus hs3 q1l q0l hY0 b10 b11 e10 e11 f10 f11 hG0;clear f1 f2 f3 f4 f5 f6 f7 f8 f9 hs;generalize r1/y1=qb at*
   generalize r1 % y1=rb at*
   have f21:(qb:Int)*(y1:Int)=((qb*y1:Nat):Int):=(Int.natCast_mul _ _).symm;generalize qb*y1=mb at*
   have e21:(r1:Int)-(mb:Int)=(rb:Int):=(by omega);have f22:IntKind.u64.wrap (mb:Int)=(mb:Int):=aP (by omega);have f23:IntKind.u64.wrap (rb:Int)=(rb:Int):=aP (by omega);have K:=hZ (And.intro by1 (And.intro by1' (And.intro by0 (And.intro bu1 bu0))));have hy1i:(2147483648:Int)≤(y1:Int):=(by omega);have hb20:(qb:Int)≤4294967297:=(by omega);have hb21:(rb:Int)≤4294967295:=(by omega);have K2:=hZ (And.intro b20 (And.intro e20 b21));clear by1 by1' by0 bu1 bu0 b20 e20 b21 hy hh hl hbl1 hb0;go_upto_block 2 with (fail)
   go_cut [18] from 19 (fun qv w2=>qv=.int .u64 (Q0:Int)∧w2=wc)
   case first=>
    go_wp2_with fail
    go_loopw [18,16] (fun qv rv w2=>∃q r:Nat,qv=.int .u64 (q:Int)∧rv=.int .u64 (r:Int)∧Gs r1 u0 y1 y0 q r∧w2=wc) (fun qv _ _=>(intOf qv).toNat)
    case atStart=>exact⟨qb,rb,rfl,rfl,hG1.out,rfl⟩
    case round=>
     obtain⟨q,r,rfl,rfl,hg,rfl⟩:=hrel;obtain⟨by1,by1',by0,bu1,bu0⟩:=K.out;have hvs:=F.out.1;obtain⟨m,R,Z,k1,k2,k3,k4,k5,k6,k7⟩:=aCb hg (by omega) by0 bu0 hvs hQ0'.out;clear hg;have i3:(y1:Int)≤4294967295:=(by omega);have i5:(2147483648:Int)≤(y1:Int):=(by omega);clear by1 by1' by0 bu1 bu0 hvs;have fin:∀p rn:Nat,q=p+1→Hid (p*y1+(r+y1)=r1∧Q0≤p∧p≤4294967296)→r+y1=rn→
         (rn<4294967296→Hid (Gs r1 u0 y1 y0 p rn))∧(4294967296≤rn→Hid (p=Q0)):=by
      intro p rn hq hp hrn;have hp:=hp.out;have hQ:=hQ0'.out;rw[hrn]at hp;obtain⟨d1,d2,d3,d4,d5⟩:=K.out;exact⟨fun h=>hZ (Gs.next h hp.1 (by rw[hQ];exact hp.2.1) hp.2.2),fun h=>hZ ((Gs.brk d1 d3 h hp.1 (by rw[hQ];exact hp.2.1) hp.2.2).trans hQ)⟩
     have i6:(r:Int)+(y1:Int)≤18446744073709551615:=(by omega);obtain⟨rn,hrn⟩:∃rn,r+y1=rn:=⟨_,rfl⟩
     have k11:(r:Int)+(y1:Int)=(rn:Int):=(by omega);have k12:(rn:Int)≤18446744073709551615:=(by omega);rcases k7 with⟨k7,k7',p,hqp,hp⟩|⟨k7,k7',k8,k9,p,hqp,hp⟩|⟨k7,k7',k8,k9,k10⟩
     case inr.inr=>
      replace k10:=hZ k10;clear fin i6 hrn k11 k12;go_wp2_with fail
      go_meet
      case rel=>exact⟨by rw[k10.out],rfl⟩
     all_goals
      have k13:(q:Int)-1=(p:Int):=(by omega);have k14:IntKind.u64.wrap (p:Int)=(p:Int):=aP (by have:=hp.out.2.2;omega);have k15:IntKind.u64.wrap (rn:Int)=(rn:Int):=aP (by omega);obtain⟨n1,n2⟩:=fin p rn hqp hp hrn;have HP:=hZ hqp;clear fin hqp hp;clear hrn;rcases Nat.lt_or_ge rn 4294967296 with hr|hr
      ·have hr1:¬4294967296≤(rn:Int):=(by omega);have hr2:(rn:Int)<4294967296:=(by omega);have n1:=n1 hr;clear n2 hr;go_wp2_with fail
       go_roundw
       case rel=>exact⟨p,rn,rfl,rfl,n1.out,trivial⟩
       case measure=>have:=HP.out;subst this;simp only[intOf];omega
      ·have hr1:4294967296≤(rn:Int):=(by omega);have hr2:¬(rn:Int)<4294967296:=(by omega);have n2:=n2 hr;clear n1 hr;go_wp2_with fail
       go_meet
       case rel=>exact⟨by rw[n2.out],rfl⟩
   case rest=>
    obtain⟨rfl,rfl⟩:=hcut;go_wp2_with fail
    go_ret2
    exact⟨rfl,0,rfl⟩
end
namespace Me
open Ma
theorem aAA{cs R:List Nat}{i d:Nat}(h:i<cs.length):(cs.take (i+1)++R).set i d=cs.take i++d::R:=by
 rw[List.set_append_left _ _ (by rw[List.length_take];omega),List.take_add_one,List.getElem?_eq_getElem h,Option.toList_some,List.set_append_right _ _ (by rw[List.length_take];omega)];rw[List.length_take,Nat.min_eq_left (by omega),Nat.sub_self];simp
theorem aCc{cs R:List Nat}{i j:Nat}(h:i<j)(hj:j≤cs.length):(cs.take j++R)[i]? =cs[i]? :=by
 rw[List.getElem?_append_left (by rw[List.length_take];omega),List.getElem?_take,if_pos h]
theorem Src.dn{w w':World}{g t off i j:Nat}{A:Option Addr}{xs cs R:List Nat}(h:Src w g off A xs)(hb:Blk .u64 w g t cs)(hb':Blk .u64 w' g t (cs.take (off+j)++R))(hg:w.grownBy w' (some g))
  (hij:i<j) (hj:off+j≤cs.length) (hx:i<xs.length):∃b q,A=some ⟨b,q,none⟩∧w'.cell? ⟨b,q+i,none⟩=some (.int .u64 ((xs[i]:Nat):Int)):=by
 obtain⟨b,q,rfl,hlt,hcase,hc⟩:=h (by omega);refine⟨b,q,rfl,?_⟩;have h0:=hc i _ (List.getElem?_eq_getElem hx);rcases hcase with hne|⟨rfl,rfl⟩
 ·rw[Gr.cell hg (p:=⟨b,q+i,none⟩) hlt hne];exact h0
 ·rw[←h0,cell_of_row w' b (q+i) _ t (0,0) hb',cell_of_row w b (q+i) _ t (0,0) hb];simp only[nums,List.getElem?_toArray,List.getElem?_map];rw[aCc (by omega) hj]
end Me
section
open Go.RowKit
open Ma Me
theorem aGQ{r a y b:Nat}(h:r<y)(ha:a<b):(r*b+a)/y<b:=by
 rw[Nat.div_lt_iff_lt_mul (by omega)];have h1:(r+1)*b≤y*b:=Nat.mul_le_mul_right _ h;rw[Nat.add_mul,Nat.one_mul]at h1;rw[Nat.mul_comm b y];omega
theorem kX(Az Ax:Option Addr)(nz cz nx cx gz t off y:Nat)(xs cs:List Nat)(w:World)(hb:Blk .u64 w gz t cs)(lx:xs.length=nx)(hoff:off+nx≤cs.length)(hz:0<nx→Az=some ⟨gz,off,none⟩)(hnz:nx≤nz)(_:nz≤cz)(_:nx≤cx)(hn:nx≤1099511627776)(sx:Src w gz off Ax xs)(hx:∀d∈xs,d<W64)(hy:y<W64)(hy0:0<y):Calls Tryz.prog 288 #[.slice Az nz cz,.slice Ax nx cx,.int .u64 (y:Int)] w
   fun e w'=>∃(o:List Nat),e=.returned (.int .u64 ((vl W64 xs % y:Nat):Int))∧o.length=nx∧(∀d∈o,d<W64)∧vl W64 o=vl W64 xs/y∧
    Blk .u64 w' gz t (cs.take off++o++cs.drop (off+nx))∧w.grownBy w' (some gz):=by
 have LX:=hZ lx;clear lx;go_enter Tryz.func288,Tryz.ntmps288
 go_wp2_with fail
 go_loopw [7,8] (fun rv iv w1=>∃(j r:Nat) (o:List Nat),j≤nx∧iv=.int .i64 ((j:Int)-1)∧rv=.int .u64 (r:Int)∧r<y∧
     vl W64 (xs.drop j)=vl W64 o*y+r∧o.length=nx-j∧(∀d∈o,d<W64)∧Blk .u64 w1 gz t (cs.take (off+j)++(o++cs.drop (off+nx)))∧w.grownBy w1 (some gz)) (fun _ iv _=>(intOf iv+1).toNat)
 case atStart=>exact⟨nx,0,[],by omega,rfl,rfl,hy0,by rw[List.drop_of_length_le (by rw[LX.out];omega)];simp[vl],by simp,by simp,by rw[List.nil_append,List.take_append_drop];exact hb,Gr.refl _ _⟩
 case round=>
  obtain⟨j,r,o,hj,rfl,rfl,hr,hv,hlo,ho,hb1,hg1⟩:=hrel;have HV:=hZ hv;clear hv;have HLO:=hZ hlo;clear hlo;by_cases hlt:0<j
  ·obtain⟨i,rfl⟩:∃i,j=i+1:=⟨j-1,by omega⟩
   rw[show ((i+1:Nat):Int)-1=(i:Int) from by omega];obtain⟨bx,qx,rfl,hcx1⟩:=sx.dn hb hb1 hg1 (i:=i) (by omega) (by omega) (by rw[LX.out];omega);obtain rfl:=hz (by omega);have bx':xs[i]'(by rw[LX.out];omega)<W64:=hx _ (List.getElem_mem _);have HD:=hZ (iB W64 (show i<xs.length by rw[LX.out];omega));generalize xs[i]'(by rw[LX.out];omega)=a at*
   obtain⟨g1,hg1q⟩:∃g1,(r*W64+a)/y=g1:=⟨_,rfl⟩
   obtain⟨r1,hr1q⟩:∃r1,(r*W64+a) % y=r1:=⟨_,rfl⟩
   have hlen:(cs.take (off+(i+1))++(o++cs.drop (off+nx))).length=cs.length:=by
    rw[List.length_append,List.length_append,List.length_take,List.length_drop,HLO.out];omega
   obtain⟨old,hcell⟩:=hb1.ex (i:=off+i) (by rw[hlen];omega);have hfz:=hb1.frozen (off+i);have HL:=hZ hlen;clear hlen;have hdg:g1<W64:=(by rw[←hg1q];exact aGQ hr bx');have hrl:r1<y:=(by rw[←hr1q];exact Nat.mod_lt _ hy0);have hsp:g1*y+r1=a+W64*r:=by
    have:=Nat.div_add_mod (r*W64+a) y;rw[hg1q,hr1q]at this;rw[Nat.mul_comm g1,this,Nat.mul_comm W64 r,Nat.add_comm]
   have HSP:=hZ hsp;clear hsp;have HG:=hZ hg1q;have HR:=hZ hr1q;clear hg1q hr1q;have HX:=hZ bx';have HY:=hZ hy;have HD2:=hZ hdg;clear bx' hy hdg;go_wp2_with fail
   refine (aDN r a y g1 r1 _ HY.out hr HX.out HG.out HR.out).mono ?_;rintro e w2 ⟨rfl,m,rfl⟩;have hb2:=hb1.drewN m;have hg2:=Gr.drewN hg1 m;have hcell2:(wr.drewN m).cell? ⟨gz,off+i,none⟩=some (.int .u64 (old:Int)):=hcell;have hfz2:(wr.drewN m).frozen? ⟨gz,off+i,none⟩=false:=hfz;generalize wr.drewN m=w2 at*
   go_wp2_with fail
   have hb3:=hb2.set_ (off+i) g1;rw[←Nat.add_assoc,aAA (by omega)]at hb3;refine⟨⟨i,r1,g1::o,by omega,by go_num,rfl,hrl,?_,by rw[List.length_cons,HLO.out];omega,?_,hb3,Gr.setCell hg2 _ _⟩,by simp[intOf]⟩
   ·rw[HD.out,HV.out,dF];exact aHB (V:=y) HSP.out
   ·intro d hd;rcases List.mem_cons.1 hd with rfl|hd
    ·exact HD2.out
    ·exact ho d hd
  ·obtain rfl:j=0:=(by omega);rw[show ((0:Nat):Int)-1=-1 from by omega];have hv:=HV.out;rw[List.drop_zero]at hv;have hd:=pX hv hr;have HDV:=hZ hd;clear hd hv;go_wp2_with fail
   go_ret
   refine⟨o,by rw[HDV.out.2];rfl,by rw[HLO.out];omega,ho,HDV.out.1.symm,?_,hg1⟩;rw[List.append_assoc];exact hb1
theorem Me.Rw.opt{w:World}{A:Option Addr}{xs:List Nat}{k d:Nat}(h:Rw w A xs)(hd:xs[k]? =some d):∃b o,A=some ⟨b,o,none⟩∧w.cell? ⟨b,o+k,none⟩=some (.int .u64 (d:Int)):=by
 obtain⟨hk,rfl⟩:=List.getElem?_eq_some_iff.1 hd;obtain⟨b,o,h1,_,h2⟩:=h.at_ hk;exact⟨b,o,h1,h2⟩
theorem aIC{U v y2 p2 g r G:Nat}(h:Gw U v y2 p2 g r)(hv:0<v)(hv2:v<18446744073709551616)(hy2:y2<18446744073709551616)(hp2:p2<18446744073709551616)(hG:(U*18446744073709551616+p2)/(v*18446744073709551616+y2)=G):∃hi lo:Nat,g*y2/18446744073709551616=hi∧g*y2 % 18446744073709551616=lo∧((((hi:Int)<(r:Int)∨¬(hi:Int)<(r:Int)∧hi=r∧(lo:Int)≤(p2:Int))∧Hid (g=G))∨(¬(hi:Int)<(r:Int)∧((((hi:Int) == (r:Int))=false)∨hi=r∧¬(lo:Int)≤(p2:Int))∧∃p s:Nat,(g:Int)-1=(p:Int)∧Hid (p<18446744073709551616∧g=p+1)∧IntKind.u64.wrap (p:Int)=(p:Int)∧IntKind.u64.wrap ((r:Int)+(v:Int))=(s:Int)∧
     (((s:Int)<(v:Int)∧Hid (p=G))∨(¬(s:Int)<(v:Int)∧Hid (Gw U v y2 p2 p s))))):=by
 refine⟨_,_,rfl,rfl,?_⟩;have rl:=h.rl;have gl:=h.gl;have hm:=Nat.div_add_mod (g*y2) 18446744073709551616;have hl:=Nat.mod_lt (g*y2) (show 0<18446744073709551616 by decide);have st:=h.stop hv;have go:=h.over hv;rw[hG]at st go;obtain⟨M,hM⟩:∃M,g*y2=M:=⟨_,rfl⟩
 rw[hM]at st go hm hl⊢;obtain⟨hi,hhi⟩:∃hi,M/18446744073709551616=hi:=⟨_,rfl⟩
 obtain⟨lo,hlo⟩:∃lo,M % 18446744073709551616=lo:=⟨_,rfl⟩
 rw[hhi,hlo]at hm;rw[hlo]at hl;rw[hhi,hlo];rcases Nat.lt_or_ge (r*18446744073709551616+p2) M with hc|hc
 ·right;obtain⟨p,e,x,y⟩:=go hc;refine⟨by omega,?_,p,(r+v) % 18446744073709551616,by omega,hZ ⟨by omega,e⟩,aP (by omega),by rw[IntKind.wrap_u64];omega,?_⟩
  ·rcases Nat.lt_or_ge r hi with h1|h1
   ·exact Or.inl (by rw[beq_eq_false_iff_ne];omega)
   ·exact Or.inr ⟨by omega,by omega⟩
  ·rcases Nat.lt_or_ge (r+v) 18446744073709551616 with h1|h1
   ·right;refine⟨by omega,hZ ⟨?_,by omega,by omega,by rw[hG];exact y⟩⟩;rw[Nat.mod_eq_of_lt h1];exact x
   ·left;refine⟨by omega,?_⟩;have:=Gw.brk hv hy2 h1 (by omega) x (by rw[hG];exact y);rw[hG]at this;exact hZ this
 ·left;refine⟨?_,hZ (st hc)⟩;rcases Nat.lt_or_ge hi r with h1|h1
  ·exact Or.inl (by omega)
  ·exact Or.inr ⟨by omega,by omega,by omega⟩
theorem aC3(Ap Ay:Option Addr)(n m cp cy:Nat)(ps ys:List Nat)(w:World)(rp:Rw w Ap ps)(ry:Rw w Ay ys)(lp:ps.length=m)(ly:ys.length=n)(hm:m=n+1)(h2:2≤n)(hn40:n≤1099511627776)(hp:∀d∈ps,d<W64)(hy:∀d∈ys,d<W64)(hP:vl W64 ps<vl W64 ys*W64)(hn:W64^n≤2*vl W64 ys):Calls Tryz.prog 396 #[.slice Ap m cp,.slice Ay n cy] w
   fun e w'=>∃g:Nat,e=.returned (.int .u64 (g:Int))∧vl W64 ps/vl W64 ys≤g∧g≤vl W64 ps/vl W64 ys+1∧g<W64∧∃k,w'=w.drewN k:=by
 obtain⟨k,rfl⟩:∃k,n=k+2:=⟨n-2,by omega⟩
 subst hm;obtain⟨v,y2,pn,pm,p2,e1,e2,e3,e4,e5,b1,b2,b3,b4,b5,hv,g1,g2⟩:=aCS ly lp hy hp hP hn;obtain⟨by_,oy,rfl,c1⟩:=ry.opt e1;obtain⟨_,_,hA,c2⟩:=ry.opt e2;cases hA;obtain⟨bp,op,rfl,c3⟩:=rp.opt e3;obtain⟨_,_,hA,c4⟩:=rp.opt e4;cases hA;obtain⟨_,_,hA,c5⟩:=rp.opt e5;cases hA;obtain⟨Qg,hQg⟩:∃Qg,vl W64 ps/vl W64 ys=Qg:=⟨_,rfl⟩
 have hW:∀a b:Nat,vl 18446744073709551616 ps/vl 18446744073709551616 ys=Qg:=fun _ _=>hQg;rw[hW 0 0]at g1 g2;rw[hQg];clear hQg hW e1 e2 e3 e4 e5 lp ly hp hy hP hn rp ry;have i1:(k:Int)+2-1=((k+1:Nat):Int):=by omega
 have i2:(k:Int)+2-2=((k:Nat):Int):=by omega
 rcases Nat.lt_or_ge pn v with hlt|hge
 ·have hlt':¬(v:Int)≤(pn:Int):=(by omega);have I:=Gw.init (pm:=pm) (v:=v) (y2:=y2) (p2:=p2) hlt b1 b4 b5;have g2:=g2 hlt;clear g1;obtain⟨U,hU⟩:∃U,pn*18446744073709551616+pm=U:=⟨_,rfl⟩
  rw[hU]at I g2;obtain⟨G,hG⟩:∃G,(U*18446744073709551616+p2)/(v*18446744073709551616+y2)=G:=⟨_,rfl⟩
  have g2:=g2 G hG.symm;obtain⟨ga,hga⟩:∃ga,U/v=ga:=⟨_,rfl⟩
  obtain⟨ra,hra⟩:∃ra,U % v=ra:=⟨_,rfl⟩
  rw[hga,hra]at I;have HI:=hZ I;have HB:=hZ (And.intro b1 (And.intro b2 (And.intro b3 (And.intro b4 b5))));have HG:=hZ hG;have HU1:Hid ((pn*W64+pm)/v=ga):=hZ (by rw[bE,hU];exact hga);have HU2:Hid ((pn*W64+pm) % v=ra):=hZ (by rw[bE,hU];exact hra);have HV:=hZ hv;have HL:=hZ hlt;have HF:=hZ g2;have hGl:=I.gl;clear I hG hU hga hra hv hlt g2 b1 b2 b3 b4 b5 hGl;go_enter Tryz.func396,Tryz.ntmps396
  go_wp2_with fail
  go_quiet ((go_at_call 346;refine Calls.quiet_of (aDN pn pm v ga ra _ (by rw[bE];exact HB.out.1) HL.out (by rw[bE];exact HB.out.2.2.2.1) HU1.out HU2.out)))
  go_wp2_with fail
  go_loopw [7,8] (fun gv rv w2=>∃g r:Nat,gv=.int .u64 (g:Int)∧rv=.int .u64 (r:Int)∧Gw U v y2 p2 g r∧∃m,w2=w.drewN m) (fun gv _ _=>(intOf gv).toNat)
  case atStart=>exact⟨ga,ra,rfl,rfl,HI.out,_,rfl⟩
  case round=>
   obtain⟨g,r,rfl,rfl,hg,m,rfl⟩:=hrel;obtain⟨b1,b2,b3,b4,b5⟩:=HB.out;have hgl:g<W64:=hg.gl;obtain⟨hi,lo,k1,k2,k3⟩:=aIC hg (by have:=HV.out;omega) b1 b2 b5 HG.out;have K1:=hZ k1;have K2:=hZ k2;have HR:=hZ hg.rl;have HY:=hZ b2;have HGL:=hZ hgl;clear k1 k2 hg b1 b2 b3 b4 b5 hgl;rcases k3 with⟨k3|⟨k3,rfl,k4⟩,k5⟩|⟨k3,k4|⟨rfl,k4⟩,p,s,k5,K6,k8,k9,⟨k10,k11⟩|⟨k10,k11⟩⟩
   all_goals
    go_wp2_with fail
    refine (oK g y2 hi lo HGL.out HY.out K1.out K2.out _).mono ?_;rintro e w2 ⟨rfl,rfl⟩;go_wp2_with fail
    first
    |(go_ret
      exact⟨g,rfl,by rw[k5.out];exact HF.out.1,by rw[k5.out];exact HF.out.2,HGL.out,_,rfl⟩)
    |(go_ret
      exact⟨p,rfl,by rw[k11.out];exact HF.out.1,by rw[k11.out];exact HF.out.2,by rw[bE];exact K6.out.1,_,rfl⟩)
    |(refine⟨⟨p,s,rfl,rfl,k11.out,_,rfl⟩,?_⟩
      simp only[intOf];omega)
 ·have hge':(v:Int)≤(pn:Int):=(by omega);have g1:=g1 hge;clear g2 hge;have HF:=hZ g1;clear b1 b2 b3 b4 b5 hv;go_enter Tryz.func396,Tryz.ntmps396
  go_wp2_with fail
  go_ret
  exact⟨18446744073709551615,rfl,HF.out.1,HF.out.2,by decide,0,rfl⟩
theorem oL(Az Ax Ay:Option Addr)(nz cz nx cx n cy gz t off c0:Nat)(xs ys cs:List Nat)(w:World)(g:Nat→Nat→Nat→Nat × Nat)(Pc:Nat→Prop)(hg:∀x y c,x<W64→y<W64→Pc c→(g x y c).1<W64∧Pc (g x y c).2)(hc0:Pc c0)
  (H:∀(x y c:Nat) (w1:World),x<W64→y<W64→Pc c→w.grownBy w1 (some gz)→Calls Tryz.prog 383 #[.int .u64 (x:Int),.int .u64 (y:Int),.int .u64 (c:Int)] w1 fun e w'=>e=.returned (.tuple #[.int .u64 ((g x y c).1:Int),.int .u64 ((g x y c).2:Int)])∧Q w1 w')
  (hb:Blk .u64 w gz t cs) (hoff:off+n≤cs.length) (hz:0<n→Az=some ⟨gz,off,none⟩) (hnz:n≤cz) (hnx:n≤cx) (hny:n≤cy) (hn:n≤1099511627776) (lx:xs.length=n) (ly:ys.length=n) (sx:Src w gz off Ax xs) (sy:Src w gz off Ay ys) (hx:∀d∈xs,d<W64) (hy:∀d∈ys,d<W64):Calls Tryz.prog 350 #[.slice Az nz cz,.slice Ax nx cx,.slice Ay n cy,.int .u64 (c0:Int),.func (.func 383) #[] #[]] w
   fun e w'=>e=.returned (.int .u64 ((aG g xs ys c0).2:Int))∧Blk .u64 w' gz t (cs.take off++(aG g xs ys c0).1++cs.drop (off+n))∧w.grownBy w' (some gz):=by
 have LX:=hZ lx;have LY:=hZ ly;clear lx ly;have HH:=hZ H;clear H;go_enter Tryz.func350,Tryz.ntmps350
 go_wp2_with fail
 go_quiet (fail)
 go_wp2_with fail
 go_loopw [3,23] (fun cv iv w1=>∃k:Nat,k≤n∧iv=.int .i64 (k:Int)∧cv=.int .u64 ((aG g (xs.take k) (ys.take k) c0).2:Int)∧Pc (aG g (xs.take k) (ys.take k) c0).2∧
     Part w w1 gz t off k cs (aG g (xs.take k) (ys.take k) c0).1) (fun _ iv _=>n-(intOf iv).toNat)
 case atStart=>exact⟨0,by omega,rfl,rfl,hc0,⟨by rw[List.take_zero,List.take_zero,bQ,bL];exact hb,Gr.drewN (Gr.refl _ _) _⟩⟩
 case round=>
  obtain⟨k,hk,rfl,rfl,hpc,hp⟩:=hrel;by_cases hlt:k<n
  ·have hol:(aG g (xs.take k) (ys.take k) c0).1.length=k:=by
    rw[aW _ _ _ _ (by rw[List.length_take,List.length_take,LX.out,LY.out]),List.length_take,LX.out];omega
   obtain⟨bx,qx,rfl,hcx⟩:=sx.at_ hb hp hol hoff LX.out hlt;obtain⟨by_,qy,rfl,hcy⟩:=sy.at_ hb hp hol hoff LY.out hlt;obtain rfl:=hz (by omega);have hkx:k<xs.length:=(by rw[LX.out];exact hlt);have hky:k<ys.length:=(by rw[LY.out];exact hlt);have hst:=dZ g c0 hkx hky;have bx':xs[k]<W64:=hx _ (List.getElem_mem _);have by':ys[k]<W64:=hy _ (List.getElem_mem _);generalize xs[k]=x at*
   generalize ys[k]=y at*
   have HST:=hZ hst;clear hst;have HOL:=hZ hol;clear hol;have hcb:=hp.blk;have hkc:off+k<(cs.take off++(aG g (xs.take k) (ys.take k) c0).1++cs.drop (off+k)).length:=by
    rw[aV HOL.out (by omega)];omega
   have HP:=hZ hp;clear hp hcb;have HKC:=hZ hkc;clear hkc;have hgs:=hg x y _ bx' by' hpc;generalize hcc:(aG g (xs.take k) (ys.take k) c0).2=Z at*
   have HCC:=hZ hcc;clear hcc;go_wp2_with fail
   refine (HH.out x y Z _ bx' by' hpc HP.out.gr).mono ?_;rintro e w2 ⟨rfl,hq2⟩;have hb2:=HP.out.blk.q hq2;have hcell:=hb2.cell HKC.out;have hfz:=hb2.frozen (off+k);generalize (cs.take off++(aG g (xs.take k) (ys.take k) c0).1++cs.drop (off+k))[off+k]'HKC.out=old at*
   go_wp2_with fail
   have hb3:=hb2.set_ (off+k) (g x y Z).1;rw[dS HOL.out (by omega)]at hb3;refine⟨⟨k+1,by omega,by go_num,?_,?_,⟨?_,?_⟩⟩,by simp[intOf];omega⟩
   ·rw[HST.out]
   ·rw[HST.out];exact hgs.2
   ·rw[HST.out];exact hb3
   ·exact Gr.setCell (Gr.q HP.out.gr hq2) _ _
  ·obtain rfl:k=n:=(by omega);go_wp2_with fail
   go_ret
   rw[List.take_of_length_le (by rw[LX.out];omega),List.take_of_length_le (by rw[LY.out];omega)]at*
   exact⟨rfl,hp.blk,hp.gr⟩
theorem oM(Az Ax Ay:Option Addr)(nz cz nx cx n cy gz t off c0:Nat)(xs ys cs:List Nat)(w:World)(g:Nat→Nat→Nat→Nat × Nat)(Pc:Nat→Prop)(hg:∀x y c,x<W64→y<W64→Pc c→(g x y c).1<W64∧Pc (g x y c).2)(hc0:Pc c0)
  (H:∀(x y c:Nat) (w1:World),x<W64→y<W64→Pc c→w.grownBy w1 (some gz)→Calls Tryz.prog 385 #[.int .u64 (x:Int),.int .u64 (y:Int),.int .u64 (c:Int)] w1 fun e w'=>e=.returned (.tuple #[.int .u64 ((g x y c).1:Int),.int .u64 ((g x y c).2:Int)])∧Q w1 w')
  (hb:Blk .u64 w gz t cs) (hoff:off+n≤cs.length) (hz:0<n→Az=some ⟨gz,off,none⟩) (hnz:n≤cz) (hnx:n≤cx) (hny:n≤cy) (hn:n≤1099511627776) (lx:xs.length=n) (ly:ys.length=n) (sx:Src w gz off Ax xs) (sy:Src w gz off Ay ys) (hx:∀d∈xs,d<W64) (hy:∀d∈ys,d<W64):Calls Tryz.prog 350 #[.slice Az nz cz,.slice Ax nx cx,.slice Ay n cy,.int .u64 (c0:Int),.func (.func 385) #[] #[]] w
   fun e w'=>e=.returned (.int .u64 ((aG g xs ys c0).2:Int))∧Blk .u64 w' gz t (cs.take off++(aG g xs ys c0).1++cs.drop (off+n))∧w.grownBy w' (some gz):=by
 have LX:=hZ lx;have LY:=hZ ly;clear lx ly;have HH:=hZ H;clear H;go_enter Tryz.func350,Tryz.ntmps350
 go_wp2_with fail
 go_quiet (fail)
 go_wp2_with fail
 go_loopw [3,23] (fun cv iv w1=>∃k:Nat,k≤n∧iv=.int .i64 (k:Int)∧cv=.int .u64 ((aG g (xs.take k) (ys.take k) c0).2:Int)∧Pc (aG g (xs.take k) (ys.take k) c0).2∧
     Part w w1 gz t off k cs (aG g (xs.take k) (ys.take k) c0).1) (fun _ iv _=>n-(intOf iv).toNat)
 case atStart=>exact⟨0,by omega,rfl,rfl,hc0,⟨by rw[List.take_zero,List.take_zero,bQ,bL];exact hb,Gr.drewN (Gr.refl _ _) _⟩⟩
 case round=>
  obtain⟨k,hk,rfl,rfl,hpc,hp⟩:=hrel;by_cases hlt:k<n
  ·have hol:(aG g (xs.take k) (ys.take k) c0).1.length=k:=by
    rw[aW _ _ _ _ (by rw[List.length_take,List.length_take,LX.out,LY.out]),List.length_take,LX.out];omega
   obtain⟨bx,qx,rfl,hcx⟩:=sx.at_ hb hp hol hoff LX.out hlt;obtain⟨by_,qy,rfl,hcy⟩:=sy.at_ hb hp hol hoff LY.out hlt;obtain rfl:=hz (by omega);have hkx:k<xs.length:=(by rw[LX.out];exact hlt);have hky:k<ys.length:=(by rw[LY.out];exact hlt);have hst:=dZ g c0 hkx hky;have bx':xs[k]<W64:=hx _ (List.getElem_mem _);have by':ys[k]<W64:=hy _ (List.getElem_mem _);generalize xs[k]=x at*
   generalize ys[k]=y at*
   have HST:=hZ hst;clear hst;have HOL:=hZ hol;clear hol;have hcb:=hp.blk;have hkc:off+k<(cs.take off++(aG g (xs.take k) (ys.take k) c0).1++cs.drop (off+k)).length:=by
    rw[aV HOL.out (by omega)];omega
   have HP:=hZ hp;clear hp hcb;have HKC:=hZ hkc;clear hkc;have hgs:=hg x y _ bx' by' hpc;generalize hcc:(aG g (xs.take k) (ys.take k) c0).2=Z at*
   have HCC:=hZ hcc;clear hcc;go_wp2_with fail
   refine (HH.out x y Z _ bx' by' hpc HP.out.gr).mono ?_;rintro e w2 ⟨rfl,hq2⟩;have hb2:=HP.out.blk.q hq2;have hcell:=hb2.cell HKC.out;have hfz:=hb2.frozen (off+k);generalize (cs.take off++(aG g (xs.take k) (ys.take k) c0).1++cs.drop (off+k))[off+k]'HKC.out=old at*
   go_wp2_with fail
   have hb3:=hb2.set_ (off+k) (g x y Z).1;rw[dS HOL.out (by omega)]at hb3;refine⟨⟨k+1,by omega,by go_num,?_,?_,⟨?_,?_⟩⟩,by simp[intOf];omega⟩
   ·rw[HST.out]
   ·rw[HST.out];exact hgs.2
   ·rw[HST.out];exact hb3
   ·exact Gr.setCell (Gr.q HP.out.gr hq2) _ _
  ·obtain rfl:k=n:=(by omega);go_wp2_with fail
   go_ret
   rw[List.take_of_length_le (by rw[LX.out];omega),List.take_of_length_le (by rw[LY.out];omega)]at*
   exact⟨rfl,hp.blk,hp.gr⟩
theorem aAB(Az Ax Ay:Option Addr)(nz cz nx cx n cy gz t off c0:Nat)(xs ys cs:List Nat)(w:World)(p:Value)(g:Nat→Nat→Nat→Nat × Nat)(Pc:Nat→Prop)(hg:∀x y c,x<W64→y<W64→Pc c→(g x y c).1<W64∧Pc (g x y c).2)(hc0:Pc c0)
  (H:∀(x y c:Nat) (w1:World),x<W64→y<W64→Pc c→w.grownBy w1 (some gz)→Calls Tryz.prog 375 #[.int .u64 (x:Int),.int .u64 (y:Int),.int .u64 (c:Int),p] w1 fun e w'=>e=.returned (.tuple #[.int .u64 ((g x y c).1:Int),.int .u64 ((g x y c).2:Int)])∧Q w1 w')
  (hb:Blk .u64 w gz t cs) (hoff:off+n≤cs.length) (hz:0<n→Az=some ⟨gz,off,none⟩) (hnz:n≤cz) (hnx:n≤cx) (hny:n≤cy) (hn:n≤1099511627776) (lx:xs.length=n) (ly:ys.length=n) (sx:Src w gz off Ax xs) (sy:Src w gz off Ay ys) (hx:∀d∈xs,d<W64) (hy:∀d∈ys,d<W64):Calls Tryz.prog 350 #[.slice Az nz cz,.slice Ax nx cx,.slice Ay n cy,.int .u64 (c0:Int),.func (.func 375) #[] #[p]] w
   fun e w'=>e=.returned (.int .u64 ((aG g xs ys c0).2:Int))∧Blk .u64 w' gz t (cs.take off++(aG g xs ys c0).1++cs.drop (off+n))∧w.grownBy w' (some gz):=by
 have LX:=hZ lx;have LY:=hZ ly;clear lx ly;have HH:=hZ H;clear H;go_enter Tryz.func350,Tryz.ntmps350
 go_wp2_with fail
 go_quiet (fail)
 go_wp2_with fail
 go_loopw [3,23] (fun cv iv w1=>∃k:Nat,k≤n∧iv=.int .i64 (k:Int)∧cv=.int .u64 ((aG g (xs.take k) (ys.take k) c0).2:Int)∧Pc (aG g (xs.take k) (ys.take k) c0).2∧
     Part w w1 gz t off k cs (aG g (xs.take k) (ys.take k) c0).1) (fun _ iv _=>n-(intOf iv).toNat)
 case atStart=>exact⟨0,by omega,rfl,rfl,hc0,⟨by rw[List.take_zero,List.take_zero,bQ,bL];exact hb,Gr.drewN (Gr.refl _ _) _⟩⟩
 case round=>
  obtain⟨k,hk,rfl,rfl,hpc,hp⟩:=hrel;by_cases hlt:k<n
  ·have hol:(aG g (xs.take k) (ys.take k) c0).1.length=k:=by
    rw[aW _ _ _ _ (by rw[List.length_take,List.length_take,LX.out,LY.out]),List.length_take,LX.out];omega
   obtain⟨bx,qx,rfl,hcx⟩:=sx.at_ hb hp hol hoff LX.out hlt;obtain⟨by_,qy,rfl,hcy⟩:=sy.at_ hb hp hol hoff LY.out hlt;obtain rfl:=hz (by omega);have hkx:k<xs.length:=(by rw[LX.out];exact hlt);have hky:k<ys.length:=(by rw[LY.out];exact hlt);have hst:=dZ g c0 hkx hky;have bx':xs[k]<W64:=hx _ (List.getElem_mem _);have by':ys[k]<W64:=hy _ (List.getElem_mem _);generalize xs[k]=x at*
   generalize ys[k]=y at*
   have HST:=hZ hst;clear hst;have HOL:=hZ hol;clear hol;have hcb:=hp.blk;have hkc:off+k<(cs.take off++(aG g (xs.take k) (ys.take k) c0).1++cs.drop (off+k)).length:=by
    rw[aV HOL.out (by omega)];omega
   have HP:=hZ hp;clear hp hcb;have HKC:=hZ hkc;clear hkc;have hgs:=hg x y _ bx' by' hpc;generalize hcc:(aG g (xs.take k) (ys.take k) c0).2=Z at*
   have HCC:=hZ hcc;clear hcc;go_wp2_with fail
   refine (HH.out x y Z _ bx' by' hpc HP.out.gr).mono ?_;rintro e w2 ⟨rfl,hq2⟩;have hb2:=HP.out.blk.q hq2;have hcell:=hb2.cell HKC.out;have hfz:=hb2.frozen (off+k);generalize (cs.take off++(aG g (xs.take k) (ys.take k) c0).1++cs.drop (off+k))[off+k]'HKC.out=old at*
   go_wp2_with fail
   have hb3:=hb2.set_ (off+k) (g x y Z).1;rw[dS HOL.out (by omega)]at hb3;refine⟨⟨k+1,by omega,by go_num,?_,?_,⟨?_,?_⟩⟩,by simp[intOf];omega⟩
   ·rw[HST.out]
   ·rw[HST.out];exact hgs.2
   ·rw[HST.out];exact hb3
   ·exact Gr.setCell (Gr.q HP.out.gr hq2) _ _
  ·obtain rfl:k=n:=(by omega);go_wp2_with fail
   go_ret
   rw[List.take_of_length_le (by rw[LX.out];omega),List.take_of_length_le (by rw[LY.out];omega)]at*
   exact⟨rfl,hp.blk,hp.gr⟩
theorem aCd(Az Ax Ay:Option Addr)(nz cz nx cx n cy gz t off c0:Nat)(xs ys cs:List Nat)(w:World)(p:Value)(g:Nat→Nat→Nat→Nat × Nat)(Pc:Nat→Prop)(hg:∀x y c,x<W64→y<W64→Pc c→(g x y c).1<W64∧Pc (g x y c).2)(hc0:Pc c0)
  (H:∀(x y c:Nat) (w1:World),x<W64→y<W64→Pc c→w.grownBy w1 (some gz)→Calls Tryz.prog 351 #[.int .u64 (x:Int),.int .u64 (y:Int),.int .u64 (c:Int),p] w1 fun e w'=>e=.returned (.tuple #[.int .u64 ((g x y c).1:Int),.int .u64 ((g x y c).2:Int)])∧Q w1 w')
  (hb:Blk .u64 w gz t cs) (hoff:off+n≤cs.length) (hz:0<n→Az=some ⟨gz,off,none⟩) (hnz:n≤cz) (hnx:n≤cx) (hny:n≤cy) (hn:n≤1099511627776) (lx:xs.length=n) (ly:ys.length=n) (sx:Src w gz off Ax xs) (sy:Src w gz off Ay ys) (hx:∀d∈xs,d<W64) (hy:∀d∈ys,d<W64):Calls Tryz.prog 350 #[.slice Az nz cz,.slice Ax nx cx,.slice Ay n cy,.int .u64 (c0:Int),.func (.func 351) #[] #[p]] w
   fun e w'=>e=.returned (.int .u64 ((aG g xs ys c0).2:Int))∧Blk .u64 w' gz t (cs.take off++(aG g xs ys c0).1++cs.drop (off+n))∧w.grownBy w' (some gz):=by
 have LX:=hZ lx;have LY:=hZ ly;clear lx ly;have HH:=hZ H;clear H;go_enter Tryz.func350,Tryz.ntmps350
 go_wp2_with fail
 go_quiet (fail)
 go_wp2_with fail
 go_loopw [3,23] (fun cv iv w1=>∃k:Nat,k≤n∧iv=.int .i64 (k:Int)∧cv=.int .u64 ((aG g (xs.take k) (ys.take k) c0).2:Int)∧Pc (aG g (xs.take k) (ys.take k) c0).2∧
     Part w w1 gz t off k cs (aG g (xs.take k) (ys.take k) c0).1) (fun _ iv _=>n-(intOf iv).toNat)
 case atStart=>exact⟨0,by omega,rfl,rfl,hc0,⟨by rw[List.take_zero,List.take_zero,bQ,bL];exact hb,Gr.drewN (Gr.refl _ _) _⟩⟩
 case round=>
  obtain⟨k,hk,rfl,rfl,hpc,hp⟩:=hrel;by_cases hlt:k<n
  ·have hol:(aG g (xs.take k) (ys.take k) c0).1.length=k:=by
    rw[aW _ _ _ _ (by rw[List.length_take,List.length_take,LX.out,LY.out]),List.length_take,LX.out];omega
   obtain⟨bx,qx,rfl,hcx⟩:=sx.at_ hb hp hol hoff LX.out hlt;obtain⟨by_,qy,rfl,hcy⟩:=sy.at_ hb hp hol hoff LY.out hlt;obtain rfl:=hz (by omega);have hkx:k<xs.length:=(by rw[LX.out];exact hlt);have hky:k<ys.length:=(by rw[LY.out];exact hlt);have hst:=dZ g c0 hkx hky;have bx':xs[k]<W64:=hx _ (List.getElem_mem _);have by':ys[k]<W64:=hy _ (List.getElem_mem _);generalize xs[k]=x at*
   generalize ys[k]=y at*
   have HST:=hZ hst;clear hst;have HOL:=hZ hol;clear hol;have hcb:=hp.blk;have hkc:off+k<(cs.take off++(aG g (xs.take k) (ys.take k) c0).1++cs.drop (off+k)).length:=by
    rw[aV HOL.out (by omega)];omega
   have HP:=hZ hp;clear hp hcb;have HKC:=hZ hkc;clear hkc;have hgs:=hg x y _ bx' by' hpc;generalize hcc:(aG g (xs.take k) (ys.take k) c0).2=Z at*
   have HCC:=hZ hcc;clear hcc;go_wp2_with fail
   refine (HH.out x y Z _ bx' by' hpc HP.out.gr).mono ?_;rintro e w2 ⟨rfl,hq2⟩;have hb2:=HP.out.blk.q hq2;have hcell:=hb2.cell HKC.out;have hfz:=hb2.frozen (off+k);generalize (cs.take off++(aG g (xs.take k) (ys.take k) c0).1++cs.drop (off+k))[off+k]'HKC.out=old at*
   go_wp2_with fail
   have hb3:=hb2.set_ (off+k) (g x y Z).1;rw[dS HOL.out (by omega)]at hb3;refine⟨⟨k+1,by omega,by go_num,?_,?_,⟨?_,?_⟩⟩,by simp[intOf];omega⟩
   ·rw[HST.out]
   ·rw[HST.out];exact hgs.2
   ·rw[HST.out];exact hb3
   ·exact Gr.setCell (Gr.q HP.out.gr hq2) _ _
  ·obtain rfl:k=n:=(by omega);go_wp2_with fail
   go_ret
   rw[List.take_of_length_le (by rw[LX.out];omega),List.take_of_length_le (by rw[LY.out];omega)]at*
   exact⟨rfl,hp.blk,hp.gr⟩
theorem aAC(Az Ax Ay:Option Addr)(nz cz nx cx n cy gz t off c0:Nat)(xs ys cs:List Nat)(w:World)(p:Value)(g:Nat→Nat→Nat→Nat × Nat)(Pc:Nat→Prop)(hg:∀x y c,x<W64→y<W64→Pc c→(g x y c).1<W64∧Pc (g x y c).2)(hc0:Pc c0)
  (H:∀(x y c:Nat) (w1:World),x<W64→y<W64→Pc c→w.grownBy w1 (some gz)→Calls Tryz.prog 352 #[.int .u64 (x:Int),.int .u64 (y:Int),.int .u64 (c:Int),p] w1 fun e w'=>e=.returned (.tuple #[.int .u64 ((g x y c).1:Int),.int .u64 ((g x y c).2:Int)])∧Q w1 w')
  (hb:Blk .u64 w gz t cs) (hoff:off+n≤cs.length) (hz:0<n→Az=some ⟨gz,off,none⟩) (hnz:n≤cz) (hnx:n≤cx) (hny:n≤cy) (hn:n≤1099511627776) (lx:xs.length=n) (ly:ys.length=n) (sx:Src w gz off Ax xs) (sy:Src w gz off Ay ys) (hx:∀d∈xs,d<W64) (hy:∀d∈ys,d<W64):Calls Tryz.prog 350 #[.slice Az nz cz,.slice Ax nx cx,.slice Ay n cy,.int .u64 (c0:Int),.func (.func 352) #[] #[p]] w
   fun e w'=>e=.returned (.int .u64 ((aG g xs ys c0).2:Int))∧Blk .u64 w' gz t (cs.take off++(aG g xs ys c0).1++cs.drop (off+n))∧w.grownBy w' (some gz):=by
 have LX:=hZ lx;have LY:=hZ ly;clear lx ly;have HH:=hZ H;clear H;go_enter Tryz.func350,Tryz.ntmps350
 go_wp2_with fail
 go_quiet (fail)
 go_wp2_with fail
 go_loopw [3,23] (fun cv iv w1=>∃k:Nat,k≤n∧iv=.int .i64 (k:Int)∧cv=.int .u64 ((aG g (xs.take k) (ys.take k) c0).2:Int)∧Pc (aG g (xs.take k) (ys.take k) c0).2∧
     Part w w1 gz t off k cs (aG g (xs.take k) (ys.take k) c0).1) (fun _ iv _=>n-(intOf iv).toNat)
 case atStart=>exact⟨0,by omega,rfl,rfl,hc0,⟨by rw[List.take_zero,List.take_zero,bQ,bL];exact hb,Gr.drewN (Gr.refl _ _) _⟩⟩
 case round=>
  obtain⟨k,hk,rfl,rfl,hpc,hp⟩:=hrel;by_cases hlt:k<n
  ·have hol:(aG g (xs.take k) (ys.take k) c0).1.length=k:=by
    rw[aW _ _ _ _ (by rw[List.length_take,List.length_take,LX.out,LY.out]),List.length_take,LX.out];omega
   obtain⟨bx,qx,rfl,hcx⟩:=sx.at_ hb hp hol hoff LX.out hlt;obtain⟨by_,qy,rfl,hcy⟩:=sy.at_ hb hp hol hoff LY.out hlt;obtain rfl:=hz (by omega);have hkx:k<xs.length:=(by rw[LX.out];exact hlt);have hky:k<ys.length:=(by rw[LY.out];exact hlt);have hst:=dZ g c0 hkx hky;have bx':xs[k]<W64:=hx _ (List.getElem_mem _);have by':ys[k]<W64:=hy _ (List.getElem_mem _);generalize xs[k]=x at*
   generalize ys[k]=y at*
   have HST:=hZ hst;clear hst;have HOL:=hZ hol;clear hol;have hcb:=hp.blk;have hkc:off+k<(cs.take off++(aG g (xs.take k) (ys.take k) c0).1++cs.drop (off+k)).length:=by
    rw[aV HOL.out (by omega)];omega
   have HP:=hZ hp;clear hp hcb;have HKC:=hZ hkc;clear hkc;have hgs:=hg x y _ bx' by' hpc;generalize hcc:(aG g (xs.take k) (ys.take k) c0).2=Z at*
   have HCC:=hZ hcc;clear hcc;go_wp2_with fail
   refine (HH.out x y Z _ bx' by' hpc HP.out.gr).mono ?_;rintro e w2 ⟨rfl,hq2⟩;have hb2:=HP.out.blk.q hq2;have hcell:=hb2.cell HKC.out;have hfz:=hb2.frozen (off+k);generalize (cs.take off++(aG g (xs.take k) (ys.take k) c0).1++cs.drop (off+k))[off+k]'HKC.out=old at*
   go_wp2_with fail
   have hb3:=hb2.set_ (off+k) (g x y Z).1;rw[dS HOL.out (by omega)]at hb3;refine⟨⟨k+1,by omega,by go_num,?_,?_,⟨?_,?_⟩⟩,by simp[intOf];omega⟩
   ·rw[HST.out]
   ·rw[HST.out];exact hgs.2
   ·rw[HST.out];exact hb3
   ·exact Gr.setCell (Gr.q HP.out.gr hq2) _ _
  ·obtain rfl:k=n:=(by omega);go_wp2_with fail
   go_ret
   rw[List.take_of_length_le (by rw[LX.out];omega),List.take_of_length_le (by rw[LY.out];omega)]at*
   exact⟨rfl,hp.blk,hp.gr⟩
theorem vY(Az Ax Ay:Option Addr)(nz cz nx cx n cy gz t off c0:Nat)(xs ys cs:List Nat)(w:World)(p:Value)(g:Nat→Nat→Nat→Nat × Nat)(Pc:Nat→Prop)(hg:∀x y c,x<W64→y<W64→Pc c→(g x y c).1<W64∧Pc (g x y c).2)(hc0:Pc c0)
  (H:∀(x y c:Nat) (w1:World),x<W64→y<W64→Pc c→w.grownBy w1 (some gz)→Calls Tryz.prog 382 #[.int .u64 (x:Int),.int .u64 (y:Int),.int .u64 (c:Int),p] w1 fun e w'=>e=.returned (.tuple #[.int .u64 ((g x y c).1:Int),.int .u64 ((g x y c).2:Int)])∧Q w1 w')
  (hb:Blk .u64 w gz t cs) (hoff:off+n≤cs.length) (hz:0<n→Az=some ⟨gz,off,none⟩) (hnz:n≤cz) (hnx:n≤cx) (hny:n≤cy) (hn:n≤1099511627776) (lx:xs.length=n) (ly:ys.length=n) (sx:Src w gz off Ax xs) (sy:Src w gz off Ay ys) (hx:∀d∈xs,d<W64) (hy:∀d∈ys,d<W64):Calls Tryz.prog 350 #[.slice Az nz cz,.slice Ax nx cx,.slice Ay n cy,.int .u64 (c0:Int),.func (.func 382) #[] #[p]] w
   fun e w'=>e=.returned (.int .u64 ((aG g xs ys c0).2:Int))∧Blk .u64 w' gz t (cs.take off++(aG g xs ys c0).1++cs.drop (off+n))∧w.grownBy w' (some gz):=by
 have LX:=hZ lx;have LY:=hZ ly;clear lx ly;have HH:=hZ H;clear H;go_enter Tryz.func350,Tryz.ntmps350
 go_wp2_with fail
 go_quiet (fail)
 go_wp2_with fail
 go_loopw [3,23] (fun cv iv w1=>∃k:Nat,k≤n∧iv=.int .i64 (k:Int)∧cv=.int .u64 ((aG g (xs.take k) (ys.take k) c0).2:Int)∧Pc (aG g (xs.take k) (ys.take k) c0).2∧
     Part w w1 gz t off k cs (aG g (xs.take k) (ys.take k) c0).1) (fun _ iv _=>n-(intOf iv).toNat)
 case atStart=>exact⟨0,by omega,rfl,rfl,hc0,⟨by rw[List.take_zero,List.take_zero,bQ,bL];exact hb,Gr.drewN (Gr.refl _ _) _⟩⟩
 case round=>
  obtain⟨k,hk,rfl,rfl,hpc,hp⟩:=hrel;by_cases hlt:k<n
  ·have hol:(aG g (xs.take k) (ys.take k) c0).1.length=k:=by
    rw[aW _ _ _ _ (by rw[List.length_take,List.length_take,LX.out,LY.out]),List.length_take,LX.out];omega
   obtain⟨bx,qx,rfl,hcx⟩:=sx.at_ hb hp hol hoff LX.out hlt;obtain⟨by_,qy,rfl,hcy⟩:=sy.at_ hb hp hol hoff LY.out hlt;obtain rfl:=hz (by omega);have hkx:k<xs.length:=(by rw[LX.out];exact hlt);have hky:k<ys.length:=(by rw[LY.out];exact hlt);have hst:=dZ g c0 hkx hky;have bx':xs[k]<W64:=hx _ (List.getElem_mem _);have by':ys[k]<W64:=hy _ (List.getElem_mem _);generalize xs[k]=x at*
   generalize ys[k]=y at*
   have HST:=hZ hst;clear hst;have HOL:=hZ hol;clear hol;have hcb:=hp.blk;have hkc:off+k<(cs.take off++(aG g (xs.take k) (ys.take k) c0).1++cs.drop (off+k)).length:=by
    rw[aV HOL.out (by omega)];omega
   have HP:=hZ hp;clear hp hcb;have HKC:=hZ hkc;clear hkc;have hgs:=hg x y _ bx' by' hpc;generalize hcc:(aG g (xs.take k) (ys.take k) c0).2=Z at*
   have HCC:=hZ hcc;clear hcc;go_wp2_with fail
   refine (HH.out x y Z _ bx' by' hpc HP.out.gr).mono ?_;rintro e w2 ⟨rfl,hq2⟩;have hb2:=HP.out.blk.q hq2;have hcell:=hb2.cell HKC.out;have hfz:=hb2.frozen (off+k);generalize (cs.take off++(aG g (xs.take k) (ys.take k) c0).1++cs.drop (off+k))[off+k]'HKC.out=old at*
   go_wp2_with fail
   have hb3:=hb2.set_ (off+k) (g x y Z).1;rw[dS HOL.out (by omega)]at hb3;refine⟨⟨k+1,by omega,by go_num,?_,?_,⟨?_,?_⟩⟩,by simp[intOf];omega⟩
   ·rw[HST.out]
   ·rw[HST.out];exact hgs.2
   ·rw[HST.out];exact hb3
   ·exact Gr.setCell (Gr.q HP.out.gr hq2) _ _
  ·obtain rfl:k=n:=(by omega);go_wp2_with fail
   go_ret
   rw[List.take_of_length_le (by rw[LX.out];omega),List.take_of_length_le (by rw[LY.out];omega)]at*
   exact⟨rfl,hp.blk,hp.gr⟩
theorem vZ(Az Ax Ay:Option Addr)(nz cz nx cx n cy gz t off c0:Nat)(xs ys cs:List Nat)(w:World)(p:Value)(g:Nat→Nat→Nat→Nat × Nat)(Pc:Nat→Prop)(hg:∀x y c,x<W64→y<W64→Pc c→(g x y c).1<W64∧Pc (g x y c).2)(hc0:Pc c0)
  (H:∀(x y c:Nat) (w1:World),x<W64→y<W64→Pc c→w.grownBy w1 (some gz)→Calls Tryz.prog 423 #[.int .u64 (x:Int),.int .u64 (y:Int),.int .u64 (c:Int),p] w1 fun e w'=>e=.returned (.tuple #[.int .u64 ((g x y c).1:Int),.int .u64 ((g x y c).2:Int)])∧Q w1 w')
  (hb:Blk .u64 w gz t cs) (hoff:off+n≤cs.length) (hz:0<n→Az=some ⟨gz,off,none⟩) (hnz:n≤cz) (hnx:n≤cx) (hny:n≤cy) (hn:n≤1099511627776) (lx:xs.length=n) (ly:ys.length=n) (sx:Src w gz off Ax xs) (sy:Src w gz off Ay ys) (hx:∀d∈xs,d<W64) (hy:∀d∈ys,d<W64):Calls Tryz.prog 350 #[.slice Az nz cz,.slice Ax nx cx,.slice Ay n cy,.int .u64 (c0:Int),.func (.func 423) #[] #[p]] w
   fun e w'=>e=.returned (.int .u64 ((aG g xs ys c0).2:Int))∧Blk .u64 w' gz t (cs.take off++(aG g xs ys c0).1++cs.drop (off+n))∧w.grownBy w' (some gz):=by
 have LX:=hZ lx;have LY:=hZ ly;clear lx ly;have HH:=hZ H;clear H;go_enter Tryz.func350,Tryz.ntmps350
 go_wp2_with fail
 go_quiet (fail)
 go_wp2_with fail
 go_loopw [3,23] (fun cv iv w1=>∃k:Nat,k≤n∧iv=.int .i64 (k:Int)∧cv=.int .u64 ((aG g (xs.take k) (ys.take k) c0).2:Int)∧Pc (aG g (xs.take k) (ys.take k) c0).2∧
     Part w w1 gz t off k cs (aG g (xs.take k) (ys.take k) c0).1) (fun _ iv _=>n-(intOf iv).toNat)
 case atStart=>exact⟨0,by omega,rfl,rfl,hc0,⟨by rw[List.take_zero,List.take_zero,bQ,bL];exact hb,Gr.drewN (Gr.refl _ _) _⟩⟩
 case round=>
  obtain⟨k,hk,rfl,rfl,hpc,hp⟩:=hrel;by_cases hlt:k<n
  ·have hol:(aG g (xs.take k) (ys.take k) c0).1.length=k:=by
    rw[aW _ _ _ _ (by rw[List.length_take,List.length_take,LX.out,LY.out]),List.length_take,LX.out];omega
   obtain⟨bx,qx,rfl,hcx⟩:=sx.at_ hb hp hol hoff LX.out hlt;obtain⟨by_,qy,rfl,hcy⟩:=sy.at_ hb hp hol hoff LY.out hlt;obtain rfl:=hz (by omega);have hkx:k<xs.length:=(by rw[LX.out];exact hlt);have hky:k<ys.length:=(by rw[LY.out];exact hlt);have hst:=dZ g c0 hkx hky;have bx':xs[k]<W64:=hx _ (List.getElem_mem _);have by':ys[k]<W64:=hy _ (List.getElem_mem _);generalize xs[k]=x at*
   generalize ys[k]=y at*
   have HST:=hZ hst;clear hst;have HOL:=hZ hol;clear hol;have hcb:=hp.blk;have hkc:off+k<(cs.take off++(aG g (xs.take k) (ys.take k) c0).1++cs.drop (off+k)).length:=by
    rw[aV HOL.out (by omega)];omega
   have HP:=hZ hp;clear hp hcb;have HKC:=hZ hkc;clear hkc;have hgs:=hg x y _ bx' by' hpc;generalize hcc:(aG g (xs.take k) (ys.take k) c0).2=Z at*
   have HCC:=hZ hcc;clear hcc;go_wp2_with fail
   refine (HH.out x y Z _ bx' by' hpc HP.out.gr).mono ?_;rintro e w2 ⟨rfl,hq2⟩;have hb2:=HP.out.blk.q hq2;have hcell:=hb2.cell HKC.out;have hfz:=hb2.frozen (off+k);generalize (cs.take off++(aG g (xs.take k) (ys.take k) c0).1++cs.drop (off+k))[off+k]'HKC.out=old at*
   go_wp2_with fail
   have hb3:=hb2.set_ (off+k) (g x y Z).1;rw[dS HOL.out (by omega)]at hb3;refine⟨⟨k+1,by omega,by go_num,?_,?_,⟨?_,?_⟩⟩,by simp[intOf];omega⟩
   ·rw[HST.out]
   ·rw[HST.out];exact hgs.2
   ·rw[HST.out];exact hb3
   ·exact Gr.setCell (Gr.q HP.out.gr hq2) _ _
  ·obtain rfl:k=n:=(by omega);go_wp2_with fail
   go_ret
   rw[List.take_of_length_le (by rw[LX.out];omega),List.take_of_length_le (by rw[LY.out];omega)]at*
   exact⟨rfl,hp.blk,hp.gr⟩
theorem yM(Az Ax Ay:Option Addr)(nz cz nx cx n cy gz t off c0:Nat)(xs ys cs:List Nat)(w:World)(p q:Value)(g:Nat→Nat→Nat→Nat × Nat)(Pc:Nat→Prop)(hg:∀x y c,x<W64→y<W64→Pc c→(g x y c).1<W64∧Pc (g x y c).2)(hc0:Pc c0)
  (H:∀(x y c:Nat) (w1:World),x<W64→y<W64→Pc c→w.grownBy w1 (some gz)→Calls Tryz.prog 430 #[.int .u64 (x:Int),.int .u64 (y:Int),.int .u64 (c:Int),p,q] w1 fun e w'=>e=.returned (.tuple #[.int .u64 ((g x y c).1:Int),.int .u64 ((g x y c).2:Int)])∧Q w1 w')
  (hb:Blk .u64 w gz t cs) (hoff:off+n≤cs.length) (hz:0<n→Az=some ⟨gz,off,none⟩) (hnz:n≤cz) (hnx:n≤cx) (hny:n≤cy) (hn:n≤1099511627776) (lx:xs.length=n) (ly:ys.length=n) (sx:Src w gz off Ax xs) (sy:Src w gz off Ay ys) (hx:∀d∈xs,d<W64) (hy:∀d∈ys,d<W64):Calls Tryz.prog 350 #[.slice Az nz cz,.slice Ax nx cx,.slice Ay n cy,.int .u64 (c0:Int),.func (.func 430) #[] #[p,q]] w
   fun e w'=>e=.returned (.int .u64 ((aG g xs ys c0).2:Int))∧Blk .u64 w' gz t (cs.take off++(aG g xs ys c0).1++cs.drop (off+n))∧w.grownBy w' (some gz):=by
 have LX:=hZ lx;have LY:=hZ ly;clear lx ly;have HH:=hZ H;clear H;go_enter Tryz.func350,Tryz.ntmps350
 go_wp2_with fail
 go_quiet (fail)
 go_wp2_with fail
 go_loopw [3,23] (fun cv iv w1=>∃k:Nat,k≤n∧iv=.int .i64 (k:Int)∧cv=.int .u64 ((aG g (xs.take k) (ys.take k) c0).2:Int)∧Pc (aG g (xs.take k) (ys.take k) c0).2∧
     Part w w1 gz t off k cs (aG g (xs.take k) (ys.take k) c0).1) (fun _ iv _=>n-(intOf iv).toNat)
 case atStart=>exact⟨0,by omega,rfl,rfl,hc0,⟨by rw[List.take_zero,List.take_zero,bQ,bL];exact hb,Gr.drewN (Gr.refl _ _) _⟩⟩
 case round=>
  obtain⟨k,hk,rfl,rfl,hpc,hp⟩:=hrel;by_cases hlt:k<n
  ·have hol:(aG g (xs.take k) (ys.take k) c0).1.length=k:=by
    rw[aW _ _ _ _ (by rw[List.length_take,List.length_take,LX.out,LY.out]),List.length_take,LX.out];omega
   obtain⟨bx,qx,rfl,hcx⟩:=sx.at_ hb hp hol hoff LX.out hlt;obtain⟨by_,qy,rfl,hcy⟩:=sy.at_ hb hp hol hoff LY.out hlt;obtain rfl:=hz (by omega);have hkx:k<xs.length:=(by rw[LX.out];exact hlt);have hky:k<ys.length:=(by rw[LY.out];exact hlt);have hst:=dZ g c0 hkx hky;have bx':xs[k]<W64:=hx _ (List.getElem_mem _);have by':ys[k]<W64:=hy _ (List.getElem_mem _);generalize xs[k]=x at*
   generalize ys[k]=y at*
   have HST:=hZ hst;clear hst;have HOL:=hZ hol;clear hol;have hcb:=hp.blk;have hkc:off+k<(cs.take off++(aG g (xs.take k) (ys.take k) c0).1++cs.drop (off+k)).length:=by
    rw[aV HOL.out (by omega)];omega
   have HP:=hZ hp;clear hp hcb;have HKC:=hZ hkc;clear hkc;have hgs:=hg x y _ bx' by' hpc;generalize hcc:(aG g (xs.take k) (ys.take k) c0).2=Z at*
   have HCC:=hZ hcc;clear hcc;go_wp2_with fail
   refine (HH.out x y Z _ bx' by' hpc HP.out.gr).mono ?_;rintro e w2 ⟨rfl,hq2⟩;have hb2:=HP.out.blk.q hq2;have hcell:=hb2.cell HKC.out;have hfz:=hb2.frozen (off+k);generalize (cs.take off++(aG g (xs.take k) (ys.take k) c0).1++cs.drop (off+k))[off+k]'HKC.out=old at*
   go_wp2_with fail
   have hb3:=hb2.set_ (off+k) (g x y Z).1;rw[dS HOL.out (by omega)]at hb3;refine⟨⟨k+1,by omega,by go_num,?_,?_,⟨?_,?_⟩⟩,by simp[intOf];omega⟩
   ·rw[HST.out]
   ·rw[HST.out];exact hgs.2
   ·rw[HST.out];exact hb3
   ·exact Gr.setCell (Gr.q HP.out.gr hq2) _ _
  ·obtain rfl:k=n:=(by omega);go_wp2_with fail
   go_ret
   rw[List.take_of_length_le (by rw[LX.out];omega),List.take_of_length_le (by rw[LY.out];omega)]at*
   exact⟨rfl,hp.blk,hp.gr⟩
end
end Go.Proofs.YtamnpcdkcdfgaaaGreatDoor
