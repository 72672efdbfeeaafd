/- PolyComputes is true for any two slices of strings and any two strings. No condition. -/
import Derived.StillTailTactics
import Derived.Test.YtpobejcofijjdaaGreatDoorQd16
set_option maxHeartbeats 1000000
set_option maxRecDepth 100000
namespace Go.Proofs.YtpobejcofijjdaaGreatDoor.E
open Go Go.RowKit
open Ma Me K
def sp(p q:Rat):AV:=.c true (aO p++aO q)
theorem sp2{a b c d:Rat}(h1:a=c)(h2:b=d):sp a b=sp c d:=by rw[h1,h2]
def tS:List (Nat × TI):=(36,⟨.st [(0,34),(3,34)],6,112,[.b false,.m 0,.m 0,.b false,.m 0,.m 0]⟩)::tW
theorem sK{z:Bool}:∀p∈tS,(FN z).ti p.1=some p.2:=fun p hp=>by
 rcases List.mem_cons.1 hp with rfl|h
 ·kernel_rfl
 ·exact iI p h
theorem aS2{p:Rat}:avb (.c true (aO p)) (.c true (aO p))=true:=by
 show cb (cb (decide (p.num<0)) (decide (p.num<0)) (eQ (decide (p.num<0)))) (cb (Nat.beq p.num.natAbs p.num.natAbs) (cb (Nat.beq (bt p.den) (bt p.den)) true false) false) false=true;rw[Nat.beq_refl,Nat.beq_refl];cases decide (p.num<0)<;>rfl
section
variable {z:Bool} {p q r t x:Rat}
theorem aNu:Fc (FN z) 178 [sp p q] (sp (-q) (-p)):=
 .by_ sK Tryz.func178 rfl (by kernel_rfl) (by kernel_rfl) rfl ⟨by kernel_rfl,_,qO (p:=q),_,qO (p:=p),rfl⟩
theorem aKJ(hp:Ma.sz p≤LIM)(hq:Ma.sz q≤LIM):Fc (FN z) 120 [sp p q] (sp p q):=
 .by_ sK Tryz.func120 rfl (by kernel_rfl) (by kernel_rfl) rfl ⟨by kernel_rfl,_,nZ hp,_,nZ hq,rfl⟩
theorem aPa(hp:Ma.sz p≤LIM):Fc (FN z) 57 [nm p] (sp p p):=
 .by_ sK Tryz.func57 rfl (by kernel_rfl) (by kernel_rfl) rfl ⟨_,aKJ hp hp,rfl⟩
theorem pR(hB:64*(Ma.sz p+Ma.sz q)+400≤LIM):Fc (FN z) 76 [sp p q] (sp (aL p q) (aJ p q)):=
 .by_ sK Tryz.func76 rfl (by kernel_rfl) (by kernel_rfl) rfl ⟨_,xO hB,dt (fun h=>sp2 (if_neg fun x=>by have:=(oL p q).2 x;omega).symm (show p=aJ p q from (if_pos ((aBD p q).1 (by omega))).symm)) fun h=>have h1:=(oL p q).1 (by omega)
  sp2 (if_pos h1).symm (show q=aJ p q by unfold aJ;split<;>grind)⟩
theorem aIr(h1:64*(Ma.sz p+Ma.sz x)+400≤LIM)(h2:64*(Ma.sz x+Ma.sz q)+400≤LIM):Fc (FN z) 75 [sp p q,nm x] (sc (.b (decide (p≤x∧x≤q)))):=
 .by_ sK Tryz.func75 rfl (by kernel_rfl) (by kernel_rfl) rfl ⟨_,xO h1,dt (fun h=>⟨_,xO h2,congrArg (fun b=>sc (.b b)) (show decide (rc x q≤0)=_ from decide_eq_decide.2 ⟨fun y=>⟨(oL p x).1 h,(oL x q).1 y⟩,fun y=>(oL x q).2 y.2⟩)⟩) fun h=>congrArg (fun b=>sc (.b b)) (decide_eq_false fun y=>h ((oL p x).2 y.1)).symm⟩
theorem aKK(hB:64*(2*(Ma.sz p+Ma.sz q)+Ma.sz x)+400≤LIM):Fc (FN z) 35 [sp p q,nm x] (sc (.b (decide (aL p q≤x∧x≤aJ p q)))):=
 .by_ sK Tryz.func35 rfl (by kernel_rfl) (by kernel_rfl) rfl ⟨by kernel_rfl,_,pR (by omega),_,aIr (by have:=jE p q;omega) (by have:=iK p q;omega),rfl⟩
theorem aKL(hB:Ma.sz p+Ma.sz q+Ma.sz r+Ma.sz t≤10000000):Fc (FN true) 55 [sp p q,sp r t] (sp (aL p q+aL r t) (aJ p q+aJ r t)):=
 .by_ sK Tryz.func55 rfl (by kernel_rfl) (by kernel_rfl) rfl ⟨by kernel_rfl,_,pR (by rw[aB];omega),_,pR (by rw[aB];omega),by kernel_rfl,_,aCf (p:=aL p q) (q:=aL r t) (by have e1:=jE p q;have e2:=iK p q;have e3:=jE r t;have e4:=iK r t;rw[aB];omega),_,aCf (p:=aJ p q) (q:=aJ r t) (by have e1:=jE p q;have e2:=iK p q;have e3:=jE r t;have e4:=iK r t;rw[aB];omega),rfl⟩
theorem aCS(h0:¬p.num<0)(h1:p≤q)(h2:r≤t)(hB:Ma.sz p+Ma.sz q+Ma.sz r+Ma.sz t≤100000000):Fc (FN true) 119 [sp p q,sp r t] (sp (cZ p q r t) (dC p q r t)):=by
 have L:=aB;have n0:0≤p:=Rat.not_lt.1 fun h=>h0 ((bL p).2 h);have n1:¬q.num<0:=fun h=>by have:=(bL q).1 h;grind
 have P:=aLx n0 h1 h2;have A1:r.num<0→q*r=cZ p q r t:=fun h=>by have:=P.1;rwa [if_pos ((bL r).1 h)]at this
 have A2:¬r.num<0→p*r=cZ p q r t:=fun h=>by have:=P.1;rwa [if_neg fun e=>h ((bL r).2 e)]at this
 have B1:t.num<0→p*t=dC p q r t:=fun h=>by have:=P.2;rwa [if_pos ((bL t).1 h)]at this
 have B2:¬t.num<0→q*t=dC p q r t:=fun h=>by have:=P.2;rwa [if_neg fun e=>h ((bL t).2 e)]at this
 exact .by_ sK Tryz.func119 rfl (by kernel_rfl) (by kernel_rfl) rfl (dt (fun h=>absurd h h0) fun _=>dt (fun h=>absurd h n1) fun _=>dt (fun h=>absurd h h0) fun _=>⟨by kernel_rfl,⟨rfl,rfl,aS2,trivial⟩,dt (fun h=>dt (fun k=>⟨by kernel_rfl,_,jO (p:=q) (q:=r) (by omega),_,jO (p:=p) (q:=t) (by omega),sp2 (A1 h) (B1 k)⟩) fun k=>⟨by kernel_rfl,_,jO (p:=q) (q:=r) (by omega),_,jO (p:=q) (q:=t) (by omega),sp2 (A1 h) (B2 k)⟩) fun h=>dt (fun k=>⟨by kernel_rfl,_,jO (p:=p) (q:=r) (by omega),_,jO (p:=p) (q:=t) (by omega),sp2 (A2 h) (B1 k)⟩) fun k=>⟨by kernel_rfl,_,jO (p:=p) (q:=r) (by omega),_,jO (p:=q) (q:=t) (by omega),sp2 (A2 h) (B2 k)⟩⟩)
theorem aG2(h0:q.num<0)(h1:p≤q)(h2:r≤t)(hB:Ma.sz p+Ma.sz q+Ma.sz r+Ma.sz t≤100000000):Fc (FN true) 119 [sp p q,sp r t] (sp (cZ p q r t) (dC p q r t)):=by
 have P:=aLy p q r t;have n0:p.num<0:=(bL p).2 (by have:=(bL q).1 h0;grind);exact .by_ sK Tryz.func119 rfl (by kernel_rfl) (by kernel_rfl) rfl (dt (fun _=>dn (fun h=>absurd h0 h) fun _=>dt (fun _=>⟨by kernel_rfl,_,aNu (p:=p) (q:=q),_,aCS (p:=-q) (q:=-p) (r:=r) (t:=t) (by rw[Rat.neg_num];omega) (Rat.neg_le_neg h1) h2 (by rw[mK,mK];omega),_,aNu (p:=cZ (-q) (-p) r t) (q:=dC (-q) (-p) r t),sp2 P.1 P.2⟩) fun h=>absurd h0 h) fun h=>absurd n0 h)
set_option maxRecDepth 10000 in
theorem aRv(h1:p≤q)(h2:r≤t)(hB:Ma.sz p+Ma.sz q+Ma.sz r+Ma.sz t≤100000000):Fc (FN true) 119 [sp p q,sp r t] (sp (cZ p q r t) (dC p q r t)):=by
 by_cases a1:p.num<0
 ·by_cases a2:q.num<0
  ·exact aG2 a2 h1 h2 hB
  have L:=aB;have e1:=fJ p t;have e2:=fJ q r;have e3:=fJ p r;have e4:=fJ q t
  exact .by_ sK Tryz.func119 rfl (by kernel_rfl) (by kernel_rfl) rfl (dt (fun _=>dn (fun _=>dt (fun a3=>dn (fun a4=>have P:=aJb (a:=p) (b:=q) (c:=r) (d:=t) (Rat.le_of_lt ((bL p).1 a1)) (Rat.not_lt.1 fun h=>a2 ((bL q).2 h)) (Rat.le_of_lt ((bL r).1 a3)) (Rat.not_lt.1 fun h=>a4 ((bL t).2 h))
   ⟨by kernel_rfl,_,jO (p:=p) (q:=t) (by omega),_,jO (p:=q) (q:=r) (by omega),_,aFj (p:=p*t) (q:=q*r) (by omega),_,jO (p:=p) (q:=r) (by omega),_,jO (p:=q) (q:=t) (by omega),_,zM (p:=p*r) (q:=q*t) (by omega),sp2 P.1 P.2⟩) fun a4=>dt (fun h=>absurd h a2) fun _=>dt (fun _=>⟨_,aG2 (p:=r) (q:=t) (r:=p) (t:=q) a4 h2 h1 (by omega),sp2 (tH p q r t).1 (tH p q r t).2⟩) fun h=>absurd a1 h) fun a3=>dt (fun h=>absurd h a2) fun _=>dt (fun _=>⟨_,aCS (p:=r) (q:=t) (r:=p) (t:=q) a3 h2 h1 (by omega),sp2 (tH p q r t).1 (tH p q r t).2⟩) fun h=>absurd a1 h) fun h=>absurd h a2) fun h=>absurd a1 h)
 ·exact aCS a1 h1 h2 hB
theorem rmm(p q:Rat):aL p q≤aJ p q:=by unfold aL aJ;split<;>split<;>grind
theorem aKM(hB:Ma.sz p+Ma.sz q+Ma.sz r+Ma.sz t≤10000000):Fc (FN true) 56 [sp p q,sp r t] (sp (cZ (aL p q) (aJ p q) (aL r t) (aJ r t)) (dC (aL p q) (aJ p q) (aL r t) (aJ r t))):=
 .by_ sK Tryz.func56 rfl (by kernel_rfl) (by kernel_rfl) rfl ⟨by kernel_rfl,_,pR (by rw[aB];omega),_,pR (by rw[aB];omega),_,aRv (rmm p q) (rmm r t) (by have e1:=jE p q;have e2:=iK p q;have e3:=jE r t;have e4:=iK r t;omega),rfl⟩
end
end Go.Proofs.YtpobejcofijjdaaGreatDoor.E
namespace Go.Proofs.YtpobejcofijjdaaGreatDoor
open Go.RowKit
open Ma Me
theorem oW(A:Option Addr)(c B n:Nat)(ds:List Nat)(w:World)(hn:ds.length=n)(hc:n≤c)(hm:n≤9223372036854775807)(hx:Rd .i64 w B A ds):
  Calls Tryz.prog 176 #[.slice A n c] w fun e w'=>∃k,k≤ds.length∧e=.returned (.slice A k c)∧Nz (ds.take k)∧(∀b,vl b (ds.take k)=vl b ds)∧w=w':=by
 subst hn;go_enter Tryz.func176,Tryz.ntmps176
 go_wp2
 go_loop [3] (fun i=>∃k:Nat,k≤ds.length∧i=.int .i64 (k:Int)∧∀b,vl b (ds.take k)=vl b ds) (fun i=>(intOf i).toNat)
 case atStart=>exact⟨ds.length,by omega,rfl,fun b=>by simp⟩
 case round=>
  obtain⟨k,hk,rfl,hv⟩:=hrel;have HV:=hZ hv;clear hv;by_cases hlt:0<k
  ·obtain⟨j,rfl⟩:∃j,k=j+1:=⟨k-1,by omega⟩
   obtain⟨ad,rfl,hb,hcell⟩:=hx.at_ (k:=j) (by omega);by_cases h0:ds[j]=0
   ·have h0':((ds[j]:Int) == 0)=true:=(by simp[h0]);have H:∀b,vl b (ds.take j)=vl b ds:=fun b=>(by rw[←HV.out b,gH b (by omega),h0];simp);have H:=hZ H;clear h0 HV;go_wp2
    exact⟨⟨j,by omega,rfl,H.out⟩,by simp[intOf]⟩
   ·have h0':((ds[j]:Int) == 0)=false:=(by simp;omega);have H:Nz (ds.take (j+1)):=aCx (by omega) h0;clear h0;go_wp2
    go_ret
    exact⟨j+1,by omega,rfl,H,HV.out,rfl⟩
  ·obtain rfl:k=0:=(by omega);go_wp2
   go_ret
   exact⟨0,by omega,rfl,aDX,HV.out,rfl⟩
theorem aIs(A B:Option Addr)(n c d:Nat)(xs ys:List Nat)(w:World)(lx:Hid (xs.length=n))(ly:Hid (ys.length=n))(hn:n≤9223372036854775807)(rx:Rd .i64 w w.heap.size A xs)(ry:Rd .i64 w w.heap.size B ys)(wx:Wf B30 xs)(wy:Wf B30 ys):
  Calls Tryz.prog 114 #[.slice A n c,.slice B n d] w fun e w'=>e=.returned (.int .i64 (cmp (vl B30 xs) (vl B30 ys)))∧Q w w':=by
 go_enter Tryz.func114,Tryz.ntmps114
 go_wp2
 go_loopw [5] (fun i w1=>∃k:Nat,k≤n∧i=.int .i64 ((k:Int)-1)∧xs.drop k=ys.drop k∧∃m,w1=w.drewN m) (fun i _=>(intOf i+1).toNat)
 case atStart=>exact⟨n,by omega,rfl,by rw[List.drop_of_length_le (by rw[lx.out];omega),List.drop_of_length_le (by rw[ly.out];omega)],0,rfl⟩
 case round=>
  obtain⟨k,hk,rfl,hdrop,m,rfl⟩:=hrel;have HD:=hZ hdrop;clear hdrop;by_cases hlt:0<k
  ·obtain⟨j,rfl⟩:∃j,k=j+1:=⟨k-1,by omega⟩
   have jx:j<xs.length:=(by rw[lx.out];omega);have jy:j<ys.length:=(by rw[ly.out];omega);obtain⟨ad,rfl,hb,hcx⟩:=rx.at_ jx;obtain⟨ae,rfl,hb',hcy⟩:=ry.at_ jy;rw[show ((j+1:Nat):Int)-1=(j:Int) from by omega];have HX:=hZ (List.getElem?_eq_getElem jx);have HY:=hZ (List.getElem?_eq_getElem jy);generalize xs[j]=x at*
   generalize ys[j]=y at*
   clear jx jy hb hb';rcases Nat.lt_trichotomy x y with h|h|h
   ·go_wp2
    go_quiet (fail)
    go_wp2
    go_ret
    exact⟨by rw[fD (pE wx.1 HD.out HX.out HY.out h)];rfl,(by repeat (first|exact Q.refl _|refine Q.drewN ?_ _))⟩
   ·subst h;go_wp2
    go_quiet (fail)
    go_wp2
    go_quiet (fail)
    go_wp2
    refine⟨⟨j,by omega,rfl,?_,_,rfl⟩,by simp[intOf]⟩;obtain⟨jx,ex⟩:=List.getElem?_eq_some_iff.1 HX.out;obtain⟨jy,ey⟩:=List.getElem?_eq_some_iff.1 HY.out;rw[List.drop_eq_getElem_cons jx,List.drop_eq_getElem_cons jy,ex,ey,HD.out]
   ·go_wp2
    go_quiet (fail)
    go_wp2
    go_quiet (fail)
    go_wp2
    go_ret
    exact⟨by rw[jX (pE wy.1 HD.out.symm HY.out HX.out h)];rfl,(by repeat (first|exact Q.refl _|refine Q.drewN ?_ _))⟩
  ·obtain rfl:k=0:=(by omega);rw[show ((0:Nat):Int)-1=-1 from by omega];go_wp2
   go_ret
   have e:xs=ys:=(by simpa using HD.out);exact⟨by rw[e,cmp_eq];rfl,(by repeat (first|exact Q.refl _|refine Q.drewN ?_ _))⟩
theorem mG(x y:Value)(M N:Nat)(w:World)(hx:Nr w x M)(hy:Nr w y N)(hM:dg B30 M≤LIM)(hN:dg B30 N≤LIM):
  Calls Tryz.prog 114 #[x,y] w fun e w'=>e=.returned (.int .i64 (cmp M N))∧Q w w':=by
 obtain⟨A,c,xs,rfl,hc,rx,wx,rfl⟩:=hx;obtain⟨B,d,ys,rfl,hd,ry,wy,rfl⟩:=hy;rw[←wx.len aK,aB]at hM;rw[←wy.len aK,aB]at hN;rcases Nat.lt_trichotomy xs.length ys.length with hlt|heq|hgt
 ·have h:=Wf.len_lt (b:=B30) (by decide) wx.1 wy.2 hlt;rw[fD h];clear h;go_enter Tryz.func114,Tryz.ntmps114
  go_wp2
  go_ret
  exact⟨rfl,Q.refl _⟩
 ·obtain⟨n,hn⟩:∃n,xs.length=n:=⟨_,rfl⟩
  have hn2:ys.length=n:=(by omega);rw[hn,hn2];exact aIs A B n c d xs ys w hn hn2 (by omega) rx ry wx wy
 ·have h:=Wf.len_lt (b:=B30) (by decide) wy.1 wx.2 hgt;rw[jX h];clear h;go_enter Tryz.func114,Tryz.ntmps114
  go_wp2
  go_ret
  exact⟨rfl,Q.refl _⟩
theorem xQ:(Tryz.prog.info? 2).map (fun i=>(i.zero,i.size,i.bytes))=some (some (.int .i64 0),1,8):=by kernel_rfl
theorem wD(n:Nat)(e:Int)(he:e=(n:Int))(hn:n≤LIM)(w:World):
  (Instr.makeSlice 37 (.int .i64 e) (.int .i64 e)).run Tryz.prog w=.ok (.slice (some ⟨w.heap.size,0,none⟩) n n) (w.alloc (.cells (zs .i64 n) 2)):=by
 rw[aB]at hn;subst he;rw[←aAa];exact run_make_row' _ _ _ 8 Tryz.underlying37 xQ rfl _ _ n (by omega) (by omega) w
theorem aPb(n c:Nat)(a b:Int)(ha:a=(n:Int))(hb:b=(c:Int))(hnc:n≤c)(hc:c≤LIM)(w:World):
  (Instr.makeSlice 37 (.int .i64 a) (.int .i64 b)).run Tryz.prog w=.ok (.slice (some ⟨w.heap.size,0,none⟩) n c) (w.alloc (.cells (zs .i64 c) 2)):=by
 rw[aB]at hc;subst ha hb;obtain⟨i,hi,h1,h2,h3⟩:=info_parts xQ;have h:=run_make (P:=Tryz.prog) w 37 2 i (.int .i64 0) Tryz.underlying37 hi h1 .i64 .i64 (n:Int) (c:Int) (by omega) (by omega) (by rw[h3];omega) (by omega);rw[h2]at h;simp only[Int.toNat_natCast,Nat.mul_one]at h;rw[h,←aAa];rfl
theorem aKN(x y:Value)(M N:Nat)(w:World)(hx:Nr w x M)(hy:Nr w y N)(hM:dg B30 M+1≤LIM)(hN:dg B30 N+1≤LIM):
  Calls Tryz.prog 113 #[x,y] w (oK (M+N) w):=by
 have hlen:dg B30 N≤dg B30 M∨dg B30 M<dg B30 N:=by omega
 rcases hlen with hlen|hlen
 case' inl=>
  obtain⟨A,c,xs,rfl,hc,rx,wx,rfl⟩:=hx;obtain⟨B,d,ys,rfl,hd,ry,wy,rfl⟩:=hy;rw[←wx.len aK,←wy.len aK]at hlen;rw[←wx.len aK]at hM;rw[←wy.len aK]at hN
 case' inr=>
  obtain⟨B,d,ys,rfl,hd,ry,wy,rfl⟩:=hx;obtain⟨A,c,xs,rfl,hc,rx,wx,rfl⟩:=hy;rw[←wx.len aK,←wy.len aK]at hlen;rw[←wy.len aK]at hM;rw[←wx.len aK]at hN;rw[Nat.add_comm (vl B30 ys)]
 all_goals
  have hmk:=wD (xs.length+1) ((xs.length:Int)+1) rfl (by omega);rw[aB]at hM hN;go_enter Tryz.func113,Tryz.ntmps113
  go_wp2
  go_loopw [6,7] (fun cv iv w1=>∃(k cy:Nat) (out:List Nat),k≤xs.length∧iv=.int .i64 (k:Int)∧cv=.int .i64 (cy:Int)∧cy≤1∧
      out.length=xs.length+1∧(∀d∈out,d<B30)∧vl B30 (out.take k)+B30^k*cy=vl B30 (xs.take k)+vl B30 (ys.take k)∧
      Blk .i64 w1 w.heap.size 2 out∧Q w w1) (fun _ iv _=>xs.length-(intOf iv).toNat)
  case atStart=>exact⟨0,0,List.replicate (xs.length+1) 0,by omega,rfl,rfl,by omega,by simp,fC (by decide),by simp[vl],Blk.made _ _ _,(Q.refl _).alloc _⟩
  case round=>
   obtain⟨k,cy,out,hk,rfl,rfl,hcy,hl,ho,hv,hb,hq⟩:=hrel;have HV:=hZ hv;clear hv;have HL:=hZ hl;clear hl;by_cases hlt:k<xs.length
   ·obtain⟨ad,rfl,hbk,hcx⟩:=(rx.below hq).at_ hlt;have hcell:=hb.cell (i:=k) (by rw[HL.out];omega);have hfz:=hb.frozen k;have bx:xs[k]<1073741824:=wx.1 _ (List.getElem_mem _);have HX:=hZ (List.getElem?_eq_getElem hlt);generalize xs[k]=x at*
    by_cases hlt2:k<ys.length
    ·obtain⟨ae,rfl,hbk',hcy'⟩:=(ry.below hq).at_ hlt2;have by_:ys[k]<1073741824:=wy.1 _ (List.getElem_mem _);have HY:=hZ (List.getElem?_eq_getElem hlt2);generalize ys[k]=y at*
     go_wp2
     refine⟨⟨k+1,(cy+x+y)/B30,out.set k ((cy+x+y) % B30),by omega,by go_num,congrArg (Value.int _) (by rw[aW];omega),by rw[aW];omega,
      by rw[List.length_set,HL.out],eO ho (Nat.mod_lt _ (by decide)),?_,hb.put k _ (by rw[aW];omega),hq.setCell (Nat.le_refl _) _⟩,by simp[intOf];omega⟩
     rw[dQ _ (by rw[HL.out];omega),bZ _ HX.out,bZ _ HY.out];exact aBx HV.out rfl (Nat.mod_add_div _ _).symm
    ·go_wp2
     refine⟨⟨k+1,(cy+x)/B30,out.set k ((cy+x) % B30),by omega,by go_num,congrArg (Value.int _) (by rw[aW];omega),by rw[aW];omega,
      by rw[List.length_set,HL.out],eO ho (Nat.mod_lt _ (by decide)),?_,hb.put k _ (by rw[aW];omega),hq.setCell (Nat.le_refl _) _⟩,by simp[intOf];omega⟩
     rw[dQ _ (by rw[HL.out];omega),bZ _ HX.out,oI _ (by omega)];exact aBx HV.out (by omega) (Nat.mod_add_div _ _).symm
   ·obtain rfl:k=xs.length:=(by omega);have hcell:=hb.cell (i:=xs.length) (by rw[HL.out];omega);have hfz:=hb.frozen xs.length;go_wp2_with fail
    have hb2:=hb.put xs.length cy (e:=(cy:Int)) rfl;refine (oW _ _ (w.heap.size+1) _ _ _ (by rw[List.length_set,HL.out]) (Nat.le_refl _) (by omega) (hb2.rd (Nat.lt_succ_self _))).mono ?_;rintro e w2 ⟨k,hk2,rfl,hnz,hv,rfl⟩;go_wp2
    go_ret
    have ho2:=eO (k:=xs.length) ho (show cy<B30 by rw[aW];omega);refine⟨_,rfl,Nn.of_blk hb2 hk2 (by rw[List.length_set,HL.out]at hk2;exact hk2) hnz ho2 ?_,hq.setCell (Nat.le_refl _) _,Nw.at_ (Nat.le_refl _)⟩
    rw[hv,←List.take_of_length_le (l:=out.set xs.length cy) (i:=xs.length+1) (by rw[List.length_set,HL.out];omega),dQ _ (by rw[HL.out];omega),HV.out,
     List.take_length,List.take_of_length_le (by omega)]
theorem aAI(x y:Value)(M N:Nat)(w:World)(hx:Nr w x M)(hy:Nr w y N)(hle:N≤M)(hM:dg B30 M+1≤LIM):
  Calls Tryz.prog 115 #[x,y] w (oK (M-N) w):=by
 obtain⟨A,c,xs,rfl,hc,rx,wx,rfl⟩:=hx;obtain⟨B,d,ys,rfl,hd,ry,wy,rfl⟩:=hy;have hlen:=Wf.len_le (by decide) wx wy hle;rw[←wx.len aK]at hM;have hmk:=wD xs.length (xs.length:Int) rfl (by omega);rw[aB]at hM;go_enter Tryz.func115,Tryz.ntmps115
 go_wp2
 go_loopw [6,7,8] (fun lv iv _ w1=>∃(k l:Nat) (out:List Nat),k≤xs.length∧iv=.int .i64 (k:Int)∧lv=.int .i64 (l:Int)∧l≤1∧
     out.length=xs.length∧(∀d∈out,d<B30)∧vl B30 (xs.take k)+B30^k*l=vl B30 (out.take k)+vl B30 (ys.take k)∧
     Blk .i64 w1 w.heap.size 2 out∧Q w w1) (fun _ iv _ _=>xs.length-(intOf iv).toNat)
 case atStart=>exact⟨0,0,List.replicate xs.length 0,by omega,rfl,rfl,by omega,by simp,fC (by decide),by simp[vl],Blk.made _ _ _,(Q.refl _).alloc _⟩
 case round=>
  obtain⟨k,l,out,hk,rfl,rfl,hl1,hl,ho,hv,hb,hq⟩:=hrel;have HV:=hZ hv;clear hv;have HL:=hZ hl;clear hl;by_cases hlt:k<xs.length
  ·obtain⟨ad,rfl,hbk,hcx⟩:=(rx.below hq).at_ hlt;have hcell:=hb.cell (i:=k) (by rw[HL.out];omega);have hfz:=hb.frozen k;have bx:xs[k]<1073741824:=wx.1 _ (List.getElem_mem _);have HX:=hZ (List.getElem?_eq_getElem hlt);generalize xs[k]=x at*
   by_cases hlt2:k<ys.length
   ·obtain⟨ae,rfl,hbk',hcy'⟩:=(ry.below hq).at_ hlt2;have by_:ys[k]<1073741824:=wy.1 _ (List.getElem_mem _);have HY:=hZ (List.getElem?_eq_getElem hlt2);generalize ys[k]=y at*
    by_cases hn:x<l+y
    ·go_wp2
     refine⟨⟨k+1,1,out.set k (x+B30-l-y),by omega,by go_num,rfl,by omega,
      by rw[List.length_set,HL.out],eO ho (by rw[aW];omega),?_,hb.put k _ (by rw[aW];omega),hq.setCell (Nat.le_refl _) _⟩,by simp[intOf];omega⟩
     rw[dQ _ (by rw[HL.out];omega),bZ _ HX.out,bZ _ HY.out];exact oJ HV.out (by rw[aW];omega)
    ·go_wp2
     refine⟨⟨k+1,0,out.set k (x-l-y),by omega,by go_num,rfl,by omega,
      by rw[List.length_set,HL.out],eO ho (by rw[aW];omega),?_,hb.put k _ (by omega),hq.setCell (Nat.le_refl _) _⟩,by simp[intOf];omega⟩
     rw[dQ _ (by rw[HL.out];omega),bZ _ HX.out,bZ _ HY.out];exact oJ HV.out (by omega)
   ·by_cases hn:x<l
    ·go_wp2
     refine⟨⟨k+1,1,out.set k (x+B30-l),by omega,by go_num,rfl,by omega,
      by rw[List.length_set,HL.out],eO ho (by rw[aW];omega),?_,hb.put k _ (by rw[aW];omega),hq.setCell (Nat.le_refl _) _⟩,by simp[intOf];omega⟩
     rw[dQ _ (by rw[HL.out];omega),bZ _ HX.out,oI _ (by omega)];exact oJ HV.out (by rw[aW];omega)
    ·go_wp2
     refine⟨⟨k+1,0,out.set k (x-l),by omega,by go_num,rfl,by omega,
      by rw[List.length_set,HL.out],eO ho (by rw[aW];omega),?_,hb.put k _ (by omega),hq.setCell (Nat.le_refl _) _⟩,by simp[intOf];omega⟩
     rw[dQ _ (by rw[HL.out];omega),bZ _ HX.out,oI _ (by omega)];exact oJ HV.out (by omega)
  ·obtain rfl:k=xs.length:=(by omega);go_wp2_with fail
   refine (oW _ _ (w.heap.size+1) _ _ _ HL.out (Nat.le_refl _) (by omega) (hb.rd (Nat.lt_succ_self _))).mono ?_;rintro e w2 ⟨k,hk2,rfl,hnz,hv,rfl⟩;go_wp2
   go_ret
   refine⟨_,rfl,Nn.of_blk hb hk2 (by rw[HL.out]at hk2;exact hk2) hnz ho ?_,hq,Nw.at_ (Nat.le_refl _)⟩;rw[hv];refine aBy ho HL.out hle (l:=l) ?_;have h:=HV.out;rw[List.take_length,List.take_of_length_le hlen,List.take_of_length_le (by rw[HL.out];omega)]at h;exact h
theorem aCT(x y:Value)(M N:Nat)(w:World)(hx:Nr w x M)(hy:Nr w y N)(hM:dg B30 M+dg B30 N+2≤LIM):
  Calls Tryz.prog 112 #[x,y] w (oK (M*N) w):=by
 obtain⟨A,c,xs,rfl,hc,rx,wx,rfl⟩:=hx;obtain⟨B,d,ys,rfl,hd,ry,wy,rfl⟩:=hy;rw[←wx.len aK,←wy.len aK]at hM;have hmk:=wD (xs.length+ys.length) ((xs.length:Int)+ys.length) rfl (by omega);rw[aB]at hM;go_enter Tryz.func112,Tryz.ntmps112
 go_wp2
 go_loopw [6,7,8] (fun iv _ _ w1=>∃(i:Nat) (out:List Nat),i≤xs.length∧iv=.int .i64 (i:Int)∧
     out.length=xs.length+ys.length∧(∀d∈out,d<B30)∧vl B30 (out.take (i+ys.length))=vl B30 (xs.take i)*vl B30 ys∧
     out.drop (i+ys.length)=List.replicate (xs.length-i) 0∧
     Blk .i64 w1 w.heap.size 2 out∧Q w w1) (fun iv _ _ _=>xs.length-(intOf iv).toNat)
 case atStart=>exact⟨0,List.replicate (xs.length+ys.length) 0,by omega,rfl,by simp,fC (by decide),by rw[List.take_replicate,jW];simp[vl],by simp,Blk.made _ _ _,(Q.refl _).alloc _⟩
 case round=>
  obtain⟨i,out0,hi,rfl,hl,ho,hv,hdr,hb,hq⟩:=hrel;have HV:=hZ hv;clear hv;have HL0:=hZ hl;clear hl;have HD:=hZ hdr;clear hdr;by_cases hlt:i<xs.length
  ·obtain⟨ad,rfl,hbk,hcx0⟩:=rx.at_ hlt;have bx:xs[i]<1073741824:=wx.1 _ (List.getElem_mem _);have HX:=hZ (List.getElem?_eq_getElem hlt);generalize xs[i]=x at*
   go_wp2
   obtain⟨wo,rfl⟩:∃wo:World,wo=wr:=⟨_,rfl⟩
   go_loopw [7,8] (fun cv kv w1=>∃(k cy:Nat) (out:List Nat),k≤ys.length∧kv=.int .i64 (k:Int)∧cv=.int .i64 (cy:Int)∧cy<1073741824∧
    out.length=xs.length+ys.length∧(∀d∈out,d<B30)∧vl B30 (out.take (i+k))+B30^(i+k)*cy=vl B30 (out0.take (i+k))+B30^i*(x*vl B30 (ys.take k))∧
    out.drop (i+k)=out0.drop (i+k)∧
    Blk .i64 w1 w.heap.size 2 out∧Q w w1) (fun _ kv _=>ys.length-(intOf kv).toNat)
   case atStart=>exact⟨0,0,out0,by omega,rfl,rfl,by omega,HL0.out,ho,by simp[vl],rfl,hb,hq⟩
   case round=>
    clear hb hq ho;obtain⟨k,cy,out,hk,rfl,rfl,hcy,hl,ho,hv,hdr,hb,hq⟩:=hrel;have HV2:=hZ hv;clear hv;have HL:=hZ hl;clear hl;have HD2:=hZ hdr;clear hdr;by_cases hlt2:k<ys.length
    ·obtain⟨ae,rfl,hbk',hcy'⟩:=(ry.below hq).at_ hlt2;have hcx:=(hq.cell (p:=ad.add i) (by rw[iB];exact hbk)).trans hcx0;have by_:ys[k]<1073741824:=wy.1 _ (List.getElem_mem _);have HY:=hZ (List.getElem?_eq_getElem hlt2);generalize ys[k]=y at*
     have hik:i+k<out.length:=(by rw[HL.out];omega);have hcell:=hb.cell hik;have hfz:=hb.frozen (i+k);have bo:out[i+k]<1073741824:=ho _ (List.getElem_mem _);have HO:=hZ (List.getElem?_eq_getElem hik);generalize out[i+k]=o at*
     clear hik;have hp:(x:Int)*y≤1152921502459363329:=by
      have:=Nat.mul_le_mul (show x≤1073741823 by omega) (show y≤1073741823 by omega);have e:((x*y:Nat):Int)=(x:Int)*y:=Int.natCast_mul _ _;omega
     have hp0:0≤(x:Int)*y:=Int.mul_nonneg (by omega) (by omega);have HP:=hZ (show ((x*y:Nat):Int)=(x:Int)*y from Int.natCast_mul _ _);clear hcx0;go_wp2
     go_quiet (fail)
     go_wp2
     have hP:=HP.out
     refine⟨⟨k+1,(cy+x*y+o)/B30,out.set (i+k) ((cy+x*y+o) % B30),by omega,by go_num,congrArg (Value.int _) (by rw[aW];omega),by rw[aW];omega,
      by rw[List.length_set,HL.out],eO ho (Nat.mod_lt _ (by decide)),?_,?_,hb.put (i+k) _ (by rw[aW];omega),(hq.drewN _).setCell (Nat.le_refl _) _⟩,by simp[intOf];omega⟩
     ·have ho0:out0[i+k]? =some o:=(by rw[←aFN HD2.out];exact HO.out);rw[←Nat.add_assoc,dQ _ (by rw[HL.out];omega),bZ _ HY.out,bZ _ ho0,Nat.add_assoc i k 1];exact aLf HV2.out rfl (Nat.mod_add_div _ _).symm
     ·rw[←Nat.add_assoc,drop_set (by omega)];exact aDY HD2.out
    ·obtain rfl:k=ys.length:=(by omega);have hik:i+ys.length<out.length:=(by rw[HL.out];omega);have hcell:=hb.cell hik;have hfz:=hb.frozen (i+ys.length);generalize out[i+ys.length]=o at*
     clear hik hcx0;go_wp2
     refine⟨⟨i+1,out.set (i+ys.length) cy,by omega,by go_num,by rw[List.length_set,HL.out],eO ho (by rw[aW];omega),?_,?_,hb.put _ _ rfl,hq.setCell (Nat.le_refl _) _⟩,by simp[intOf];omega⟩
     ·rw[show i+1+ys.length=i+ys.length+1 from by omega,dQ _ (by rw[HL.out];omega),HV2.out,HV.out,bZ _ HX.out,List.take_length,Nat.add_mul,Nat.mul_assoc]
     ·rw[show i+1+ys.length=i+ys.length+1 from by omega,drop_set (by omega),←List.drop_drop,HD2.out,HD.out,List.drop_replicate];rfl
  ·obtain rfl:i=xs.length:=(by omega);go_wp2_with fail
   refine (oW _ _ (w.heap.size+1) _ _ _ HL0.out (Nat.le_refl _) (by omega) (hb.rd (Nat.lt_succ_self _))).mono ?_;rintro e w2 ⟨k,hk2,rfl,hnz,hv,rfl⟩;go_wp2
   go_ret
   refine⟨_,rfl,Nn.of_blk hb hk2 (by rw[HL0.out]at hk2;exact hk2) hnz ho ?_,hq,Nw.at_ (Nat.le_refl _)⟩;rw[hv];have h:=HV.out;rw[List.take_length,List.take_of_length_le (by rw[HL0.out];omega)]at h;exact h
theorem aS3(w:World):Calls Tryz.prog 106 #[] w (oK 1 w):=by
 go_enter Tryz.func106,Tryz.ntmps106
 go_wp2
 go_ret
 exact⟨_,rfl,Nn.of_blk (ds:=[1]) (k:=1) (heap_alloc_new w _) (by simp) (by omega) (by simp[Nz]) (by simp[B30]) (by simp[vl]),(Q.refl _).alloc _,Nw.at_ (Nat.le_refl _)⟩
theorem aAJ(x:Int)(N:Nat)(w:World)(hx:x=(N:Int))(h:N<1152921504606846976):Calls Tryz.prog 170 #[.int .i64 x] w (oK N w):=by
 subst hx;go_enter Tryz.func170,Tryz.ntmps170
 go_wp2_with fail
 have hb:Blk .i64 (w.alloc (Obj.cells #[Value.int IntKind.i64 ((N:Int) % 1073741824),Value.int IntKind.i64 ((N:Int)/1073741824)] 2)) w.heap.size 2 [N % B30,N/B30]:=
  (heap_alloc_new w _).trans (by rw[aW];simp[nums])
 refine (oW _ _ (w.heap.size+1) _ _ _ (by rfl) (Nat.le_refl _) (by omega) (hb.rd (Nat.lt_succ_self _))).mono ?_;rintro e w2 ⟨k,hk2,rfl,hnz,hv,rfl⟩;go_wp2
 go_ret
 refine⟨_,rfl,Nn.of_blk hb hk2 hk2 hnz ?_ ?_,(Q.refl _).alloc _,Nw.at_ (Nat.le_refl _)⟩
 ·intro d hd;rw[aW]at*;simp at hd;omega
 ·rw[hv];simp only[fB,aIM];rw[aW];omega
theorem aCl(x:Value)(N k:Nat)(z:Int)(w:World)(hx:Nr w x N)(hz:z=(k:Int))(hN:dg B30 N+k+2≤LIM):Calls Tryz.prog 173 #[x,.int .i64 z] w (oK (N*2^k) w):=by
 subst hz;obtain⟨A,c,xs,rfl,hc,rx,wx,rfl⟩:=hx;rw[←wx.len aK]at hN;have hmk:=aPb (k/30) (xs.length+k/30+1) ((k:Int)/30) ((xs.length:Int)+(k:Int)/30+1) (by omega) (by omega) (by omega) (by omega);rw[aB]at hN;obtain⟨i0,hi,hz0,hz1,hz2⟩:=info_parts xQ;have hf:=aEn (k % 30) (by omega);have hf1:2^(k % 30)≤536870912:=by
  have h1:2^(k % 30)≤2^29:=Nat.pow_le_pow_right (by decide) (by omega);exact h1
 have hf0:0<2^(k % 30):=Nat.pow_pos (by decide);have HF:=hZ (rfl:2^(k % 30)=2^(k % 30));have HE:=hZ hf;clear hf;go_enter Tryz.func173,Tryz.ntmps173
 go_wp2_with fail
 rw[HE.out];clear HE;have hq30:2^k=B30^(k/30)*2^(k % 30):=by
  rw[show B30=2^30 from rfl,←Nat.pow_mul,←Nat.pow_add,Nat.div_add_mod]
 have HQ:=hZ hq30;clear hq30;generalize 2^(k % 30)=f at*
 clear HF;obtain⟨q,hq⟩:∃q,q=k/30:=⟨_,rfl⟩
 rw[←hq]at HQ⊢;have HK:=hZ hq;have hqk:q≤k:=by omega
 clear hmk hq
 go_loopw [5,7,8] (fun ov cv iv w1=>∃(i cy:Nat) (out:List Nat),i≤xs.length∧iv=.int .i64 (i:Int)∧cv=.int .i64 (cy:Int)∧cy<f∧
     ov=.slice (some ⟨w.heap.size,0,none⟩) (q+i) (xs.length+q+1)∧
     out.length=xs.length+q+1∧(∀d∈out,d<B30)∧vl B30 (out.take (q+i))+B30^(q+i)*cy=B30^q*(vl B30 (xs.take i)*f)∧
     Blk .i64 w1 w.heap.size 2 out∧Q w w1) (fun _ _ iv _=>xs.length-(intOf iv).toNat)
 case atStart=>exact⟨0,0,List.replicate (xs.length+q+1) 0,by omega,rfl,rfl,hf0,rfl,by simp,fC (by decide),by rw[List.take_replicate,jW];simp[vl],Blk.made _ _ _,(Q.refl _).alloc _⟩
 case round=>
  obtain⟨i,cy,out,hi1,rfl,rfl,hcy,rfl,hl,ho,hv,hb,hq⟩:=hrel;have HV:=hZ hv;clear hv;have HL:=hZ hl;clear hl;by_cases hlt:i<xs.length
  ·obtain⟨ad,rfl,hbk,hcx⟩:=(rx.below hq).at_ hlt;have bx:xs[i]<1073741824:=wx.1 _ (List.getElem_mem _);have HX:=hZ (List.getElem?_eq_getElem hlt);generalize xs[i]=x at*
   have hp:(x:Int)*f≤1073741823*f:=by
    have:=Nat.mul_le_mul_right f (show x≤1073741823 by omega);have e:((x*f:Nat):Int)=(x:Int)*f:=Int.natCast_mul _ _;omega
   have hp0:0≤(x:Int)*f:=Int.mul_nonneg (by omega) (by omega);have HP:=hZ (show ((x*f:Nat):Int)=(x:Int)*f from Int.natCast_mul _ _);go_wp2_with (at_builtin;go_must (refine aA2 rfl _ _ _ rfl 2 i0 Tryz.underlying37 hi hz1 w.heap.size (q+i) (xs.length+q+1) out rfl _ _ rfl (hb.alloc _) HL.out (by omega) _ ((cy+x*f) % B30) (by have:=HP.out;rw[aW];omega) (fA _ _ _) ?_);intro w2 hb2 hg2)
   have hP:=HP.out;have hd:(cy+x*f)/B30<f:=by
    rw[Nat.div_lt_iff_lt_mul (by decide),aW];omega
   refine⟨⟨i+1,(cy+x*f)/B30,out.set (q+i) ((cy+x*f) % B30),by omega,by go_num,congrArg (Value.int _) (by rw[aW];omega),hd,rfl,
    by rw[List.length_set,HL.out],eO ho (Nat.mod_lt _ (by decide)),?_,hb2,Q.grown (hq.alloc _) hg2 (by intro k e;injection e with e;omega)⟩,by simp[intOf];omega⟩
   rw[←Nat.add_assoc,dQ _ (by rw[HL.out];omega),bZ _ HX.out,Nat.add_assoc q i 1];exact aHt HV.out rfl (Nat.mod_add_div _ _).symm
  ·obtain rfl:i=xs.length:=(by omega);go_wp2_with (at_builtin;go_must (refine aA2 rfl _ _ _ rfl 2 i0 Tryz.underlying37 hi hz1 w.heap.size (q+xs.length) (xs.length+q+1) out rfl _ _ rfl (hb.alloc _) HL.out (by omega) _ cy rfl (fA _ _ _) ?_);intro w2 hb2 hg2)
   have ho2:=eO (k:=q+xs.length) ho (show cy<B30 by rw[aW];omega);refine (oW _ _ (w.heap.size+1) _ (out.set (q+xs.length) cy) _ (by rw[List.length_set,HL.out];omega) (by omega) (by omega) (hb2.rd (Nat.lt_succ_self _))).mono ?_;rintro e w3 ⟨k2,hk2,rfl,hnz,hv,rfl⟩;go_wp2
   go_ret
   refine⟨_,rfl,Nn.of_blk hb2 hk2 (by rw[List.length_set,HL.out]at hk2;exact hk2) hnz ho2 ?_,Q.grown (hq.alloc _) hg2 (by intro k e;injection e with e;omega),Nw.at_ (Nat.le_refl _)⟩
   rw[hv,←List.take_of_length_le (l:=out.set (q+xs.length) cy) (i:=q+xs.length+1) (by rw[List.length_set,HL.out];omega),dQ _ (by rw[HL.out];omega),HV.out,
      List.take_length,HQ.out]
   grind
theorem aS4(x:Value)(N:Nat)(w:World)(hx:Nr w x N):Calls Tryz.prog 107 #[x] w fun e w'=>e=.returned (.bool (decide (N=1)))∧w=w':=by
 obtain⟨A,c,xs,rfl,hc,rx,wx,rfl⟩:=hx;by_cases h1:xs.length=1
 ·obtain⟨d,rfl⟩:∃d,xs=[d]:=List.length_eq_one_iff.1 h1;obtain⟨ad,rfl,hb,hcell⟩:=rx.head (by simp);simp only[List.getElem_cons_zero]at hcell;have e:decide (vl B30 [d]=1)=((d:Int) == 1):=by
   have e0:vl B30 [d]=d:=(by simp[vl]);rw[e0,Bool.eq_iff_iff,decide_eq_true_iff,beq_iff_eq];omega
  rw[e];have HE:=hZ e;clear e h1;go_enter Tryz.func107,Tryz.ntmps107
  go_wp2
  go_ret
  exact⟨rfl,rfl⟩
 ·have e:decide (vl B30 xs=1)=false:=by
   simp only[decide_eq_false_iff_not];intro e;apply h1;rw[wx.len aK,e,gP aK]
  rw[e];have h2:((xs.length:Int) == 1)=false:=(by simp;omega);go_enter Tryz.func107,Tryz.ntmps107
  go_wp2
  go_ret
  exact⟨rfl,rfl⟩
theorem aPc(x:Int)(N:Nat)(w:World)(hx:x=(N:Int))(h:N≤9223372036854775807):Calls Tryz.prog 117 #[.int .i64 x] w (oK N w):=by
 subst hx;go_enter Tryz.func117,Tryz.ntmps117
 go_wp2_with fail
 have hb:Blk .i64 (w.alloc (Obj.cells #[Value.int IntKind.i64 ((N:Int) % 1073741824),Value.int IntKind.i64 ((N:Int)/1073741824 % 1073741824),Value.int IntKind.i64 ((N:Int)/1073741824/1073741824)] 2)) w.heap.size 2 [N % B30,N/B30 % B30,N/B30/B30]:=
  (heap_alloc_new w _).trans (by rw[aW];simp[nums])
 refine (oW _ _ (w.heap.size+1) _ _ _ (by rfl) (Nat.le_refl _) (by omega) (hb.rd (Nat.lt_succ_self _))).mono ?_;rintro e w2 ⟨k,hk2,rfl,hnz,hv,rfl⟩;go_wp2
 go_ret
 refine⟨_,rfl,Nn.of_blk hb hk2 hk2 hnz ?_ ?_,(Q.refl _).alloc _,Nw.at_ (Nat.le_refl _)⟩
 ·intro d hd;rw[aW]at*;simp at hd;omega
 ·rw[hv];simp only[fB,aIM];rw[aW];omega
theorem aG3(x:Value)(N:Nat)(w:World)(hx:Nr w x N)(h:dg B30 N≤2):Calls Tryz.prog 174 #[x] w fun e w'=>e=.returned (.int .i64 (N:Int))∧w=w':=by
 obtain⟨A,c,xs,rfl,hc,rx,wx,rfl⟩:=hx;rw[←wx.len aK]at h;go_enter Tryz.func174,Tryz.ntmps174
 go_wp2
 go_loop [3,4] (fun nv iv=>∃(k:Nat) (V:Nat),k≤xs.length∧iv=.int .i64 ((k:Int)-1)∧nv=.int .i64 (V:Int)∧V=vl B30 (xs.drop k)) (fun _ iv=>(intOf iv+1).toNat)
 case atStart=>exact⟨xs.length,0,by omega,rfl,rfl,by simp[vl]⟩
 case round=>
  obtain⟨k,V,hk,rfl,rfl,X⟩:=hrel;have HV:=hZ X;clear X;by_cases hlt:0<k
  ·obtain⟨j,rfl⟩:∃j,k=j+1:=⟨k-1,by omega⟩
   have jx:j<xs.length:=(by omega);obtain⟨ad,rfl,hb,hcx⟩:=rx.at_ jx;have ba:xs[j]<1073741824:=wx.1 _ (List.getElem_mem _);have HX:=hZ (dU B30 jx);rw[show ((j+1:Nat):Int)-1=(j:Int) from by omega];have hV2:V<1073741824:=by
    rw[HV.out];refine Nat.lt_of_lt_of_le (aHw (b:=B30) (j+1) wx.1) ?_;have:=Nat.pow_le_pow_right (n:=B30) (by decide) (show xs.length-(j+1)≤1 by omega);rw[Nat.pow_one]at this;exact this
   generalize xs[j]=x at*
   clear jx;go_wp2
   exact⟨⟨j,V*B30+x,by omega,rfl,congrArg (Value.int _) (by rw[aW];omega),by rw[HX.out,←HV.out];grind⟩,by simp[intOf]⟩
  ·obtain rfl:k=0:=(by omega);rw[show ((0:Nat):Int)-1=-1 from by omega];go_wp2
   go_ret
   exact⟨by rw[HV.out];rfl,rfl⟩
theorem aMF(x:Value)(N:Nat)(w:World)(hx:Nr w x N)(h:dg B30 N≤LIM):Calls Tryz.prog 215 #[x] w fun e w'=>e=.returned (.int .i64 (bl N:Int))∧w=w':=by
 obtain⟨A,c,xs,rfl,hc,rx,wx,rfl⟩:=hx;rw[←wx.len aK,aB]at h;by_cases h0:xs.length=0
 ·obtain rfl:xs=[]:=List.eq_nil_of_length_eq_zero h0;have h2:((0:Int) == 0)=true:=rfl;rw[show bl (vl B30 [])=0 from aAb];simp only[List.length_nil];clear h0;go_enter Tryz.func215,Tryz.ntmps215
  go_wp2
  go_ret
  exact⟨rfl,rfl⟩
 ·obtain⟨n,hn⟩:∃n,xs.length=n+1:=⟨xs.length-1,by omega⟩
  obtain⟨ad,rfl,hb,hcx⟩:=rx.at_ (k:=n) (by omega);have ba:xs[n]<1073741824:=wx.1 _ (List.getElem_mem _);have bz:0<xs[n]:=by
   have h1:=wx.2;rw[Nz,List.getLast?_eq_getElem?,hn,Nat.add_sub_cancel,List.getElem?_eq_getElem (by omega)]at h1;simp at h1;omega
  have hB:=aC1 (p:=30) (n:=n) wx.1 hn (List.getElem?_eq_getElem (by omega)) bz;change bl (vl B30 xs)=_ at hB;rw[hn,hB];clear hB hc wx;generalize xs[n]=t0 at*
  have h2:((n:Int)+1 == 0)=false:=(by simp;omega);have hbl:bl t0≤30:=(cO _ _).2 ba;go_enter Tryz.func215,Tryz.ntmps215
  go_wp2
  go_loop [3,4] (fun nv tv=>∃(m t:Nat),nv=.int .i64 (m:Int)∧tv=.int .i64 (t:Int)∧m+bl t=30*n+bl t0∧t<1073741824) (fun _ tv=>(intOf tv).toNat)
  case atStart=>exact⟨30*n,t0,congrArg (Value.int _) (by omega),rfl,rfl,ba⟩
  case round=>
   obtain⟨m,t,rfl,rfl,hm,ht⟩:=hrel;by_cases hp:0<t
   ·have hm2:m+1+bl (t/2)=30*n+bl t0:=(by rw[pG hp]at hm;omega);have hm1:m≤30*n+30:=(by omega);have HM:=hZ hm2;clear hm hm2;go_wp2
    exact⟨⟨m+1,t/2,by go_num,congrArg (Value.int _) (by omega),HM.out,by omega⟩,by simp[intOf];omega⟩
   ·obtain rfl:t=0:=(by omega);rw[aAb]at hm;have HM:=hZ hm;clear hm;go_wp2
    go_ret
    exact⟨aAk (by have:=HM.out;omega),rfl⟩
theorem aAK(x:Value)(N:Nat)(w:World)(hx:Nr w x N)(h:dg B30 N≤LIM)(h0:0<N):Calls Tryz.prog 171 #[x] w fun e w'=>e=.returned (.int .i64 (tz N:Int))∧w=w':=by
 obtain⟨A,c,xs,rfl,hc,rx,wx,rfl⟩:=hx;rw[←wx.len aK,aB]at h;go_enter Tryz.func171,Tryz.ntmps171
 go_wp2
 go_loop [3] (fun nv=>∃(q:Nat),nv=.int .i64 (30*(q:Int))∧q<xs.length∧∀j,j<q→xs[j]? =some 0) (fun nv=>xs.length*30-(intOf nv).toNat)
 case atStart=>
  refine⟨0,rfl,?_,by omega⟩;rcases xs with _|_
  ·simp[vl]at h0
  ·simp
 case round=>
  obtain⟨q,rfl,hq,hz⟩:=hrel;obtain⟨ad,rfl,hb,hcx⟩:=rx.at_ hq;have ba:xs[q]<1073741824:=wx.1 _ (List.getElem_mem _);by_cases hx0:xs[q]=0
  ·have hnext:q+1<xs.length:=by
    rcases Nat.lt_or_ge (q+1) xs.length with h1|h1
    ·exact h1
    ·exfalso;have h2:=wx.2;rw[Nz,List.getLast?_eq_getElem?,show xs.length-1=q by omega,List.getElem?_eq_getElem hq,hx0]at h2;exact h2 rfl
   have hz2:∀j,j<q+1→xs[j]? =some 0:=by
    intro j hj;rcases Nat.lt_or_ge j q with h1|h1
    ·exact hz j h1
    ·obtain rfl:j=q:=(by omega);rw[List.getElem?_eq_getElem hq,hx0]
   have HZ2:=hZ hz2;clear hz2 hz;have h3:((xs[q]:Int) == 0)=true:=(by simp[hx0]);clear hx0;generalize xs[q]=t at*
   go_wp2
   exact⟨⟨q+1,congrArg (Value.int _) (by omega),hnext,HZ2.out⟩,by simp[intOf];omega⟩
  ·have hB:=aC2 (p:=30) (q:=q) hz (List.getElem?_eq_getElem hq) (by omega) ba;change tz (vl B30 xs)=_ at hB;have HB:=hZ hB;have h3:((xs[q]:Int) == 0)=false:=(by simp;omega);clear hB hz wx h0 hc;have hpos:0<xs[q]:=(by omega);clear hx0;have htz:tz xs[q]≤30:=by
    rcases Nat.lt_or_ge 30 (tz xs[q]) with h1|h1
    ·exfalso;have h2:=(iJ hpos).1;have h4:0<xs[q] / 2^tz xs[q]:=by
      rcases Nat.eq_zero_or_pos (xs[q] / 2^tz xs[q]) with h5|h5
      ·rw[h5]at h2;omega
      ·exact h5
     have h5:=Nat.mul_le_mul_left (2^tz xs[q]) h4;have h6:2^30≤2^tz xs[q]:=Nat.pow_le_pow_right (by decide) (by omega);have h7:(2:Nat)^30=1073741824:=rfl;omega
    ·exact h1
   generalize xs[q]=t0 at*
   go_wp2
   go_loop [3,4] (fun nv tv=>∃(m t:Nat),nv=.int .i64 (m:Int)∧tv=.int .i64 (t:Int)∧m+tz t=30*q+tz t0∧t<1073741824∧0<t) (fun _ tv=>(intOf tv).toNat)
   case atStart=>exact⟨30*q,t0,congrArg (Value.int _) (by omega),rfl,rfl,ba,hpos⟩
   case round=>
    obtain⟨m,t,rfl,rfl,hm,ht,ht0⟩:=hrel;by_cases hp:t % 2=0
    ·have hm2:m+1+tz (t/2)=30*q+tz t0:=(by rw[qR ht0 hp]at hm;omega);have hm1:m≤30*q+30:=(by omega);have HM:=hZ hm2;clear hm hm2;have h4:((t:Int) % 2 == 0)=true:=(by simp;omega);have ht2:2≤t:=(by omega);clear hp;go_wp2
     exact⟨⟨m+1,t/2,by go_num,congrArg (Value.int _) (by omega),HM.out,by omega,by omega⟩,by simp[intOf];omega⟩
    ·rw[yC (by omega)]at hm;have HM:=hZ hm;clear hm;have h4:((t:Int) % 2 == 0)=false:=(by simp;omega);clear hp;go_wp2
     go_ret
     exact⟨aAk (by have:=HM.out;have:=HB.out;omega),rfl⟩
theorem wE(x:Value)(N k:Nat)(z:Int)(w:World)(hx:Nr w x N)(hz:z=(k:Int))(h:dg B30 N≤LIM)(hk:k≤4611686018427387904):Calls Tryz.prog 172 #[x,.int .i64 z] w (oK (N/2^k) w):=by
 subst hz;obtain⟨A,c,xs,rfl,hc,rx,wx,rfl⟩:=hx;rw[←wx.len aK]at h;have hq30:2^k=B30^(k/30)*2^(k % 30):=by
  rw[show B30=2^30 from rfl,←Nat.pow_mul,←Nat.pow_add,Nat.div_add_mod]
 rw[hq30,←Nat.div_div_eq_div_mul];clear hq30;by_cases hlt:xs.length≤k/30
 ·have e:vl B30 xs/B30^(k/30)/2^(k % 30)=0:=by
   rw[show vl B30 xs/B30^(k/30)=0 from Nat.div_eq_of_lt ?_,Nat.zero_div];exact Nat.lt_of_lt_of_le (eG wx.1) (Nat.pow_le_pow_right (by decide) hlt)
  rw[e];clear e;rw[aB]at h;go_enter Tryz.func172,Tryz.ntmps172
  go_wp2
  go_ret
  exact⟨_,rfl,Nn.zero _ _,Q.refl _,Nw.nil⟩
 ·rw[←iR (by decide) (by omega) wx.1];obtain⟨ad,rfl,hbk,_⟩:=rx.at_ (k:=0) (by omega);have rz:=rx.drop (k:=k/30) hc;rw[if_neg (by omega)]at rz;simp only[Option.map_some]at rz;have mz:∀d∈xs.drop (k/30),d<B30:=gM wx.1;have hlz:(xs.drop (k/30)).length=xs.length-k/30:=(by rw[List.length_drop]);have hmk:=wD (xs.length-k/30) ((xs.length-k/30:Nat):Int) rfl (by omega);rw[aB]at h;have HZ:=hZ hlz;clear hlz;have HE:=hZ (aEn (k % 30) (by omega));have hf1:2^(k % 30)≤536870912:=by
   have h1:2^(k % 30)≤2^29:=Nat.pow_le_pow_right (by decide) (by omega);exact h1
  have hf0:0<2^(k % 30):=Nat.pow_pos (by decide);have HG:=hZ (show B30=2^(k % 30)*2^(30-k % 30) by rw[←Nat.pow_add,show k % 30+(30-k % 30)=30 by omega];rfl);have hg1:2^(30-k % 30)≤1073741824:=by
   have h1:2^(30-k % 30)≤2^30:=Nat.pow_le_pow_right (by decide) (by omega);exact h1
  go_enter Tryz.func172,Tryz.ntmps172
  go_wp2_with fail
  rw[HE.out];clear HE hmk;have hfg:(1073741824:Int)/((2^(k % 30):Nat):Int)=((2^(30-k % 30):Nat):Int):=by
   have:=HG.out;rw[aW]at this;rw[show (1073741824:Int)=((1073741824:Nat):Int) from rfl,this,←Int.natCast_ediv,Nat.mul_div_cancel_left _ hf0]
  have HFG:=hZ hfg;clear hfg;generalize 2^(k % 30)=f at*
  generalize 2^(30-k % 30)=g at*
  generalize ad.add (k/30)=az at*
  generalize xs.drop (k/30)=zl at*
  have hn:zl.length≤1099511627776:=(by rw[HZ.out];omega);have hn0:0<xs.length-k/30:=(by omega);have hn1:xs.length-k/30≤1099511627776:=(by omega);clear rx;generalize xs.length-k/30=n at*
  go_loopw [7] (fun iv w1=>∃(i:Nat) (out:List Nat),i≤n∧iv=.int .i64 (i:Int)∧
   out.length=n∧(∀d∈out,d<B30)∧f*vl B30 (out.take i)+zl.getD 0 0 % f=vl B30 (zl.take i)+B30^i*(zl.getD i 0 % f)∧
   Blk .i64 w1 w.heap.size 2 out∧Q w w1) (fun iv _=>n-(intOf iv).toNat)
  case atStart=>exact⟨0,List.replicate n 0,by omega,rfl,by simp,fC (by decide),by simp[vl],Blk.made _ _ _,(Q.refl _).alloc _⟩
  case round=>
   obtain⟨i,out,hi1,rfl,hl,ho,hv,hb,hq⟩:=hrel;have HV:=hZ hv;clear hv;have HL:=hZ hl;clear hl;by_cases hlt1:i<n
   ·have hiz:i<zl.length:=(by rw[HZ.out];exact hlt1);obtain⟨_,he,hbz,hcx⟩:=(rz.below hq).at_ hiz;cases he;have bx:zl[i]<1073741824:=mz _ (List.getElem_mem _);have hio:i<out.length:=(by rw[HL.out];exact hlt1);have hcell:=hb.cell hio;generalize out[i]=o at*
    clear hio;have hfz:=hb.frozen i;have hgd:zl.getD i 0=zl[i]:=(by rw[List.getD_eq_getElem?_getD,List.getElem?_eq_getElem hiz];rfl);have HD:=hZ hgd;clear hgd;generalize zl[i]=x at*
    clear hiz;have hxf:(x:Int)/f≤1073741823:=by
     have:=Nat.div_le_self x f;have e:((x/f:Nat):Int)=(x:Int)/f:=Int.natCast_ediv _ _;omega
    have hxf0:0≤(x:Int)/f:=Int.ediv_nonneg (by omega) (by omega);have HXF:=hZ (show ((x/f:Nat):Int)=(x:Int)/f from Int.natCast_ediv _ _);by_cases hlt2:i+1<n
    ·have hiz:i+1<zl.length:=(by rw[HZ.out];exact hlt2);obtain⟨_,he,hbz',hcx2⟩:=(rz.below hq).at_ hiz;cases he;have by_:zl[i+1]<1073741824:=mz _ (List.getElem_mem _);have hgd:zl.getD (i+1) 0=zl[i+1]:=(by rw[List.getD_eq_getElem?_getD,List.getElem?_eq_getElem hiz];rfl);have HD2:=hZ hgd;clear hgd;generalize zl[i+1]=y at*
     clear hiz;have hyf:=Nat.mod_lt y hf0;have HYF:=hZ (show ((y % f:Nat):Int)=(y:Int) % f from Int.natCast_emod _ _);have hyg:(y:Int) % f*g≤1073741824:=by
      have h1:=Nat.mul_le_mul_right g (Nat.le_of_lt hyf);have h2:=HG.out;rw[aW]at h2;rw[←HYF.out,←Int.natCast_mul];omega
     have hyg0:0≤(y:Int) % f*g:=Int.mul_nonneg (by rw[←HYF.out];omega) (by omega);have hyi:(y:Int) % f<f:=(by rw[←HYF.out];omega);have hyi0:0≤(y:Int) % f:=(by rw[←HYF.out];omega);have hD:(1073741824:Int)/f≤1073741824:=(by rw[HFG.out];omega);have hD0:0≤(1073741824:Int)/f:=(by rw[HFG.out];omega);have hyD:(y:Int) % f*(1073741824/f)≤1073741824:=(by rw[HFG.out];exact hyg);have hyD0:0≤(y:Int) % f*(1073741824/f):=(by rw[HFG.out];exact hyg0);clear hyg hyg0;go_wp2
     have hb5:=hb.put i (x/f) (e:=(x:Int)/f) HXF.out.symm;have hq5:=hq.setCell (p:=⟨w.heap.size,i,none⟩) (Nat.le_refl _) (.int .i64 ((x:Int)/f));generalize wr.setCell ⟨w.heap.size,i,none⟩ (.int .i64 ((x:Int)/f))=w5 at*
     have hcx5:w5.cell? (az.add (i+1))=some (.int .i64 (y:Int)):=by
      have h1:=(hq.cell (p:=az.add (i+1)) (by rw[iB];exact hbz)).symm.trans hcx2;exact (hq5.cell (by rw[iB];exact hbz)).trans h1
     have hc5:w5.cell? ⟨w.heap.size,i,none⟩=some (.int .i64 ((x:Int)/f)):=by
      rw[hb5.cell (by rw[List.length_set,HL.out];exact hlt1)];simp[HXF.out]
     have hf5:=hb5.frozen i;clear hcx2 hcell hfz hcx;rw[aLg]at hcx5;go_region
     go_wp2
     have hE:=HG.out;have hxg:x/f<g:=by
      rw[Nat.div_lt_iff_lt_mul hf0,Nat.mul_comm,←hE];rw[aW];exact bx
     have ho':x/f+y % f*g<B30:=by
      have h1:(y % f+1)*g≤f*g:=Nat.mul_le_mul_right g hyf;rw[Nat.add_mul,Nat.one_mul,←hE]at h1;omega
     have hcast:(x:Int)/f+(y:Int) % f*(1073741824/f)=((x/f+y % f*g:Nat):Int):=by
      rw[HFG.out,Int.natCast_add,Int.natCast_mul,HXF.out,HYF.out]
     refine⟨⟨i+1,(out.set i (x/f)).set i (x/f+y % f*g),by omega,by go_num,by rw[List.length_set,List.length_set,HL.out],eO (eO ho (by rw[aW];have:=Nat.div_le_self x f;omega)) ho',?_,(hb5.put i _ hcast).drew,(hq5.setCell (Nat.le_refl _) _).drew⟩,by simp[intOf];omega⟩;have hv:=HV.out;rw[HD.out]at hv;rw[List.set_set,dQ _ (by rw[HL.out];omega),yB,HD.out,HD2.out];exact aBz hE hv rfl
    ·have hD2:zl.getD (i+1) 0=0:=by
      rw[List.getD_eq_getElem?_getD,List.getElem?_eq_none (by rw[HZ.out];omega)];rfl
     go_wp2
     refine⟨⟨i+1,out.set i (x/f),by omega,by go_num,by rw[List.length_set,HL.out],eO ho (by rw[aW];have:=Nat.div_le_self x f;omega),?_,hb.put i (x/f) HXF.out.symm,hq.setCell (Nat.le_refl _) _⟩,by simp[intOf];omega⟩;have hv:=HV.out;rw[HD.out]at hv;rw[dQ _ (by rw[HL.out];omega),yB,HD.out,hD2];exact aBz (y:=0) HG.out hv (by simp)
   ·obtain rfl:i=n:=(by omega);go_wp2_with fail
    refine (oW _ _ (w.heap.size+1) _ _ _ HL.out (Nat.le_refl _) (by omega) (hb.rd (Nat.lt_succ_self _))).mono ?_;rintro e w2 ⟨k2,hk2,rfl,hnz,hv,rfl⟩;go_wp2
    go_ret
    refine⟨_,rfl,Nn.of_blk hb hk2 (by rw[HL.out]at hk2;exact hk2) hnz ho ?_,hq,Nw.at_ (Nat.le_refl _)⟩;rw[hv];have h:=HV.out;rw[List.take_of_length_le (by rw[HL.out];omega),List.take_of_length_le (by rw[HZ.out];omega),show zl.getD i 0=0 by rw[List.getD_eq_getElem?_getD,List.getElem?_eq_none (by rw[HZ.out];omega)];rfl,Nat.zero_mod,Nat.mul_zero,Nat.add_zero]at h;rw[←h,Nat.mul_add_div hf0,Nat.div_eq_of_lt (Nat.mod_lt _ hf0),Nat.add_zero]
theorem aDo(x y:Value)(M N:Nat)(w:World)(hx:Nr w x M)(hy:Nr w y N)(hN:0<N)(lM:dg B30 M+40≤LIM)(lN:dg B30 N+40≤LIM):
  Calls Tryz.prog 169 #[x,y] w fun e w'=>∃u v,e=.returned (.tuple #[u,v])∧Nr w' u (M/N)∧Nr w' v (M % N)∧Q w w':=by
 rcases Nat.lt_or_ge M N with hlt|hge
 ·have hc:=fD hlt;have HC:=hZ hc;clear hc;go_enter Tryz.func169,Tryz.ntmps169
  go_wp2_with fail
  refine (mG _ _ M N _ hx hy (by omega) (by omega)).mono ?_;rintro e w1 ⟨rfl,hq1⟩;rw[HC.out];go_wp2
  go_ret2
  rw[Nat.div_eq_of_lt hlt,Nat.mod_eq_of_lt hlt];exact⟨_,_,rfl,Nn.zero _ _,hx.q hq1,hq1⟩
 ·have hc:0≤cmp M N:=by
   unfold cmp;rw[if_neg (by omega)];split<;>omega
  obtain⟨k,hk⟩:∃k,k=(30-bl N % 30) % 30:=⟨_,rfl⟩
  have hk30:k<30:=(by omega);have hki:(k:Int)=(30-(bl N:Int) % 30) % 30:=(by omega);have HK:=hZ hki;clear hki hk;go_enter Tryz.func169,Tryz.ntmps169
  go_wp2_with fail
  refine (mG _ _ M N _ hx hy (by omega) (by omega)).mono ?_;rintro e w1 ⟨rfl,hq1⟩;have hx1:=hx.q hq1;have hy1:=hy.q hq1;go_wp2_with fail
  refine (aMF _ N _ hy1 (by omega)).mono ?_;rintro e w1 ⟨rfl,rfl⟩;go_wp2_with fail
  have hp1:dg B30 (2^k)≤1:=by
   refine gI aK ?_;rw[Nat.pow_one];exact Nat.lt_of_le_of_lt (Nat.pow_le_pow_right (by decide) (show k≤29 by omega)) (by decide)
  have l1:=bQ aK M (2^k);have l2:=bQ aK N (2^k);refine (aCl _ M k _ _ hx1 (by have:=HK.out;omega) (by omega)).mono ?_;rintro e w2 ⟨va,rfl,ha,hq2,-⟩;go_wp2_with fail
  refine (aCl _ N k _ _ (hy1.q hq2) (by have:=HK.out;omega) (by omega)).mono ?_;rintro e w3 ⟨vb,rfl,hb,hq3,-⟩;have ha3:=ha.q hq3;clear ha hx hy hx1 hy1;have hq:=(hq1.trans hq2).trans hq3;clear hq1 hq2 hq3;have hf0:0<2^k:=Nat.pow_pos (by decide);have hV0:0<N*2^k:=Nat.mul_pos hN hf0;have hb3:=hb;obtain⟨A,c,xs,rfl,hcx,rx,wx,hvx⟩:=ha3;obtain⟨B,d,ys,rfl,hcy,ry,wy,hvy⟩:=hb;have lx:=wx.len aK;have ly:=wy.len aK;rw[hvx]at lx;rw[hvy]at ly;have hmk:=wD xs.length (xs.length:Int) rfl (by omega);have lxs:xs.length+30≤1099511627776:=(by have:=aB;omega);have lys:ys.length+30≤1099511627776:=(by have:=aB;omega);have hys0:0<ys.length:=by
   rcases Nat.eq_zero_or_pos ys.length with h0|h0
   ·rw[ly]at h0;have:=bK aK h0;omega
   ·exact h0
  have HX:=hZ hvx;clear hvx;have HY:=hZ hvy;clear hvy;have LX:=hZ lx;clear lx;have LY:=hZ ly;clear ly;obtain⟨i0,hi0,hz0,hz1,hz2⟩:=info_parts xQ;go_wp2
  clear hmk hb3 hc lM lN l1 l2 hp1
  go_loopw [9,10] (fun rv iv w4=>∃(j R:Nat) (out:List Nat),j≤xs.length∧iv=.int .i64 ((j:Int)-1)∧Nr w4 rv R∧R<N*2^k∧
      vl B30 (xs.drop j)=vl B30 (out.drop j)*(N*2^k)+R∧out.take j=List.replicate j 0∧out.length=xs.length∧(∀d∈out,d<B30)∧
      Blk .i64 w4 w3.heap.size 2 out∧Q w3 w4) (fun _ iv _=>(intOf iv+1).toNat)
  case atStart=>
   exact⟨xs.length,0,List.replicate xs.length 0,by omega,rfl,Nn.zero _ _,hV0,by simp[vl],by simp,by simp,fC (by decide),Blk.made _ _ _,(Q.refl _).alloc _⟩
  case round=>
   obtain⟨j,R,out,hj,rfl,hr,hR,hv,htk,hl,ho,hbk,hq4⟩:=hrel;have HV:=hZ hv;clear hv;have HL:=hZ hl;clear hl;have HT:=hZ htk;clear htk;by_cases hlt:0<j
   ·obtain⟨i,rfl⟩:∃i,j=i+1:=⟨j-1,by omega⟩
    rw[show ((i+1:Nat):Int)-1=(i:Int) from by omega];obtain⟨ad,rfl,hbx,hcx'⟩:=(rx.below hq4).at_ (k:=i) (by omega);have bx:xs[i]<1073741824:=wx.1 _ (List.getElem_mem _);have HD:=hZ (dU B30 (show i<xs.length by omega));generalize xs[i]=a at*
    obtain⟨A2,c2,rs,rfl,hc2,rr,wr2,hvr⟩:=hr;have HR:=hZ hvr;clear hvr;have lrs:rs.length≤ys.length:=by
     have:=wr2.len aK;rw[HR.out]at this;rw[this,LY.out];exact bJ aK (Nat.le_of_lt hR)
    go_wp2_with (at_builtin;go_loud (refine aBG rfl _ _ _ rfl (w3.heap.size+1) 2 i0 (.int .i64 0) 8 Tryz.underlying37 hi0 hz0 hz1 hz2 rfl _ 1 [a] rfl (aLG _ _ _ a rfl hbk.lt) wr.heap.size A2 rs.length c2 rs rfl rfl (rr.alloc (Nat.le_refl _) _) (by unfold maxLen;omega) (by omega) (by have:=hbk.lt;simp;omega) ?_);intro v5 w5 hown hg5 hat)
    obtain⟨g2,cap2,rfl,hg2,hg2lt,hn2,hm2,hl2,hrd2⟩:=aGm hown (by omega);have hq5:Q wr w5:=Q.grown ((Q.refl wr).alloc _) hg5 (fun k e=>Nat.le_of_eq (Option.some.inj e));refine (oW _ _ w5.heap.size _ ([a]++rs) _ hl2 hn2 (by omega) hrd2).mono ?_;rintro e w6 ⟨k6,hk6,rfl,hnz6,hv6,rfl⟩;have hR0:a+B30*R<N*2^k*B30:=aIN (by rw[aW];exact bx) hR;have hr6:Nr w5 (.slice (some ⟨g2,0,none⟩) k6 cap2) (a+B30*R):=by
     refine⟨some ⟨g2,0,none⟩,cap2,([a]++rs).take k6,?_,?_,hrd2.take k6,⟨aT ?_,hnz6⟩,?_⟩
     ·rw[List.length_take,Nat.min_eq_left hk6]
     ·rw[List.length_take,Nat.min_eq_left hk6];omega
     ·intro d hd;simp only[List.singleton_append,List.mem_cons]at hd;rcases hd with rfl|hd
      ·rw[aW];exact bx
      ·exact wr2.1 d hd
     ·rw[hv6,List.singleton_append,fB,HR.out]
    have hnw6:Nw (w3.heap.size+1) (.slice (some ⟨g2,0,none⟩) k6 cap2):=Nw.at_ hg2;generalize Value.slice (some ⟨g2,0,none⟩) k6 cap2=v6 at*
    have hbk5:=hbk.q hq5;have hq35:=hq4.trans hq5;clear hown hg5 hat hrd2 hbk hq4 hq5;have ho0:out[i]? =some 0:=by
     have h1:(out.take (i+1))[i]? =some 0:=by rw[HT.out];simp
     rwa [List.getElem?_take_of_lt (Nat.lt_succ_self _)]at h1
    have hset0:out.set i 0=out:=by
     obtain⟨hi,he⟩:=List.getElem?_eq_some_iff.1 ho0;rw[←he,List.set_getElem_self]
    have HS:=hZ hset0;clear hset0;have HO:=hZ ho0;clear ho0;go_wp2
    obtain⟨wo,rfl⟩:∃wo:World,wo=w5:=⟨_,rfl⟩
    go_loopg [9] (a+B30*R) (fun gk rv w7=>∃o,Nr w7 rv gk∧Nw (w3.heap.size+1) rv∧o*(N*2^k)+gk=a+B30*R∧Blk .i64 w7 w3.heap.size 2 (out.set i o)∧Q w3 w7)
    case atStart=>exact⟨0,hr6,hnw6,by omega,by rw[HS.out];exact hbk5,hq35⟩
    case round=>
     obtain⟨w7,rfl⟩:∃w7:World,w7=wr:=⟨_,rfl⟩
     obtain⟨o,hrr,hnw,hsum,hbk7,hq7⟩:=hrel;have HSUM:=hZ hsum;clear hsum;have ho1:o<B30:=aC3 HSUM.out hR0;have hb7:Nr w7 (.slice B ys.length d) (N*2^k):=⟨B,d,ys,rfl,hcy,ry.q hq7,wy,HY.out⟩
     have hgk:dg B30 gk≤ys.length+1:=aNO aK HSUM.out hR0 LY.out;rcases Nat.lt_or_ge gk (N*2^k) with hlt8|hge8
     ·have HC:=hZ (fD hlt8);go_wp2_with fail
      refine (mG _ _ gk (N*2^k) _ hrr hb7 (by rw[aB];omega) (by rw[←LY.out,aB];omega)).mono ?_;rintro e w8 ⟨rfl,hq8⟩;rw[HC.out];go_wp2
      refine⟨⟨i,gk,out.set i o,by omega,rfl,hrr.q hq8,hlt8,?_,?_,by rw[List.length_set,HL.out],eO ho ho1,hbk7.q hq8,hq7.trans hq8⟩,by simp[intOf]⟩
      ·have hi:i<out.length:=(by rw[HL.out];omega);rw[HD.out,HV.out,dU B30 (ds:=out.set i o) (j:=i) (by rw[List.length_set];exact hi),List.getElem_set_self,drop_set (by omega)];exact aA9 HSUM.out
      ·rw[List.take_set_of_le (Nat.le_refl _)];have h1:=congrArg (List.take i) HT.out;rw[List.take_take,Nat.min_eq_left (by omega),List.take_replicate,Nat.min_eq_left (by omega)]at h1;exact h1
     ·have hc:0≤cmp gk (N*2^k):=by
       unfold cmp;rw[if_neg (by omega)];split<;>omega
      go_wp2_with fail
      refine (mG _ _ gk (N*2^k) _ hrr hb7 (by rw[aB];omega) (by rw[←LY.out,aB];omega)).mono ?_;rintro e w8 ⟨rfl,hq8⟩;generalize cmp gk (N*2^k)=cv at*
      have hrr8:=hrr.q hq8;have hb8:=hb7.q hq8;obtain⟨A7,c7,r7,rfl,hc7,rr7,wr7,hv7⟩:=hrr8;have l7:=wr7.len aK;rw[hv7]at l7;have HV7:=hZ hv7;have l7a:ys.length≤r7.length:=(by rw[l7,LY.out];exact bJ aK hge8);have l7b:r7.length≤ys.length+1:=(by omega);have lgk:dg B30 gk+1≤LIM:=(by rw[aB];omega);clear hgk l7;have hn1:ys.length-1<r7.length:=(by omega);have hn2:ys.length-1<ys.length:=(by omega);obtain⟨a7,rfl,hba7,hca7⟩:=rr7.at_ hn1;obtain⟨a8,rfl,hba8,hca8⟩:=(ry.below (hq7.trans hq8)).at_ hn2;have bt7:r7[ys.length-1]<1073741824:=wr7.1 _ (List.getElem_mem _);have bt8:ys[ys.length-1]<1073741824:=wy.1 _ (List.getElem_mem _);have ebt:ys[ys.length-1]=N*2^k/B30^(ys.length-1):=by
       rw[←HY.out,←iR (by decide) (by omega) wy.1];exact (drop_one (by omega)).symm
      have HBT:=hZ ebt;clear ebt;have hVd:N*2^k/B30^(ys.length-1)<1073741824:=(by rw[←HBT.out];exact bt8);have hP:0<B30^(ys.length-1):=Nat.pow_pos (by decide);have HG:=aLh (R:=gk) (V:=N*2^k) hP;have hnw7:=hnw a7 r7.length c7 rfl;rcases Nat.lt_or_ge ys.length r7.length with h8|h8
      case' inl=>
       obtain⟨a9,e9,hba9,hca9⟩:=rr7.at_ h8;cases e9;have bt9:r7[ys.length]<1073741824:=wr7.1 _ (List.getElem_mem _);have etop:r7[ys.length-1]+B30*r7[ys.length]=gk/B30^(ys.length-1):=by
        rw[←HV7.out,←iR (by decide) (by omega) wr7.1,wM (n:=ys.length-1) (by omega)];simp only[show ys.length-1+1=ys.length by omega]
       rw[←etop,←HBT.out]at HG;have hdq:((r7[ys.length-1]:Int)+(r7[ys.length]:Int)*1073741824)/((ys[ys.length-1]:Int)+1)=(((r7[ys.length-1]+B30*r7[ys.length])/(ys[ys.length-1]+1):Nat):Int):=by
        rw[aW,Int.natCast_ediv,Int.natCast_add,Int.natCast_add,Int.natCast_mul,Int.mul_comm];rfl
       generalize (r7[ys.length-1]+B30*r7[ys.length])/(ys[ys.length-1]+1)=dq at*
       clear etop;generalize r7[ys.length]=t2 at*
      case' inr=>
       have etop:r7[ys.length-1]=gk/B30^(ys.length-1):=by
        rw[←HV7.out,←iR (by decide) (by omega) wr7.1];exact (drop_one (by omega)).symm
       rw[←etop,←HBT.out]at HG;have hdq:(r7[ys.length-1]:Int)/((ys[ys.length-1]:Int)+1)=((r7[ys.length-1] / (ys[ys.length-1]+1):Nat):Int):=by
        rw[Int.natCast_ediv,Int.natCast_add];rfl
       generalize r7[ys.length-1] / (ys[ys.length-1]+1)=dq at*
       clear etop
      all_goals
       clear HBT hVd;generalize r7[ys.length-1]=t1 at*
       generalize ys[ys.length-1]=bt at*
       have hcq:=(hbk7.q hq8).cell (i:=i) (by rw[List.length_set,HL.out];omega);rw[List.getElem_set_self]at hcq;have hfq:=(hbk7.q hq8).frozen i;have hd:∃d:Nat,1≤d∧d*(N*2^k)≤gk∧(dq=0∧d=1∨1≤dq∧d=dq):=by
        rcases Nat.eq_zero_or_pos dq with h0|h0
        ·exact⟨1,Nat.le_refl _,by omega,Or.inl ⟨h0,rfl⟩⟩
        ·exact⟨dq,h0,HG,Or.inr ⟨h0,rfl⟩⟩
       obtain⟨d,hd1,hdV,hdq2⟩:=hd;have hob:o+d<B30:=aC3 (g:=gk-d*(N*2^k)) (by rw[Nat.add_mul];have:=HSUM.out;omega) hR0;have ho3:o<1073741824:=(by rw[aW]at ho1;exact ho1);have hd3:d<1073741824:=(by rw[aW]at hob;omega);have hQ9:∀u,Q w3 (w8.setCell ⟨w3.heap.size,i,none⟩ u):=fun u=>(hq7.trans hq8).setCell (Nat.le_refl _) u;have hR9:∀u,Nr (w8.setCell ⟨w3.heap.size,i,none⟩ u) (.slice (some a7) r7.length c7) gk:=fun u=>
        ⟨some a7,c7,r7,rfl,hc7,(fun hn=>by
         obtain⟨ad,e,hb,hc,cs9,fr9,ht9⟩:=rr7 hn;cases e;refine⟨a7,rfl,by simpa [World.setCell] using hb,fun j d hd=>?_,cs9,fr9,(Below.heap_setCell _ _ _ _ (by simp;omega)).trans ht9⟩;rw[World.cell?_setCell_other _ _ _ _ (by intro e;have:=congrArg Addr.block e;rw[iB]at this;simp at this;omega)];exact hc j d hd),wr7,HV7.out⟩
       have hB9:∀u:Int,u=((o+d:Nat):Int)→Blk .i64 (w8.setCell ⟨w3.heap.size,i,none⟩ (.int .i64 u)) w3.heap.size 2 (out.set i (o+d)):=fun u hu=>by
        have h:=(hbk7.q hq8).put i (o+d) hu
        rwa [List.set_set]at h
       have hsum2:(o+d)*(N*2^k)+(gk-N*2^k*d)=a+B30*R:=by
        rw[Nat.add_mul,Nat.mul_comm (N*2^k) d];have:=HSUM.out;omega
       have HS2:=hZ hsum2;clear hsum2;have hle9:N*2^k*d≤gk:=(by rw[Nat.mul_comm];exact hdV);have ldd:dg B30 d≤1:=gI aK (by rw[Nat.pow_one,aW];omega);have lV:dg B30 (N*2^k)+dg B30 d+2≤LIM:=(by rw[←LY.out,aB];omega);have hdq3:dq<1073741824:=(by omega);rcases hdq2 with⟨rfl,hdd⟩|⟨hdq1,hdd⟩
      all_goals
       have HDD:=hZ hdd;clear hdd;go_wp2_with fail
       refine (aAJ _ d _ (by have:=HDD.out;omega) (by omega)).mono ?_;rintro e w10 ⟨vs,rfl,hs,hq10,-⟩;have hR10:=(hR9 _).q hq10;have hB10:=(hB9 _ (by have:=HDD.out;omega)).q hq10;have hq310:=(hQ9 _).trans hq10;clear hR9 hB9 hQ9 hq10;go_wp2_with fail
       refine (aCT _ _ (N*2^k) d _ ⟨some a8,_,ys,rfl,hcy,ry.q hq310,wy,HY.out⟩ hs lV).mono ?_;rintro e w11 ⟨vt,rfl,ht,hq11,-⟩;go_wp2_with fail
       refine (aAI _ _ gk (N*2^k*d) _ (hR10.q hq11) ht hle9 lgk).mono ?_;rintro e w12 ⟨vm,rfl,hm,hq12,hnwm⟩;have hB12:=hB10.q (hq11.trans hq12);have hq312:=hq310.trans (hq11.trans hq12);have hnw12:Nw (w3.heap.size+1) vm:=hnwm.more (by have:=hB10.lt;have:=hq11.size;omega);clear hB10 hq310 hR10 ht hs hq11 hq12 hnwm hcq hfq hca7 hca8;go_wp2_with fail
       go_roundg (gk-N*2^k*d)
       case measure=>
        have:1*(N*2^k)≤d*(N*2^k):=Nat.mul_le_mul_right _ hd1;rw[Nat.mul_comm d]at this;omega
       case rel=>exact⟨o+d,hm,hnw12,HS2.out,hB12,hq312⟩
   ·obtain rfl:j=0:=(by omega);rw[show ((0:Nat):Int)-1=-1 from by omega];go_wp2_with fail
    refine (oW _ _ (w3.heap.size+1) _ _ _ HL.out (Nat.le_refl _) (by omega) (hbk.rd (Nat.lt_succ_self _))).mono ?_;rintro e w5 ⟨k5,hk5,rfl,hnz,hvq,rfl⟩;have hfin:=HV.out;rw[List.drop_zero,List.drop_zero,HX.out]at hfin;obtain⟨hq1,hq2,hq3⟩:=aHx hf0 hfin hR;have hRlen:dg B30 R≤LIM:=by
     have h1:=bJ aK (Nat.le_of_lt hR);rw[←LY.out]at h1;rw[aB];omega
    have hqv:Nr wr (.slice (some ⟨w3.heap.size,0,none⟩) k5 xs.length) (M/N):=by
     refine Nn.of_blk hbk hk5 (by rw[HL.out]at hk5;exact hk5) hnz ho ?_;rw[hvq,hq1]
    have HQ2:=hZ hq2;clear hq1 hq2 hq3 hfin;go_wp2_with fail
    refine (wE _ R k _ _ hr (by have:=HK.out;omega) hRlen (by omega)).mono ?_;rintro e w6 ⟨vr,rfl,hvr,hq6,-⟩;go_wp2_with fail
    go_ret2
    exact⟨_,_,rfl,hqv.q hq6,by rw[HQ2.out];exact hvr,(hq.trans hq4).trans hq6⟩
theorem aKO(x y:Value)(M N:Nat)(w:World)(hx:Nr w x M)(hy:Nr w y N)(hN:0<N)(lM:31*dg B30 M+80≤LIM)(lN:31*dg B30 N+80≤LIM):
  Calls Tryz.prog 108 #[x,y] w fun e w'=>∃v,e=.returned v∧Nr w' v (Nat.gcd M N)∧Q w w':=by
 have HG0:=hZ (rG M N);have hR:M % N<N:=Nat.mod_lt _ hN;go_enter Tryz.func108,Tryz.ntmps108
 go_wp2_with fail
 refine (aDo _ _ M N _ hx hy hN (by omega) (by omega)).mono ?_;rintro e w1 ⟨vq,vr,rfl,hq,hr,hq1⟩;have hy1:=hy.q hq1;have lR:31*dg B30 (M % N)+80≤LIM:=by have:=bJ aK (Nat.le_of_lt hR);omega
 have HE:=hZ (rfl:M % N=M % N);clear hq hx;generalize M % N=R at*
 obtain⟨A,c,rs,rfl,hc,rr,wr1,hvr⟩:=hr;have lr:=wr1.len aK;rw[hvr]at lr;have HR:=hZ hvr;clear hvr;rcases Nat.eq_zero_or_pos R with h0|h0
 ·subst h0;rw[aX]at lr;have e0:((rs.length:Int) == 0)=true:=(by simp[lr]);clear lr;go_wp2_with fail
  go_ret
  rw[←HG0.out,Nat.gcd_zero_left];exact⟨_,rfl,hy1,hq1⟩
 ·have e0:((rs.length:Int) == 0)=false:=by
   have:dg B30 R≠0:=fun h=>(by have:=bK aK h;omega);exact beq_eq_false_iff_ne.2 (by omega)
  have hrn:Nr w1 (.slice A rs.length c) R:=⟨A,c,rs,rfl,hc,rr,wr1,HR.out⟩
  clear rr wr1 lr;go_wp2_with fail
  refine (aAK _ R _ hrn (by omega) h0).mono ?_;rintro e w2 ⟨rfl,rfl⟩;go_wp2_with fail
  refine (aAK _ N _ hy1 (by omega) hN).mono ?_;rintro e w2 ⟨rfl,rfl⟩;have hGP:=lH h0 hN;rw[HG0.out]at hGP;have HGP:=hZ hGP;clear hGP HG0 HE;have oR:=(iJ h0).2;have oN:=(iJ hN).2;have tR:tz R≤30*dg B30 R:=Nat.le_trans (Nat.le_of_lt (jH h0)) (kC 30 R (by decide));have tN:tz N≤30*dg B30 N:=Nat.le_trans (Nat.le_of_lt (jH hN)) (kC 30 N (by decide));have lim:=aB;have dR:=bJ aK (Nat.div_le_self R (2^tz R));have dN:=bJ aK (Nat.div_le_self N (2^tz N));have LM:=hZ lim;clear lim;have tR2:tz R≤4611686018427387904:=(by have:=LM.out;omega);have tN2:tz N≤4611686018427387904:=(by have:=LM.out;omega);go_wp2_with fail
  refine (wE _ R (tz R) _ _ hrn rfl (by omega) tR2).mono ?_;rintro e w2 ⟨va,rfl,ha,hq2,-⟩;go_wp2_with fail
  refine (wE _ N (tz N) _ _ (hy1.q hq2) rfl (by omega) tN2).mono ?_;rintro e w3 ⟨vb,rfl,hb,hq3,-⟩;have ha3:=ha.q hq3;have hq13:=(hq1.trans hq2).trans hq3;clear ha hq1 hq2 hq3 hrn hy1 hy;have hml:min (tz R) (tz N)≤tz N:=Nat.min_le_right _ _;obtain⟨L,hLe⟩:∃L,L=max (dg B30 R) (dg B30 N):=⟨_,rfl⟩
  have lL:31*L+80≤LIM:=(by omega);have dR:dg B30 (R/2^tz R)≤L:=(by omega);have dN:dg B30 (N/2^tz N)≤L:=(by omega);have tmin:min (tz R) (tz N)≤30*L:=(by omega);clear hLe lM lN lR hR e0;generalize R/2^tz R=a0 at*
  generalize N/2^tz N=b0 at*
  generalize tz R=ti at*
  generalize tz N=tk at*
  have HTM:=hZ tmin;clear tmin hml;go_wp2_with fail
  go_loopg [0,1] (a0+b0) (fun gk va vb w4=>∃a b,Nr w4 va a∧Nr w4 vb b∧a % 2=1∧b % 2=1∧Nat.gcd a b=Nat.gcd a0 b0∧gk=a+b∧dg B30 a≤L∧dg B30 b≤L∧Q w3 w4)
  case atStart=>exact⟨a0,b0,ha3,hb,oR,oN,rfl,rfl,dR,dN,Q.refl _⟩
  case round=>
   obtain⟨w4,rfl⟩:∃w4:World,w4=wr:=⟨_,rfl⟩
   obtain⟨a,b,hva,hvb,oa,ob,hgcd,hgk,la,lb,hq4⟩:=hrel;have HOA:=hZ oa;have HOB:=hZ ob;have HGC:=hZ hgcd;have HGK:=hZ hgk;clear oa ob hgcd hgk oR oN;obtain⟨A4,c4,da,rfl,hc4,ra4,wa4,hv4⟩:=hva;obtain⟨B4,d4,db,rfl,hd4,rb4,wb4,hw4⟩:=hvb;have lea:=wa4.len aK;have leb:=wb4.len aK;rw[hv4]at lea;rw[hw4]at leb;have hna:Nr w4 (.slice A4 da.length c4) a:=⟨A4,c4,da,rfl,hc4,ra4,wa4,hv4⟩
   have hnb:Nr w4 (.slice B4 db.length d4) b:=⟨B4,d4,db,rfl,hd4,rb4,wb4,hw4⟩
   have HLA:=hZ lea;have HLB:=hZ leb;have hcase:(da.length≤2∧db.length≤2)∨2<da.length∨da.length≤2∧2<db.length:=(by omega);clear lea leb hv4 hw4 ra4 rb4 wa4 wb4;rcases hcase with⟨h2,h2b⟩|h2|⟨h2,h2b⟩
   ·have bA:dg B30 a≤2:=(by rw[←HLA.out];exact h2);have bB:dg B30 b≤2:=(by rw[←HLB.out];exact h2b);go_wp2_with fail
    refine (aG3 _ a _ hna bA).mono ?_;rintro e w5 ⟨rfl,rfl⟩;go_wp2_with fail
    refine (aG3 _ b _ hnb bB).mono ?_;rintro e w5 ⟨rfl,rfl⟩;have p2:B30^2=1152921504606846976:=(by decide);have ba:a<1152921504606846976:=(by have:=(aN aK a 2).1 bA;rw[p2]at this;exact this);have bb:b<1152921504606846976:=(by have:=(aN aK b 2).1 bB;rw[p2]at this;exact this);clear p2 bA bB;go_wp2_with fail
    obtain⟨wo,rfl⟩:∃wo:World,wo=w4:=⟨_,rfl⟩
    go_loopw [8,9] (fun xv yv w5=>∃p q:Nat,xv=.int .i64 (p:Int)∧yv=.int .i64 (q:Int)∧p<1152921504606846976∧q<1152921504606846976∧Nat.gcd p q=Nat.gcd a0 b0∧∃m,w5=wo.drewN m) (fun _ yv _=>(intOf yv).toNat)
    case atStart=>exact⟨a,b,rfl,rfl,ba,bb,HGC.out,0,rfl⟩
    case round=>
     obtain⟨p,q,rfl,rfl,hp,hq,hpq,m,rfl⟩:=hrel;have HPQ:=hZ hpq;clear hpq;rcases Nat.eq_zero_or_pos q with h0|h0
     ·subst h0;have hpe:p=Nat.gcd a0 b0:=(by have:=HPQ.out;rwa [Nat.gcd_zero_right]at this);have HP:=hZ hpe;clear hpe;go_wp2_with fail
      refine (aAJ _ p _ rfl (by omega)).mono ?_;rintro e w6 ⟨vs,rfl,hs,hq6,-⟩;have hqq:Q w3 w6:=(hq4.drewN m).trans hq6;have ldp:dg B30 p≤2:=gI aK (by rw[show B30^2=1152921504606846976 by decide];exact hp);have lim1:dg B30 p+min ti tk+2≤LIM:=(by have:=HTM.out;omega);rcases Nat.lt_trichotomy ti tk with ht|rfl|ht;all_goals
       go_wp2_with fail
       refine (aCl _ p (min _ _) _ _ hs (by omega) lim1).mono ?_;rintro e w7 ⟨vf,rfl,hf,hq7,-⟩;go_wp2_with fail
       go_ret
       refine⟨_,rfl,?_,(hq13.trans hqq).trans hq7⟩;rw[HGP.out,←HP.out,Nat.mul_comm];exact hf
     ·have hne:((q:Int) != 0)=true:=(by simp;omega);have hpm:p % q<q:=Nat.mod_lt _ h0;have hgm:Nat.gcd q (p % q)=Nat.gcd a0 b0:=(by rw[Nat.gcd_comm,rG];exact HPQ.out);have HGM:=hZ hgm;clear hgm;go_wp2_with fail
      go_quiet (fail)
      go_wp2_with fail
      exact⟨⟨q,p % q,rfl,congrArg (Value.int _) (Int.natCast_emod _ _).symm,hq,by omega,HGM.out,_,by rw[World.drewN_drewN]⟩,by simp[intOf];omega⟩
   all_goals
    have step:∀(p q:Nat) (vp vq2:Value) (w5:World),q<p→p % 2=1→q % 2=1→Nat.gcd p q=Nat.gcd a0 b0→dg B30 p≤L→dg B30 q≤L→Nr w5 vp p→Nr w5 vq2 q→
        Nat.gcd ((p-q)/2^tz (p-q)) q=Nat.gcd a0 b0∧((p-q)/2^tz (p-q)) % 2=1∧(p-q)/2^tz (p-q)<p∧dg B30 ((p-q)/2^tz (p-q))≤L∧dg B30 (p-q)≤L∧tz (p-q)≤4611686018427387904:=by
     intro p q vp vq2 w5 h1 h2 h3 h4 h5 h6 _ _;have hst:=aBa h2 h3 h1;have ldm:=bJ aK (Nat.sub_le p q);have ldd:=bJ aK (Nat.div_le_self (p-q) (2^tz (p-q)));refine⟨hst.1.trans h4,hst.2.1,hst.2.2,by omega,by omega,?_⟩;have h7:=jH (show 0<p-q by omega);have h8:=kC 30 (p-q) (by decide);change bl (p-q)≤30*dg B30 (p-q) at h8;have:=LM.out;omega
    rcases Nat.lt_trichotomy a b with hab|hab|hab
    ·have HC:=hZ (fD hab);obtain⟨s1,s2,s3,s4,s5,s6⟩:=step b a _ _ w4 hab HOB.out HOA.out (by rw[Nat.gcd_comm];exact HGC.out) lb la hnb hna;have S1:=hZ s1;have S2:=hZ s2;clear s1 s2 step;go_wp2_with fail
     refine (mG _ _ a b _ hna hnb (by omega) (by omega)).mono ?_;rintro e w5 ⟨rfl,hq5⟩;rw[HC.out];go_wp2_with fail
     refine (aAI _ _ b a _ (hnb.q hq5) (hna.q hq5) (by omega) (by omega)).mono ?_;rintro e w6 ⟨vm,rfl,hm,hq6,-⟩;go_wp2_with fail
     refine (aAK _ (b-a) _ hm (by omega) (by omega)).mono ?_;rintro e w7 ⟨rfl,rfl⟩;go_wp2_with fail
     refine (wE _ (b-a) (tz (b-a)) _ _ hm rfl (by omega) s6).mono ?_;rintro e w8 ⟨vn,rfl,hn,hq8,-⟩;have hqq:=(hq5.trans hq6).trans hq8;go_wp2_with fail
     go_roundg ((b-a)/2^tz (b-a)+a)
     case measure=>have:=HGK.out;omega
     case rel=>exact⟨_,a,hn,hna.q hqq,S2.out,HOA.out,S1.out,rfl,s4,la,hq4.trans hqq⟩
    ·subst hab;have HC:=hZ (cmp_eq a);have hg1:a=Nat.gcd a0 b0:=(by have:=HGC.out;rwa [Nat.gcd_self]at this);have HP:=hZ hg1;clear step hg1;have lim1:dg B30 a+min ti tk+2≤LIM:=(by have:=HTM.out;omega);go_wp2_with fail
     refine (mG _ _ a a _ hna hnb (by omega) (by omega)).mono ?_;rintro e w5 ⟨rfl,hq5⟩;rw[HC.out];have hna5:=hna.q hq5;rcases Nat.lt_trichotomy ti tk with ht|rfl|ht;all_goals
      go_wp2_with fail
      refine (aCl _ a (min _ _) _ _ hna5 (by omega) lim1).mono ?_;rintro e w7 ⟨vf,rfl,hf,hq7,-⟩;go_wp2_with fail
      go_ret
      refine⟨_,rfl,?_,(hq13.trans (hq4.trans hq5)).trans hq7⟩;rw[HGP.out,←HP.out,Nat.mul_comm];exact hf
    ·have HC:=hZ (jX hab);obtain⟨s1,s2,s3,s4,s5,s6⟩:=step a b _ _ w4 hab HOA.out HOB.out HGC.out la lb hna hnb;have S1:=hZ s1;have S2:=hZ s2;clear s1 s2 step;go_wp2_with fail
     refine (mG _ _ a b _ hna hnb (by omega) (by omega)).mono ?_;rintro e w5 ⟨rfl,hq5⟩;rw[HC.out];go_wp2_with fail
     refine (aAI _ _ a b _ (hna.q hq5) (hnb.q hq5) (by omega) (by omega)).mono ?_;rintro e w6 ⟨vm,rfl,hm,hq6,-⟩;go_wp2_with fail
     refine (aAK _ (a-b) _ hm (by omega) (by omega)).mono ?_;rintro e w7 ⟨rfl,rfl⟩;go_wp2_with fail
     refine (wE _ (a-b) (tz (a-b)) _ _ hm rfl (by omega) s6).mono ?_;rintro e w8 ⟨vn,rfl,hn,hq8,-⟩;have hqq:=(hq5.trans hq6).trans hq8;go_wp2_with fail
     go_roundg ((a-b)/2^tz (a-b)+b)
     case measure=>have:=HGK.out;omega
     case rel=>exact⟨_,b,hn,hnb.q hqq,S2.out,HOB.out,S1.out,rfl,s4,lb,hq4.trans hqq⟩
theorem aKP(W:World)(E:Int):(convert 181 9 (.slice (some ⟨W.heap.size,0,none⟩) 1 1)).run Tryz.prog (W.alloc (.cells #[.int .u8 E] 5))=
  .ok (.string (strOfNums [E])) (W.alloc (.cells #[.int .u8 E] 5)):=by
 refine run_convert_bytes_arg (P:=Tryz.prog) _ 181 5 Tryz.underlying181 Tryz.underlying5 _ 0 1 1 [E] rfl ?_ 9 Tryz.underlying9;intro i hi;obtain rfl:i=0:=by omega
 exact fA _ _ _
theorem aG4(q:Nat)(p:ByteArray)(E:Int)(hE:E=((48+q:Nat):Int)):(strOfNums [E]++p).data.toList=dig q::p.data.toList:=by
 subst hE;rw[ByteArray.data_append,Array.toList_append,strOfNums_data];simp only[List.map_cons,List.map_nil,Int.toNat_natCast];rfl
theorem nA(E:Int):(strOfNums [E]).size=1:=by rw[strOfNums_size];rfl
theorem aKQ(x:Value)(N:Nat)(w:World)(hx:Nr w x N)(lN:dg B30 N+1≤LIM):
  Calls Tryz.prog 118 #[x] w fun e w'=>∃t:ByteArray,e=.returned (.string t)∧t.data.toList=dec N∧Q w w':=by
 obtain⟨A,c,xs,rfl,hc,rx,wx,hv⟩:=hx;have hl:=wx.len aK;rw[hv]at hl;rcases Nat.eq_zero_or_pos N with h0|h0
 ·subst h0;rw[aX]at hl;have h1:((xs.length:Int) == 0)=true:=(by rw[hl];rfl);clear hl;go_enter Tryz.func118,Tryz.ntmps118
  go_wp2_with fail
  go_ret
  exact⟨_,rfl,by rw[gJ (by decide)];rfl,Q.refl _⟩
 ·have h1:((xs.length:Int) == 0)=false:=by
   refine beq_eq_false_iff_ne.2 ?_;have:dg B30 N≠0:=fun h=>(by have:=bK aK h;omega);omega
  rw[aB]at lN;have hL:xs.length+1≤1099511627776:=(by omega);have hx0:Nr w (.slice A xs.length c) N:=⟨A,c,xs,rfl,hc,rx,wx,hv⟩
  clear hl hv rx wx;go_enter Tryz.func118,Tryz.ntmps118
  go_wp2_with fail
  go_loopg [0,3] N (fun gk av sv w1=>∃(t:ByteArray),sv=.string t∧t.size≤10995116277760∧Nr w1 av gk∧dg B30 gk+1≤1099511627776∧(0<gk∧dec N=dec gk++t.data.toList∨gk=0∧dec N=t.data.toList)∧Q w w1)
  case atStart=>exact⟨ByteArray.empty,rfl,by simp,hx0,lN,Or.inl ⟨h0,by simp⟩,Q.refl _⟩
  case round=>
   obtain⟨w1,rfl⟩:∃w1:World,w1=wr:=⟨_,rfl⟩
   obtain⟨t,rfl,hts,hav,hlg,hdec,hq⟩:=hrel;obtain⟨A1,c1,ds,rfl,hc1,rd,wd,hvd⟩:=hav;have HV:=hZ hvd;clear hvd;have hl:=wd.len aK;rw[HV.out]at hl;have HDEC:=hZ hdec;clear hdec;rcases Nat.eq_zero_or_pos gk with hg|hg
   ·have hd0:ds.length≤0:=(by rw[hl,hg,aX];exact Nat.le_refl _);clear hl;go_wp2_with fail
    go_ret
    refine⟨_,rfl,?_,hq⟩;rcases HDEC.out with⟨h,_⟩|⟨_,h⟩
    ·omega
    ·exact h.symm
   ·have hd0:0<ds.length:=by
     have:dg B30 gk≠0:=fun h=>(by have:=bK aK h;omega);omega
    have hmk:=wD ds.length (ds.length:Int) rfl (by rw[aB];omega);have hlm:ds.length≤1099511627776:=(by omega);clear hl;go_wp2_with fail
    clear hmk
    go_loopw [5,6] (fun rv iv w2=>∃(j r:Nat) (out:List Nat),j≤ds.length∧iv=.int .i64 ((j:Int)-1)∧rv=.int .i64 (r:Int)∧r<1000000000∧
     vl B30 (ds.drop j)=vl B30 (out.drop j)*1000000000+r∧out.length=ds.length∧(∀d∈out,d<B30)∧Blk .i64 w2 w1.heap.size 2 out∧Q w1 w2) (fun _ iv _=>(intOf iv+1).toNat)
    case atStart=>exact⟨ds.length,0,List.replicate ds.length 0,by omega,rfl,rfl,by omega,by simp[vl],by simp,fC (by decide),Blk.made _ _ _,(Q.refl _).alloc _⟩
    case round=>
     obtain⟨j,r,out,hj,rfl,rfl,hr,hv,hlo,ho,hb,hq2⟩:=hrel;have HV2:=hZ hv;clear hv;have HLO:=hZ hlo;clear hlo;by_cases hlt:0<j
     ·obtain⟨i,rfl⟩:∃i,j=i+1:=⟨j-1,by omega⟩
      rw[show ((i+1:Nat):Int)-1=(i:Int) from by omega];obtain⟨ad,rfl,hbx,hcx⟩:=(rd.below hq2).at_ (k:=i) (by omega);have bx:ds[i]<1073741824:=wd.1 _ (List.getElem_mem _);have HD:=hZ (dU B30 (show i<ds.length by omega));generalize ds[i]=a at*
      have hcell:=hb.cell (i:=i) (by rw[HLO.out];omega);have hfz:=hb.frozen i;go_wp2_with fail
      refine⟨⟨i,(r*B30+a) % 1000000000,out.set i ((r*B30+a)/1000000000),by omega,rfl,congrArg (Value.int _) (by rw[aW];omega),by omega,?_,by rw[List.length_set,HLO.out],
       eO ho (by rw[aW];omega),hb.put i _ (by rw[aW];omega),hq2.setCell (Nat.le_refl _) _⟩,by simp[intOf]⟩
      rw[HD.out,HV2.out,dU B30 (ds:=out.set i ((r*B30+a)/1000000000)) (j:=i) (by rw[List.length_set,HLO.out];omega),List.getElem_set_self,drop_set (by omega)];refine aA9 (V:=1000000000) ?_;rw[Nat.mul_comm B30 r,Nat.mul_comm];omega
     ·obtain rfl:j=0:=(by omega);rw[show ((0:Nat):Int)-1=-1 from by omega];go_wp2_with fail
      refine (oW _ _ (w1.heap.size+1) _ _ _ HLO.out (Nat.le_refl _) (by omega) (hb.rd (Nat.lt_succ_self _))).mono ?_;rintro e w3 ⟨k3,hk3,rfl,hnz3,hv3,rfl⟩;have hfin:=HV2.out;rw[List.drop_zero,List.drop_zero,HV.out]at hfin;have hqv:Nr wr (.slice (some ⟨w1.heap.size,0,none⟩) k3 ds.length) (vl B30 out):=
       Nn.of_blk hb hk3 (by rw[HLO.out]at hk3;exact hk3) hnz3 ho (hv3 _)
      have hk3':k3=dg B30 (vl B30 out):=by
       have h1:=Wf.len (b:=B30) aK (xs:=out.take k3) ⟨aT ho,hnz3⟩;rw[hv3,List.length_take,Nat.min_eq_left hk3]at h1;exact h1
      generalize vl B30 out=G at*
      have HK:=hZ hk3';have HF:=hZ hfin;clear hk3' hfin hv3 hnz3 hk3 hb;clear hd0;have hqq:=hq.trans hq2;go_wp2_with fail
      rcases Nat.eq_zero_or_pos G with hG|hG
      ·have hk0:k3≤0:=(by rw[HK.out,hG,aX];exact Nat.le_refl _);have hr0:0<r:=(by have:=HF.out;rw[hG]at this;omega);have hrg:gk=r:=(by have:=HF.out;rw[hG]at this;omega);have HRG:=hZ hrg;have HGZ:=hZ hG;clear hrg hG;obtain⟨wo,rfl⟩:∃wo:World,wo=wr:=⟨_,rfl⟩
       go_loopw [5,7,8] (fun rv pv iv w4=>∃(i q:Nat) (p:ByteArray),i≤9∧iv=.int .i64 (i:Int)∧rv=.int .i64 (q:Int)∧pv=.string p∧q=r/10^i∧q<1000000000∧(0<q∧dec r=dec q++p.data.toList∨q=0∧dec r=p.data.toList)∧p.size=i∧Q wo w4) (fun _ _ iv _=>9-(intOf iv).toNat)
       case atStart=>exact⟨0,r,ByteArray.empty,by omega,rfl,rfl,rfl,by simp,hr,Or.inl ⟨hr0,by simp⟩,rfl,Q.refl _⟩
       case round=>
        obtain⟨i,q,p,hi,rfl,rfl,rfl,hq0,hq9,hp,hps,hq4⟩:=hrel;have HQ:=hZ hq0;have HP:=hZ hp;have HPS:=hZ hps;clear hq0 hp hps;have hq00:9≤i→q=0:=by
         intro h;obtain rfl:i=9:=(by omega);rw[HQ.out];exact Nat.div_eq_of_lt hr
        rcases Nat.eq_zero_or_pos q with hqz|hqz
        ·have hps9:p.size≤9:=(by rw[HPS.out];exact hi);have hdr:dec r=p.data.toList:=by
          rcases HP.out with⟨h,_⟩|⟨_,h⟩
          ·omega
          ·exact h
         have hnew:dec N=(p++t).data.toList:=by
          rw[ByteArray.data_append,Array.toList_append,←hdr,←HRG.out];rcases HDEC.out with⟨_,h⟩|⟨h,_⟩
          ·exact h
          ·omega
         have hsz:(p++t).size≤10995116277760:=by
          have h1:=congrArg List.length hnew;rw[jI,if_neg (by omega)]at h1;have h3:(p++t).data.toList.length=(p++t).size:=(by rw[Array.length_toList];rfl);have h2:dg 10 N≤10*dg B30 N:=by
           refine gI (by decide) ?_;rw[Nat.pow_mul];exact Nat.lt_of_lt_of_le (bD aK N) (Nat.pow_le_pow_left (by decide) _)
          omega
         have hG4:Nr wr (.slice (some ⟨w1.heap.size,0,none⟩) k3 ds.length) 0:=by
          have:=hqv.q hq4
          rwa [HGZ.out]at this
         have HN:=hZ hnew;clear hnew hdr hq00;subst hqz;by_cases h9:i<9;all_goals
          go_wp2_with fail
          go_roundg 0
          case measure=>exact hg
          case rel=>exact⟨p++t,rfl,hsz,hG4,by rw[aX];omega,Or.inr ⟨rfl,HN.out⟩,hqq.trans hq4⟩
        ·have h9:i<9:=by
          rcases Nat.lt_or_ge i 9 with h|h
          ·exact h
          ·have:=hq00 h;omega
         clear hq00;have hcv:=aKP;have hs1:(strOfNums [48+(q:Int) % 10]).size≤1:=Nat.le_of_eq (nA _);have hps9:p.size≤9:=(by rw[HPS.out];exact hi);have hdg:=aG4 (q % 10) p (48+(q:Int) % 10) (by omega);have hq2':q/10=r/10^(i+1):=(by rw[HQ.out,Nat.pow_succ,Nat.div_div_eq_div_mul]);have hdr:dec r=dec q++p.data.toList:=by
          rcases HP.out with⟨_,h⟩|⟨h,_⟩
          ·exact h
          ·omega
         have hstep:0<q/10∧dec r=dec (q/10)++(dig (q % 10)::p.data.toList)∨q/10=0∧dec r=dig (q % 10)::p.data.toList:=by
          rcases Nat.lt_or_ge q 10 with h|h
          ·refine Or.inr ⟨by omega,?_⟩;rw[hdr,gJ h,Nat.mod_eq_of_lt h];rfl
          ·refine Or.inl ⟨by omega,?_⟩;rw[hdr,qU h,List.append_assoc];rfl
         rw[←hdg]at hstep;have HST:=hZ hstep;have HQ2:=hZ hq2';clear hdg hq2' hstep hdr;go_wp2_with fail
         refine⟨⟨i+1,q/10,strOfNums [48+(q:Int) % 10]++p,by omega,by go_num,congrArg (Value.int _) (by omega),rfl,HQ2.out,by omega,HST.out,?_,hq4.alloc _⟩,by simp[intOf];omega⟩;rw[ByteArray.size_append,nA,HPS.out];omega
      ·have hk0:0<k3:=by
        rw[HK.out];rcases Nat.eq_zero_or_pos (dg B30 G) with h|h
        ·have:=bK aK h;omega
        ·exact h
       obtain⟨wo,rfl⟩:∃wo:World,wo=wr:=⟨_,rfl⟩
       go_loopw [5,7,8] (fun rv pv iv w4=>∃(i q:Nat) (p:ByteArray),i≤9∧iv=.int .i64 (i:Int)∧rv=.int .i64 (q:Int)∧pv=.string p∧q=r/10^i∧q<1000000000∧p.data.toList=pd i r∧p.size=i∧Q wo w4) (fun _ _ iv _=>9-(intOf iv).toNat)
       case atStart=>exact⟨0,r,ByteArray.empty,by omega,rfl,rfl,rfl,by simp,hr,rfl,rfl,Q.refl _⟩
       case round=>
        obtain⟨i,q,p,hi,rfl,rfl,rfl,hq0,hq9,hp,hps,hq4⟩:=hrel;have HQ:=hZ hq0;have HP:=hZ hp;have HPS:=hZ hps;clear hq0 hp hps;by_cases h9:i<9
        ·have hcv:=aKP;have hs1:(strOfNums [48+(q:Int) % 10]).size≤1:=Nat.le_of_eq (nA _);have hps9:p.size≤9:=(by rw[HPS.out];exact hi);have hdg:=aG4 (q % 10) p (48+(q:Int) % 10) (by omega);have hq2':q/10=r/10^(i+1):=(by rw[HQ.out,Nat.pow_succ,Nat.div_div_eq_div_mul]);have HDG:=hZ hdg;have HQ2:=hZ hq2';clear hdg hq2';go_wp2_with fail
         refine⟨⟨i+1,q/10,strOfNums [48+(q:Int) % 10]++p,by omega,by go_num,congrArg (Value.int _) (by omega),rfl,HQ2.out,by omega,?_,?_,hq4.alloc _⟩,by simp[intOf];omega⟩
         ·rw[HDG.out,HP.out,pd_succ',HQ.out]
         ·rw[ByteArray.size_append,nA,HPS.out];omega
        ·obtain rfl:i=9:=(by omega);have hps9:p.size≤9:=(by rw[HPS.out];exact Nat.le_refl _);have hnew:dec N=dec G++(p++t).data.toList:=by
          rw[ByteArray.data_append,Array.toList_append,HP.out,←List.append_assoc,←aI5 hG 9 r hr,show G*10^9+r=gk from HF.out.symm];rcases HDEC.out with⟨_,h⟩|⟨h,_⟩
          ·exact h
          ·omega
         have hsz:(p++t).size≤10995116277760:=by
          have h1:=congrArg List.length hnew;rw[List.length_append,jI,if_neg (by omega)]at h1;have h3:(p++t).data.toList.length=(p++t).size:=(by rw[Array.length_toList];rfl);have h2:dg 10 N≤10*dg B30 N:=by
           refine gI (by decide) ?_;rw[Nat.pow_mul];exact Nat.lt_of_lt_of_le (bD aK N) (Nat.pow_le_pow_left (by decide) _)
          omega
         have hGk:G<gk:=(by have:=HF.out;omega);have hlG:dg B30 G+1≤1099511627776:=(by have:=bJ aK (Nat.le_of_lt hGk);omega);have HN:=hZ hnew;clear hnew;go_wp2_with fail
         go_roundg G
         case measure=>exact hGk
         case rel=>exact⟨p++t,rfl,hsz,hqv.q hq4,hlG,Or.inl ⟨hG,HN.out⟩,hqq.trans hq4⟩
theorem aKR(s:ByteArray)(w:World)(hd:dH s.data.toList)(hs:s.size+80≤LIM):
  Calls Tryz.prog 105 #[.string s] w (oK (dv s.data.toList) w):=by
 rw[aB]at hs;obtain⟨L,hL⟩:∃L,L=s.data.toList:=⟨_,rfl⟩
 have hLs:L.length=s.size:=by rw[hL,Array.length_toList];rfl
 rw[←hL]at hd⊢;have HL:=hZ hL;have HLs:=hZ hLs;clear hL hLs;go_enter Tryz.func105,Tryz.ntmps105
 go_wp2_with fail
 go_loopw [0,3] (fun sv ov w1=>∃(t:ByteArray) (k:Nat),sv=.string t∧k≤s.size∧t.data.toList=L.drop k∧t.size=s.size-k∧Nr w1 ov (dv (L.take k))∧Q w w1∧Nw w.heap.size ov) (fun sv _ _=>match sv with| .string t=>t.size|_=>0)
 case atStart=>exact⟨s,0,rfl,by omega,by rw[HL.out];rfl,by omega,Nn.zero _ _,Q.refl _,Nw.nil⟩
 case round=>
  obtain⟨t,k,rfl,hk,ht,hts,hov,hq,hnw⟩:=hrel;have HT:=hZ ht;have HTS:=hZ hts;clear ht hts;have hts2:t.size≤1099511627776:=(by have:=HTS.out;omega);rcases Nat.eq_zero_or_pos t.size with h0|h0
  ·go_wp2_with fail
   go_ret
   have e:k=s.size:=(by have:=HTS.out;omega);rw[List.take_of_length_le (by rw[HLs.out];omega)]at hov;exact⟨_,rfl,hov,hq,hnw⟩
  ·obtain⟨n,hn⟩:∃n,n=min t.size 9:=⟨_,rfl⟩
   have hn1:n≤9:=(by omega);have hn2:n≤t.size:=(by omega);have hn3:0<n:=(by omega);have hcase:t.size<9∧t.size≤n∨9≤t.size∧t.size≤9∧9≤n∨9<t.size∧9≤n:=(by omega);clear hn;have HD:dH (t.data.toList):=(by rw[HT.out];exact hd.drop k);have HTL:t.data.toList.length=t.size:=(by rw[Array.length_toList];rfl);have HTL:=hZ HTL;rcases hcase with⟨h9,h9a⟩|⟨h9,h9b,h9a⟩|⟨h9,h9a⟩
   all_goals
    go_wp2_with fail
    obtain⟨wo,rfl⟩:∃wo:World,wo=wr:=⟨_,rfl⟩
    go_loop [5,6,7] (fun pv fv iv=>∃(i p f:Nat),i≤n∧iv=.int .i64 (i:Int)∧pv=.int .i64 (p:Int)∧fv=.int .i64 (f:Int)∧p=dv (t.data.toList.take i)∧f=10^i∧p<f∧f≤1000000000) (fun _ _ iv=>n-(intOf iv).toNat)
    case atStart=>exact⟨0,0,1,by omega,rfl,rfl,rfl,rfl,rfl,by omega,by omega⟩
    case round=>
     obtain⟨i,p,f,hi,rfl,rfl,rfl,hp,hf,hpf,hf9⟩:=hrel;have HP:=hZ hp;have HF:=hZ hf;clear hp hf;by_cases hlt:i<n
     ·have hit:i<t.size:=(by omega);have hc:=HD (t[i]) (by rw[show t[i]=t.data.toList[i]'(by rw[HTL.out];exact hit) from by simp;rfl];exact List.getElem_mem _);have hei:t.data.toList[i]'(by rw[HTL.out];exact hit)=t[i]:=(by simp;rfl);have hp2:10*p+(t[i].toNat-48)=dv (t.data.toList.take (i+1)):=by
       rw[yH (by rw[HTL.out];exact hit),hei,←HP.out]
      have hf2:10*f=10^(i+1):=(by rw[Nat.pow_succ,←HF.out,Nat.mul_comm]);have hf3:10^(i+1)≤10^9:=Nat.pow_le_pow_right (by decide) (by omega);have hf4:10*f≤1000000000:=(by rw[hf2];exact hf3);have HP2:=hZ hp2;have HF2:=hZ hf2;clear hp2 hf2 hf3 hei;go_wp2_with fail
      exact⟨⟨i+1,10*p+(t[i].toNat-48),10*f,by omega,by go_num,congrArg (Value.int _) (by omega),congrArg (Value.int _) (by omega),HP2.out,HF2.out,by omega,hf4⟩,by simp[intOf];omega⟩
     ·obtain rfl:i=n:=(by omega);have lval:dg B30 (dv (L.take k))+1≤LIM:=by
       have h1:dg B30 (dv (L.take k))≤(L.take k).length:=by
        refine gI aK (Nat.lt_of_lt_of_le (aAe (hd.take k)) (Nat.pow_le_pow_left (by decide) _))
       rw[List.length_take,HLs.out]at h1;rw[aB];omega
      have lf:dg B30 f≤1:=gI aK (by rw[Nat.pow_one,aW];omega);have lp:dg B30 p≤1:=gI aK (by rw[Nat.pow_one,aW];omega);have lmul:=bQ aK (dv (L.take k)) f;have lks:dg B30 (dv (L.take k))+10≤LIM:=by
       have h1:dg B30 (dv (L.take k))≤(L.take k).length:=by
        refine gI aK (Nat.lt_of_lt_of_le (aAe (hd.take k)) (Nat.pow_le_pow_left (by decide) _))
       rw[List.length_take,HLs.out]at h1;rw[aB];omega
      have hval:dv (L.take k)*f+p=dv (L.take (k+i)):=by
       rw[List.take_add,aI4,←HT.out,←HP.out,HF.out,List.length_take,HTL.out,Nat.min_eq_left hn2]
      have HV:=hZ hval;clear hval;go_wp2_with fail
      refine (aAJ _ f _ rfl (by omega)).mono ?_;rintro e w2 ⟨vf,rfl,hvf,hq2,-⟩;go_wp2_with fail
      refine (aCT _ _ _ f _ (hov.q hq2) hvf (by omega)).mono ?_;rintro e w3 ⟨vt,rfl,hvt,hq3,-⟩;go_wp2_with fail
      refine (aAJ _ p _ rfl (by omega)).mono ?_;rintro e w4 ⟨vp,rfl,hvp,hq4,-⟩;go_wp2_with fail
      refine (aKN _ _ _ p _ (hvt.q hq4) hvp (by omega) (by omega)).mono ?_;rintro e w5 ⟨vs,rfl,hvs,hq5,hnw5⟩;have hqq:=((hq2.trans hq3).trans hq4).trans hq5;have hnw6:Nw w.heap.size vs:=hnw5.more (by have:=hq.size;have:=hq2.size;have:=hq3.size;have:=hq4.size;omega);rw[HV.out]at hvs;clear lmul hvt hvp hvf;have hkk:k+i≤s.size:=(by have:=HTS.out;omega);go_wp2_with fail
      first
      |(refine⟨⟨ByteArray.empty,k+i,rfl,hkk,?_,?_,hvs,hq.trans hqq,hnw6⟩,?_⟩
        ·rw[List.drop_of_length_le (by rw[HLs.out];have:=HTS.out;omega)];rfl
        ·have:=HTS.out;show 0=_;omega
        ·show 0<t.size;omega)
      |(refine⟨⟨t.extract 9 t.size,k+i,rfl,hkk,?_,?_,hvs,hq.trans hqq,hnw6⟩,?_⟩
        ·obtain rfl:i=9:=(by omega);rw[Lib.extract_to_end,HT.out,List.drop_drop]
        ·have:=HTS.out;rw[ByteArray.size_extract];omega
        ·show (t.extract 9 t.size).size<t.size;rw[ByteArray.size_extract];omega)
      |(have hmin:(min (t.size:Int) 9).toNat=i:=by omega
        refine⟨⟨t.extract (min (t.size:Int) 9).toNat t.size,k+i,rfl,hkk,?_,?_,hvs,hq.trans hqq,hnw6⟩,?_⟩
        ·rw[hmin,Lib.extract_to_end,HT.out,List.drop_drop]
        ·have:=HTS.out;rw[hmin,ByteArray.size_extract];omega
        ·show (t.extract (min (t.size:Int) 9).toNat t.size).size<t.size;rw[hmin,ByteArray.size_extract];omega)
theorem aFr{l:List UInt8}{i:Nat}{c b:UInt8}(h:c∉l.take i)(hb:l[i]? =some b)(hn:b≠c):c∉l.take (i+1):=by
 rw[List.take_add_one,hb];simp only[Option.toList_some,List.mem_append,List.mem_singleton,not_or];exact⟨h,fun e=>hn e.symm⟩
end Go.Proofs.YtpobejcofijjdaaGreatDoor
namespace Go.Proofs.YtpobejcofijjdaaGreatDoor.K
open Go.RowKit
open Ma Me
def pX(l:List UInt8):Bool:=l.all (fun c=>decide (48≤c.toNat∧c.toNat≤57)) && !l.isEmpty
theorem xR{l:List UInt8}:pX l=true↔dH l∧l≠[]:=by
 unfold pX dH;cases l<;>simp
theorem aDA{l:List UInt8}{i:Nat}{c:UInt8}{f:UInt8→Bool}(h:(l.take i).all f=true)(hc:l[i]? =some c)(h1:f c=true):(l.take (i+1)).all f=true:=by
 rw[List.take_add_one,hc];simp only[Option.toList_some,List.all_append,h,List.all_cons,h1,List.all_nil,Bool.and_self]
theorem aG5{l:List UInt8}{i:Nat}{c:UInt8}{f:UInt8→Bool}(hc:l[i]? =some c)(h1:f c=false):l.all f=false:=by
 have hm:=List.mem_of_getElem? hc;cases h:l.all f with
 |false=>rfl
 |true=>rw[List.all_eq_true.1 h c hm]at h1;cases h1
theorem sO(s:ByteArray):s.data.toList.length=s.size:=by rw[Array.length_toList];rfl
theorem aMG(s:ByteArray)(w:World)(hs:s.size≤9223372036854775806):Calls Tryz.prog 103 #[.string s] w fun e w'=>e=.returned (.bool (pX s.data.toList))∧Q w w':=by
 go_enter Tryz.func103,Tryz.ntmps103
 go_wp2_with fail
 go_loopw [3] (fun iv w1=>∃i:Nat,iv=.int .i64 (i:Int)∧i≤s.size∧Hid ((s.data.toList.take i).all (fun c=>decide (48≤c.toNat∧c.toNat≤57))=true)∧w1=w) (fun iv _=>s.size-(intOf iv).toNat)
 case atStart=>exact⟨0,rfl,by omega,hZ (by simp),rfl⟩
 case round=>
  obtain⟨i,rfl,hi,hall,rfl⟩:=hrel;by_cases hp:i<s.size
  ·have h1:(i:Int)<(s.size:Int):=(by omega);have h0:(0:Int)≤(i:Int):=(by omega);have hby:=byte_at hp;have h2:(i:Int).toNat=i:=rfl;generalize hb:s[i]'hp=b at*
   have HBY:=hZ hby;clear hby;by_cases hlo:b.toNat<48
   ·have hl2:(b.toNat:Int)<48:=(by omega);have HY:=hZ (aG5 (f:=fun c=>decide (48≤c.toNat∧c.toNat≤57)) HBY.out (decide_eq_false (by omega)));clear hlo;go_wp2_with fail
    go_ret
    exact⟨by unfold pX;rw[HY.out];rfl,Q.refl _⟩
   ·by_cases hhi:57<b.toNat
    ·have hl2:¬(b.toNat:Int)<48:=(by omega);have hl3:(57:Int)<(b.toNat:Int):=(by omega);have HY:=hZ (aG5 (f:=fun c=>decide (48≤c.toNat∧c.toNat≤57)) HBY.out (decide_eq_false (by omega)));clear hlo hhi;go_wp2_with fail
     go_ret
     exact⟨by unfold pX;rw[HY.out];rfl,Q.refl _⟩
    ·have hl2:¬(b.toNat:Int)<48:=(by omega);have hl3:¬(57:Int)<(b.toNat:Int):=(by omega);have HN:=hZ (aDA hall.out HBY.out (decide_eq_true (by omega)));clear hlo hhi;go_wp2_with fail
     exact⟨⟨i+1,rfl,by omega,HN,trivial⟩,by simp[intOf];omega⟩
  ·have h1:¬(i:Int)<(s.size:Int):=(by omega);have hno2:pX s.data.toList=decide (0<s.size):=by
    have h:=hall.out;rw[List.take_of_length_le (by rw[sO];omega)]at h;unfold pX;rw[h,Bool.true_and];have:=sO s;cases e:s.data.toList with
    |nil=>rw[e]at this;simp only[List.length_nil]at this;simp[←this]
    |cons a r=>rw[e]at this;simp only[List.length_cons]at this;rw[decide_eq_true (by omega)];rfl
   have HY:=hZ hno2;clear hno2;go_wp2_with fail
   go_ret
   exact⟨by rw[HY.out];simp,Q.refl _⟩
theorem aCQ{l:List UInt8}{c:UInt8}{i:Nat}(h:c∉l.take i)(hb:l[i]? =some c):fI c l=l.take i∧aft c l=l.drop (i+1)∧c∈l:=by
 have hlt:i<l.length:=(List.getElem?_eq_some_iff.1 hb).1;have e:l=l.take i++c::l.drop (i+1):=by
  conv=>lhs;rw[←List.take_append_drop i l]
  rw[List.drop_eq_getElem_cons hlt];rw[(List.getElem?_eq_some_iff.1 hb).2]
 obtain⟨h1,h2⟩:=fore_of' (c:=c) (f:=l.take i) (l.drop (i+1)) h;rw[←e]at h1 h2;exact⟨h1,h2,List.mem_of_getElem? hb⟩
theorem zQ{l:List UInt8}{c:UInt8}(h:c∉l):fI c l=l∧aft c l=[]:=by
 rcases wQ c l with⟨_,h1,h2⟩|⟨h1,_⟩
 ·exact⟨h1,h2⟩
 ·exact absurd h1 h
theorem aPd(s:ByteArray)(c:UInt8)(bt:Bool)(w:World)(hbt:decide (c∈s.data.toList)=bt)(hs:s.size≤9223372036854775806):Calls Tryz.prog 102 #[.string s,.int .u8 (c.toNat:Int)] w fun e w'=>
  ∃f r:ByteArray,e=.returned (.tuple #[.string f,.string r,.bool bt])∧f.data.toList=fI c s.data.toList∧r.data.toList=aft c s.data.toList∧f.size≤s.size∧r.size≤s.size∧Q w w':=by
 go_enter Tryz.func102,Tryz.ntmps102
 go_wp2_with fail
 go_loopw [7] (fun iv w1=>∃i:Nat,iv=.int .i64 (i:Int)∧i≤s.size∧Hid (c∉s.data.toList.take i)∧w1=w) (fun iv _=>s.size-(intOf iv).toNat)
 case atStart=>exact⟨0,rfl,by omega,hZ (by simp),rfl⟩
 case round=>
  obtain⟨i,rfl,hi,hno,rfl⟩:=hrel;by_cases hp:i<s.size
  ·have h1:(i:Int)<(s.size:Int):=(by omega);have h0:(0:Int)≤(i:Int):=(by omega);have hby:=byte_at hp;have h2:(i:Int).toNat=i:=rfl;generalize hb:s[i]'hp=b at*
   have HBY:=hZ hby;clear hby;by_cases hc:b=c
   ·subst hc;obtain⟨e1,e2,e3⟩:=aCQ hno.out HBY.out;have hbt1:bt=true:=(by rw[←hbt];exact decide_eq_true e3);subst hbt1;clear hbt e3;have E1:=hZ e1;have E2:=hZ e2;clear e1 e2;have h3:(i:Int)≤(s.size:Int):=(by omega);have h4:(0:Int)≤(i:Int)+1:=(by omega);have h5:(i:Int)+1≤(s.size:Int):=(by omega);go_wp2_with fail
    go_region
    go_wp2_with fail
    refine bodyPost_ret (v:=.tuple #[.string (s.extract 0 i),.string (s.extract (i+1) s.size),.bool true]) (by simp[results,Tryz.results102,go_sem]) rfl ?_;exact⟨s.extract 0 i,s.extract (i+1) s.size,rfl,by rw[E1.out];simp,by rw[E2.out,Lib.extract_to_end],by simp;try omega,by simp,(Q.refl _).drew⟩
   ·have hn:¬(b.toNat:Int)=(c.toNat:Int):=fun h=>hc (UInt8.toNat_inj.1 (by omega));have HN:=hZ (aFr hno.out HBY.out hc);clear hc;go_wp2_with fail
    exact⟨⟨i+1,rfl,by omega,HN,trivial⟩,by simp[intOf];omega⟩
  ·have h1:¬(i:Int)<(s.size:Int):=(by omega);have hno2:c∉s.data.toList:=by
    have h:=hno.out
    rwa [List.take_of_length_le (by rw[sO];omega)]at h
   have hbt1:bt=false:=(by rw[←hbt];exact decide_eq_false hno2);subst hbt1;clear hbt;have HY:=hZ hno2;clear hno2;go_wp2_with fail
   refine bodyPost_ret (v:=.tuple #[.string s,.string ⟨#[]⟩,.bool false]) (by simp[results,Tryz.results102,go_sem]) rfl ?_;exact⟨s,⟨#[]⟩,rfl,(zQ HY.out).1.symm,(zQ HY.out).2.symm,Nat.le_refl _,Nat.zero_le _,Q.refl _⟩
theorem aMH(s:ByteArray)(sg:Int)(w:World)(hsg:(if fQ s.data.toList then -1 else 1)=sg)(_:s.size≤9223372036854775806):Calls Tryz.prog 101 #[.string s] w fun e w'=>
  ∃f:ByteArray,e=.returned (.tuple #[.string f,.int .i64 sg])∧f.data.toList=unsigned s.data.toList∧f.size≤s.size∧Q w w':=by
 by_cases hp:0<s.size
 ·have h1:(0:Int)<(s.size:Int):=(by omega);have hby:=byte_at hp;generalize hb:s[0]'hp=b at*
  have hh:s.data.toList.head? =some b:=(by rw[←hby,List.head?_eq_getElem?]);by_cases hc:b=45
  ·subst hc;have hn:fQ s.data.toList=true:=(by unfold fQ;rw[hh];rfl);have h3:(1:Int)≤(s.size:Int):=(by omega);obtain rfl:-1=sg:=(by rw[←hsg,hn];rfl);clear hsg;have HN:=hZ hn;clear hn hby hh;go_enter Tryz.func101,Tryz.ntmps101
   go_wp2_with fail
   refine bodyPost_ret (v:=.tuple #[.string (s.extract 1 s.size),.int .i64 (-1)]) (by simp[results,Tryz.results101,go_sem]) rfl ?_;exact⟨_,rfl,by rw[Lib.extract_to_end];unfold unsigned;rw[if_pos HN.out,List.drop_one],by simp,Q.refl _⟩
  ·have hn:fQ s.data.toList=false:=(by unfold fQ;rw[hh];simpa using hc);have hn3:¬(b.toNat:Int)=45:=fun h=>hc (UInt8.toNat_inj.1 (by have:(45:UInt8).toNat=45:=rfl;omega));obtain rfl:1=sg:=(by rw[←hsg,hn];rfl);clear hsg;have HN:=hZ hn;clear hn hby hh hc;go_enter Tryz.func101,Tryz.ntmps101
   go_wp2_with fail
   refine bodyPost_ret (v:=.tuple #[.string s,.int .i64 1]) (by simp[results,Tryz.results101,go_sem]) rfl ?_;exact⟨_,rfl,by unfold unsigned;rw[HN.out];rfl,Nat.le_refl _,Q.refl _⟩
 ·have h1:¬(0:Int)<(s.size:Int):=(by omega);have e:s.data.toList=[]:=List.eq_nil_of_length_eq_zero (by rw[sO];omega);have hn:fQ s.data.toList=false:=(by rw[e];rfl);obtain rfl:1=sg:=(by rw[←hsg,hn];rfl);clear hsg;have HN:=hZ hn;clear hn e;go_enter Tryz.func101,Tryz.ntmps101
  go_wp2_with fail
  refine bodyPost_ret (v:=.tuple #[.string s,.int .i64 1]) (by simp[results,Tryz.results101,go_sem]) rfl ?_;exact⟨_,rfl,by unfold unsigned;rw[HN.out];rfl,Nat.le_refl _,Q.refl _⟩
end Go.Proofs.YtpobejcofijjdaaGreatDoor.K
