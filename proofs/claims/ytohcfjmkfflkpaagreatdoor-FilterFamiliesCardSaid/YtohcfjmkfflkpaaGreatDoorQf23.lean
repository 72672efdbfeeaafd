/- FilterFamilies holds. No condition. -/
import Derived.Deep.DeepHandedRow
import Derived.LaidMore
import Derived.Lay
import Derived.OpenShut
import Derived.ProofKit
import Derived.Test.YtohcfjmkfflkpaaGreatDoorCards
import Derived.Test.YtohcfjmkfflkpaaGreatDoorTie
import Derived.Test.YtohcfjmkfflkpaaGreatDoorQf22
set_option maxHeartbeats 20000000
set_option maxRecDepth 100000
namespace Go.Proofs.YtohcfjmkfflkpaaGreatDoor
namespace J
open Go Go.RowKit
open Ma Me K E Po
section
variable {W0:World} {xs:List Rat} {w b x:Rat}
theorem aUa:(((1:Nat):Int):Rat)*w⁻¹=w⁻¹:=Rat.one_mul _
theorem aNz(hl:xs.length≤60)(hz:∀i,Ma.sz (cf xs i)≤80)(hw:Ma.sz w≤80):Fx (F2 W0) 13 [.l 45 xs.length (CR xs),.v (rm w)] (.r [.l 45 (dnS xs w).1.length (CR (dnS xs w).1),.a false [.i .i64 (dnS xs w).2]]):=by
 have lim:aJ=1000000000:=rfl;have zS:∀i,Ma.sz (cf xs i)≤aJ:=fun i=>Nat.le_trans (hz i) (by rw[lim];decide);have wS:Ma.sz w≤aJ:=by omega
 have hL:=aGm (W0:=W0) (xs:=xs) (by omega) zS;unfold dnS;by_cases h1:41<(ct xs).length
 ·rw[decide_eq_true h1]at hL;rw[if_pos h1];exact Fx.by_ tG aV Tryz.func13 rfl (by kernel_rfl) (by kernel_rfl) rfl ⟨_,hL,bt ⟨⟨rfl,rfl⟩,rfl,trivial⟩⟩
 ·rw[decide_eq_false h1]at hL;rw[if_neg h1];by_cases h2:0<w
  ·rw[if_pos h2];have hO:=aLB (W0:=W0) (x:=(((1:Nat):Int):Rat)) (aLF h2) (Nat.le_trans qG (by rw[lim];decide)) wS;rw[aUa]at hO;exact Fx.by_ tG aV Tryz.func13 rfl (by kernel_rfl) (by kernel_rfl) rfl ⟨_,hL,bf ⟨_,iQ wS,dt (fun h=>absurd h2 (jN.1 h)) fun _=>⟨by kernel_rfl,_,pJ,_,hO,_,aNy hl hz (by have:=rV w;omega),⟨rfl,rfl,rfl⟩,rfl,trivial⟩⟩⟩
  ·rw[if_neg h2];exact Fx.by_ tG aV Tryz.func13 rfl (by kernel_rfl) (by kernel_rfl) rfl ⟨_,hL,bf ⟨_,iQ wS,dt (fun _=>⟨⟨rfl,rfl⟩,rfl,trivial⟩) fun h=>absurd (jN.2 h2) h⟩⟩
theorem aSU(hl:xs.length≤60)(hz:∀i,Ma.sz (cf xs i)≤80):Fx (F2 W0) 15 [.l 45 xs.length (CR xs)] (.r [.l 45 (hiS xs).1.length (CR (hiS xs).1),.a false [.i .i64 (hiS xs).2]]):=by
 have lim:aJ=1000000000:=rfl;have zS:∀i,Ma.sz (cf xs i)≤aJ:=fun i=>Nat.le_trans (hz i) (by rw[lim];decide);have hL:=aGm (W0:=W0) (xs:=xs) (by omega) zS;have hR:=qE (W0:=W0) (xs:=xs) (by omega) zS;have hc:=fG xs;unfold hiS;by_cases h1:41<(ct xs).length
 ·rw[decide_eq_true h1]at hL;rw[if_pos h1];exact Fx.by_ tG aV Tryz.func15 rfl (by kernel_rfl) (by kernel_rfl) rfl ⟨_,hL,bt ⟨⟨rfl,rfl⟩,rfl,trivial⟩⟩
 ·rw[decide_eq_false h1]at hL;rw[if_neg h1];by_cases h2:(ct xs).length=0
  ·rw[if_pos h2];exact Fx.by_ tG aV Tryz.func15 rfl (by kernel_rfl) (by kernel_rfl) rfl ⟨_,hL,bf ⟨_,hR,dt (fun _=>⟨⟨rfl,rfl⟩,rfl,trivial⟩) fun h=>absurd (show (((ct xs).length:Nat):Int)=0 by omega) h⟩⟩
  ·rw[if_neg h2];unfold hiL;have hat:∀i,i<(ct xs).length→(CR (ct xs))[i]? =some (encR (cf xs i)):=fun i hi=>(by rw[←gV];exact pK (iA hi));obtain⟨N,hN⟩:∃N,(ct xs).length=N:=⟨_,rfl⟩
   obtain⟨p,hp⟩:∃p,ct xs=p:=⟨_,rfl⟩
   rw[hp]at hR hat hN hc h1 h2;rw[hp,hN];rw[hN]at hR hat hc h1 h2;obtain⟨g,hg⟩:∃g:Nat→Rat,(fun i=>cf xs (N-1-i))=g:=⟨_,rfl⟩
   have hgi:∀j m,j+(m+1)=N→cf xs m=g j:=fun j m e=>(by rw[←hg];show cf xs m=cf xs (N-1-j);rw[show N-1-j=m by omega]);rw[hg];have hT:=qE (W0:=W0) (xs:=mkP N g) (by rw[bH];omega) (fun i=>by
    rw[fT];split
    ·rw[←hg];exact zS _
    ·exact sz0)
   rw[bH]at hT;refine Fx.by_ tG aV Tryz.func15 rfl (by kernel_rfl) (by kernel_rfl) rfl ⟨_,hL,bf ⟨_,hR,dt (fun h=>absurd h (show ¬((N:Nat):Int)=0 by omega)) fun _=>⟨⟨by omega,by omega⟩,{q:Nat × Nat // q.1+q.2=N},fun q=>gro 4 q.1.1 [(0,.l 45 .nw N (CR p)),(5,.a (sc (.i .i64 ((q.1.2:Int)-1))))] [] g,fun q=>q.1.2,⟨⟨(0,N),Nat.zero_add N⟩,[],rfl,rfl,rfl,rfl,rfl,trivial⟩,fun q=>?_⟩⟩⟩;obtain⟨⟨j,m⟩,hjm⟩:=q;have hjm:j+m=N:=hjm;cases j with
   |zero=>
    refine dt (fun h=>?_) fun h=>?_
    ·obtain⟨m,rfl⟩:∃k,m=k+1:=⟨m-1,by have h:(0:Int)≤(m:Int)-1:=h;omega⟩
     exact⟨m,(show ((m+1:Nat):Int)-1=(m:Int) by omega),_,hat m (by omega),(by decide),aJf (k:=m) (by omega),⟨(1,m),by omega⟩,Nat.lt_succ_self m,[true,false],rfl,g1 (hgi 0 m hjm),rfl,rfl,yk,trivial⟩
    ·obtain rfl:m=0:=(by have h:¬(0:Int)≤(m:Int)-1:=h;omega);exact absurd (show N=0 by omega) h2
   |succ j=>
    refine dt (fun h=>?_) fun h=>?_
    ·obtain⟨m,rfl⟩:∃k,m=k+1:=⟨m-1,by have h:(0:Int)≤(m:Int)-1:=h;omega⟩
     exact⟨m,(show ((m+1:Nat):Int)-1=(m:Int) by omega),_,hat m (by omega),⟨(show (j+1+1)*56<_ by omega),(show j+1+1<_ by omega)⟩,aJf (k:=m) (by omega),⟨(j+2,m),by omega⟩,Nat.lt_succ_self m,[true,false,false],rfl,g2 (hgi (j+1) m hjm),rfl,rfl,yk,trivial⟩
    ·obtain rfl:m=0:=(by have h:¬(0:Int)≤(m:Int)-1:=h;omega);obtain rfl:N=j+1:=(by omega);exact⟨_,hT,⟨rfl,rfl,rfl⟩,rfl,trivial⟩
theorem aLG{p x y:List Rat}{n B:Nat}(hB:∀k,(bL (pwP x k) (pwP y (n-k))).length≤B∨n<k):∀k,k≤n+1→(baP p x y n k).length≤B
 |0,_=>Nat.zero_le _
 |k+1,h=>by
  have h1:=aLG (p:=p) hB k (by omega);have h2:=aLu (baP p x y n k) (fK (bL (pwP x k) (pwP y (n-k))) (cf p k));have h3:=aCy (bL (pwP x k) (pwP y (n-k))) (cf p k);have h4:=(hB k).resolve_right (by omega);rw[show baP p x y n (k+1)=lK (baP p x y n k) (fK (bL (pwP x k) (pwP y (n-k))) (cf p k)) from rfl];omega
def bdS(xs p:List Rat)(w b:Rat)(m k:Nat):List (Nat × Y) × List W:=match k with
 |0=>([(0,.l 45 .nw (m+1) (CR p)),(4,.p 0 0),(5,.p 1 0),(8,.a (sc (.i .i64 (((m+1:Nat):Int)-1)))),(10,.a (sc (.i .i64 ((0:Nat):Int)))),(9,.a (sc .ns))],[.c ⟨45,encR w⟩,.c ⟨45,encR b⟩])
 |k+1=>([(0,.l 45 .nw (m+1) (CR p)),(4,.p 0 0),(5,.p 1 0),(8,.a (sc (.i .i64 (((m+1:Nat):Int)-1)))),(10,.a (sc (.i .i64 ((k+1:Nat):Int)))),(9,.l 45 .nw (baP xs [w,0,1] [0,b] m (k+1)).length (CR (baP xs [w,0,1] [0,b] m (k+1))))],[.c ⟨45,encR w⟩,.c ⟨45,encR b⟩])
theorem aSV(hl:xs.length≤60)(hz:∀i,Ma.sz (cf xs i)≤80)(hb:Ma.sz b≤80)(hw:Ma.sz w≤80):Fx (F2 W0) 17 [.l 45 xs.length (CR xs),.v (rm b),.v (rm w)] (.r [.l 45 (baS xs b w).1.length (CR (baS xs b w).1),.a false [.i .i64 (baS xs b w).2]]):=by
 have lim:aJ=1000000000:=rfl;have zS:∀i,Ma.sz (cf xs i)≤aJ:=fun i=>Nat.le_trans (hz i) (by rw[lim];decide);have wS:Ma.sz w≤aJ:=by omega
 have bS:Ma.sz b≤aJ:=by omega
 have hL:=aGm (W0:=W0) (xs:=xs) (by omega) zS;have hR:=qE (W0:=W0) (xs:=xs) (by omega) zS;have hc:=fG xs;unfold baS;by_cases h1:41<(ct xs).length
 ·rw[decide_eq_true h1]at hL;rw[if_pos h1];exact Fx.by_ tG aV Tryz.func17 rfl (by kernel_rfl) (by kernel_rfl) rfl ⟨_,hL,bt ⟨⟨rfl,rfl⟩,rfl,trivial⟩⟩
 ·rw[decide_eq_false h1]at hL;rw[if_neg h1];by_cases hb0:0<b
  ·by_cases hw0:0<w
   ·rw[if_pos ⟨hb0,hw0⟩];by_cases h2:(ct xs).length=0
    ·rw[if_pos h2];exact Fx.by_ tG aV Tryz.func17 rfl (by kernel_rfl) (by kernel_rfl) rfl ⟨_,hL,bf ⟨_,iQ bS,dt (fun h=>absurd hb0 (jN.1 h)) fun _=>⟨_,iQ wS,dt (fun h=>absurd hw0 (jN.1 h)) fun _=>⟨_,hR,⟨by omega,by omega⟩,dt (fun _=>⟨⟨rfl,rfl⟩,rfl,trivial⟩) fun h=>absurd (show (((ct xs).length:Nat):Int)-1<0 by omega) h⟩⟩⟩⟩
    ·rw[if_neg h2];by_cases h3:21<(ct xs).length
     ·rw[if_pos h3];exact Fx.by_ tG aV Tryz.func17 rfl (by kernel_rfl) (by kernel_rfl) rfl ⟨_,hL,bf ⟨_,iQ bS,dt (fun h=>absurd hb0 (jN.1 h)) fun _=>⟨_,iQ wS,dt (fun h=>absurd hw0 (jN.1 h)) fun _=>⟨_,hR,⟨by omega,by omega⟩,dt (fun h=>absurd h (show ¬(((ct xs).length:Nat):Int)-1<0 by omega)) fun _=>dt (fun _=>⟨⟨rfl,rfl⟩,rfl,trivial⟩) fun h=>absurd (show (20:Int)<(((ct xs).length:Nat):Int)-1 by omega) h⟩⟩⟩⟩
     ·rw[if_neg h3];have hat:∀i,i<(ct xs).length→(CR (ct xs))[i]? =some (encR (cf xs i)):=fun i hi=>(by rw[←gV];exact pK (iA hi));obtain⟨m,hN⟩:∃m,(ct xs).length=m+1:=⟨(ct xs).length-1,by omega⟩
      obtain⟨p,hp⟩:∃p,ct xs=p:=⟨_,rfl⟩
      rw[hp]at hR hat hN;rw[hp,hN];rw[hN]at hR hat;rw[hp,hN]at h3;rw[Nat.add_sub_cancel];have zX:∀j i,j≤20→Ma.sz (cf (pwP [w,0,1] j) i)≤100000:=fun j i hj=>by
       rw[iZ,jD aAo];exact Nat.le_trans (aOq (by omega) (by omega)) (by decide)
      have zY:∀j i,j≤20→Ma.sz (cf (pwP [0,b] j) i)≤100000:=fun j i hj=>by
       rw[iZ,jD kF];exact Nat.le_trans (aJl (by omega) (by omega)) (by decide)
      have lX:=qF (y:=[w,0,1]) (Nat.le_refl 3);have lY:=qF (y:=[0,b]) (Nat.le_refl 2);have hX:∀k,k≤m→Fx (F2 W0) 37 [.l 45 3 [encR w,[.i .i64 0,.r 0,.r 0],encR (((1:Nat):Int):Rat)],.v (sc (.i .i64 (k:Int)))] (.r [.l 45 (pwP [w,0,1] k).length (CR (pwP [w,0,1] k))]):=fun k hk=>by
       rw[←aCs];exact aDi (xs:=[w,0,1]) (L:=3) (by omega) (Nat.le_refl 3) (by decide) (fun i=>by
        rw[aAo];unfold sq2;split
        ·omega
        ·split
         ·exact Nat.le_trans qG (by decide)
         ·exact Nat.le_trans vF (by decide)) fun j i hj=>zX j i (by omega)
      have hY:∀k,k≤m→Fx (F2 W0) 37 [.l 45 2 [[.i .i64 0,.r 0,.r 0],encR b],.v (sc (.i .i64 (((m+1:Nat):Int)-1-(k:Int))))] (.r [.l 45 (pwP [0,b] (m-k)).length (CR (pwP [0,b] (m-k)))]):=fun k hk=>by
       rw[←aCs,show ((m+1:Nat):Int)-1-(k:Int)=((m-k:Nat):Int) by omega];exact aDi (xs:=[0,b]) (L:=2) (by omega) (Nat.le_refl 2) (by decide) (fun i=>by
        rw[kF];exact aAm (by omega) (by decide)) fun j i hj=>zY j i (by omega)
      have hM:∀k,k≤m→Fx (F2 W0) 51 [.l 45 (pwP [w,0,1] k).length (CR (pwP [w,0,1] k)),.l 45 (pwP [0,b] (m-k)).length (CR (pwP [0,b] (m-k)))] (.r [.l 45 (bL (pwP [w,0,1] k) (pwP [0,b] (m-k))).length (CR (bL (pwP [w,0,1] k) (pwP [0,b] (m-k))))]):=fun k hk=>by
       have h1:=lX k;have h2:=lY (m-k);exact aOl (A0:=100000) (B0:=100000) (by omega) (by omega) (fun i=>zX k i (by omega)) (fun i=>zY (m-k) i (by omega)) (by decide) (by omega)
      have zM:∀k i,k≤m→Ma.sz (cf (bL (pwP [w,0,1] k) (pwP [0,b] (m-k))) i)≤7400:=fun k i hk=>by
       rw[nU,eU (fun j=>(iZ k j).trans (jD aAo k j)) (fun j=>(iZ (m-k) j).trans (jD kF (m-k) j)) i];exact aOr (by omega) (by omega) (by omega) (by omega)
      have lM:∀k,(bL (pwP [w,0,1] k) (pwP [0,b] (m-k))).length≤200∨m<k:=fun k=>by
       rcases Nat.lt_or_ge m k with hk|hk
       ·exact .inr hk
       ·have h1:=lX k;have h2:=lY (m-k);have h4:=aCw (pwP [w,0,1] k) (pwP [0,b] (m-k));exact .inl (by omega)
      have lB:=aLG (p:=xs) lM;have zB:∀k i,k≤m+1→Ma.sz (cf (baP xs [w,0,1] [0,b] m k) i)≤aJ:=fun k i hk=>by
       rw[aGp];refine Nat.le_trans (aD5 (B:=7480) fun j hj=>Nat.le_trans (dI _ _) ?_) ?_
       ·have h1:=zM j i (by omega);rw[nU,eU (iZ j) (iZ (m-j)) i]at h1;have h4:=hz j;omega
       ·omega
      have hC:∀k,k≤m→Fx (F2 W0) 53 [.l 45 (bL (pwP [w,0,1] k) (pwP [0,b] (m-k))).length (CR (bL (pwP [w,0,1] k) (pwP [0,b] (m-k)))),.v (rm (cf xs k))] (.r [.l 45 (fK (bL (pwP [w,0,1] k) (pwP [0,b] (m-k))) (cf xs k)).length (CR (fK (bL (pwP [w,0,1] k) (pwP [0,b] (m-k))) (cf xs k)))]):=fun k hk=>by
       have h1:=(lM k).resolve_right (by omega);exact aQf (by omega) (fun i=>Nat.le_trans (zM k i hk) (by rw[lim];decide)) (zS k) fun i=>Nat.le_trans (dI _ _) (by have:=zM k i hk;have:=hz k;omega)
      have hA:∀k,k≤m→Fx (F2 W0) 52 [.l 45 (baP xs [w,0,1] [0,b] m k).length (CR (baP xs [w,0,1] [0,b] m k)),.l 45 (fK (bL (pwP [w,0,1] k) (pwP [0,b] (m-k))) (cf xs k)).length (CR (fK (bL (pwP [w,0,1] k) (pwP [0,b] (m-k))) (cf xs k)))] (.r [.l 45 (baP xs [w,0,1] [0,b] m (k+1)).length (CR (baP xs [w,0,1] [0,b] m (k+1)))]):=fun k hk=>by
       have h1:=(lM k).resolve_right (by omega);have h4:=aCy (bL (pwP [w,0,1] k) (pwP [0,b] (m-k))) (cf xs k);have h5:=lB k (by omega);exact aT2 (by omega) (by omega) (fun i=>zB k i (by omega)) (fun i=>by rw[aCx];exact Nat.le_trans (dI _ _) (by have:=zM k i hk;have:=hz k;omega)) fun i=>by
        have e:cf (baP xs [w,0,1] [0,b] m k) i+cf (fK (bL (pwP [w,0,1] k) (pwP [0,b] (m-k))) (cf xs k)) i=cf (baP xs [w,0,1] [0,b] m (k+1)) i:=(aAx _ _ i).symm;rw[e];exact zB (k+1) i (by omega)
      refine Fx.by_ tG aV Tryz.func17 rfl (by kernel_rfl) (by kernel_rfl) rfl ⟨_,hL,bf ⟨_,iQ bS,dt (fun h=>absurd hb0 (jN.1 h)) fun _=>⟨_,iQ wS,dt (fun h=>absurd hw0 (jN.1 h)) fun _=>⟨_,hR,⟨by omega,by omega⟩,dt (fun h=>absurd h (show ¬((m+1:Nat):Int)-1<0 by omega)) fun _=>dt (fun h=>absurd h (show ¬(20:Int)<((m+1:Nat):Int)-1 by omega)) fun _=>⟨{k:Nat // k≤m+1},fun k=>bdS xs p w b m k.1,fun k=>m+1-k.1,⟨⟨0,Nat.zero_le _⟩,[true,true],rfl,rfl,rfl,rfl,rfl,rfl,rfl,rfl,trivial⟩,fun k=>?_⟩⟩⟩⟩⟩;obtain⟨k,hk⟩:=k;cases k with
      |zero=>
       refine dt (fun h=>?_) fun h=>absurd (show ((0:Nat):Int)≤((m+1:Nat):Int)-1 by omega) h;exact⟨by kernel_rfl,⟨by omega,by omega⟩,_,pJ,_,hX 0 (by omega),_,hY 0 (by omega),_,hM 0 (by omega),0,rfl,_,hat 0 (by omega),_,hC 0 (by omega),_,Fx.ns1 (hA 0 (by omega)),add1 (i:=0) (by decide),⟨1,by omega⟩,(show m+1-1<m+1-0 by omega),[false,false,true,true],rfl,rfl,rfl,rfl,rfl,rfl,rfl,rfl,trivial⟩
      |succ k=>
       refine dt (fun h=>?_) fun h=>?_
       ·have hlt:k+1≤m:=(by have h:((k+1:Nat):Int)≤((m+1:Nat):Int)-1:=h;omega);exact⟨by kernel_rfl,⟨by omega,by omega⟩,_,pJ,_,hX (k+1) hlt,_,hY (k+1) hlt,_,hM (k+1) hlt,k+1,rfl,_,hat (k+1) (by omega),_,hC (k+1) hlt,_,hA (k+1) hlt,add1 (i:=k+1) (by omega),⟨k+2,by omega⟩,(show m+1-(k+2)<m+1-(k+1) by omega),[false,false,true,true],rfl,rfl,rfl,rfl,rfl,rfl,rfl,rfl,trivial⟩
       ·obtain rfl:k=m:=(by have h:¬((k+1:Nat):Int)≤((m+1:Nat):Int)-1:=h;omega);exact⟨⟨rfl,rfl,rfl⟩,rfl,trivial⟩
   ·rw[if_neg fun h=>hw0 h.2];exact Fx.by_ tG aV Tryz.func17 rfl (by kernel_rfl) (by kernel_rfl) rfl ⟨_,hL,bf ⟨_,iQ bS,dt (fun h=>absurd hb0 (jN.1 h)) fun _=>⟨_,iQ wS,dt (fun _=>⟨⟨rfl,rfl⟩,rfl,trivial⟩) fun h=>absurd (jN.2 hw0) h⟩⟩⟩
  ·rw[if_neg fun h=>hb0 h.1];exact Fx.by_ tG aV Tryz.func17 rfl (by kernel_rfl) (by kernel_rfl) rfl ⟨_,hL,bf ⟨_,iQ bS,dt (fun _=>⟨⟨rfl,rfl⟩,rfl,trivial⟩) fun h=>absurd (jN.2 hb0) h⟩⟩
end
section
variable {W0:World}
theorem aSW{s:List Nat}(h:s.length≤60):okS s=true:=aP.2 (by rw[aT];omega)
end
noncomputable def shL (ss:List (List Nat)):Bool:=dV (decide (24<ss.length) && decide (ss.length<42)) && dV (nQ ss) && ss.all fun s=>dV (decide (40<s.length))
theorem aDJ{α:Type}{p:α→Bool}{l:List α}{j:Nat}{x:α}(hj:l[j]? =some x)(h:p x=false):l.all p=false:=List.all_eq_false.2 ⟨x,List.mem_of_getElem? hj,by rw[h];decide⟩
theorem aOu{ss:List (List Nat)}(h:nQ ss=true):shL ss=false:=by
 unfold shL;rw[h];cases dV (decide (24<ss.length) && decide (ss.length<42))<;>rfl
theorem aUb{ss:List (List Nat)}(h1:24<ss.length)(h2:ss.length<42):shL ss=false:=by
 unfold shL;rw[decide_eq_true h1,decide_eq_true h2];rfl
theorem aUc{ss:List (List Nat)}{j:Nat}{s:List Nat}(hj:ss[j]? =some s)(h:40<s.length):shL ss=false:=by
 unfold shL;rw[show (ss.all fun s=>dV (decide (40<s.length)))=false from aDJ hj (by rw[decide_eq_true h];rfl),Bool.and_false]
theorem lT{ss:List (List Nat)}(h1:¬(24<ss.length∧ss.length<42))(h2:nQ ss=false)(h3:∀(j:Nat) s,ss[j]? =some s→s.length≤40):shL ss=true:=by
 unfold shL;rw[h2,Bool.and_eq_true,Bool.and_eq_true];refine⟨⟨?_,rfl⟩,List.all_eq_true.2 fun s hs=>?_⟩
 ·by_cases a:24<ss.length
  ·rw[decide_eq_true a,decide_eq_false fun b=>h1 ⟨a,b⟩];rfl
  ·rw[decide_eq_false a];rfl
 ·obtain⟨j,hj⟩:=List.getElem?_of_mem hs;have:=h3 j s hj;rw[decide_eq_false (by omega)];rfl
noncomputable def shs (sss:List (List (List Nat))):Bool:=sss.all shL
theorem aUd{ss:List (List Nat)}:aDg [ss]=nQ ss:=by unfold aDg;simp
section
variable {W0:World}
theorem aQn{sss:List (List (List Nat))}(hn:(LL sss).length<1000):Fx (F2 W0) 4 [.ls 22 (LL sss)] (.v (sc (.b (shs sss)))):=by
 obtain⟨n,hN⟩:∃n,(LL sss).length=n:=⟨_,rfl⟩
 have hN2:sss.length=n:=by rw[←hN];unfold LL;rw[List.length_map]
 refine Fx.by_ tG aV Tryz.func4 rfl (by kernel_rfl) (by kernel_rfl) rfl ⟨{i:Nat // i≤n∧∀(j:Nat) ss,j<i→sss[j]? =some ss→shL ss=true},fun i=>([(0,.ls 22 (LL sss)),(3,.a (sc (.i .i64 (i.1:Int))))],[]),fun i=>n-i.1,⟨⟨0,Nat.zero_le _,fun _ _ h=>by cases h⟩,[],rfl,rfl,rfl,rfl,trivial⟩,fun i=>?_⟩;obtain⟨i,hi,hb⟩:=i;refine dt (fun h=>?_) fun h=>?_
 ·have hlt:i<n:=(by have h:(i:Int)<((LL sss).length:Int):=h;omega);obtain⟨ss,hss⟩:∃ss,sss[i]? =some ss:=⟨_,List.getElem?_eq_getElem (by omega)⟩
  have hp:=aOm hss;have no:shL ss=false→sc (.b false)=sc (.b (shs sss)):=fun e=>bF (aDJ hss e);have hG:=aQj (W0:=W0) (sss:=[ss]) (show 1<1000 by decide);rw[aUd]at hG;refine⟨i,rfl,_,hp,dt (fun hA=>⟨i,rfl,_,hp,dt (fun hB=>no (aUb (by have hA:(24:Int)<((ss.length:Nat):Int):=hA;omega) (by have hB:((ss.length:Nat):Int)<42:=hB;omega))) fun hB=>⟨i,rfl,_,hp,_,hG,fun hg=>no (aOu hg),fun hg=>?_⟩⟩) fun hA=>⟨i,rfl,_,hp,_,hG,fun hg=>no (aOu hg),fun hg=>?_⟩⟩;all_goals
   have hl:¬(24<ss.length∧ss.length<42):=by
    first
     |(have hB:¬((ss.length:Nat):Int)<42:=hB;omega)
     |(have hA:¬(24:Int)<((ss.length:Nat):Int):=hA;omega)
   have hs60:ss.length≤60:=Nat.not_lt.1 fun e=>(by rw[aBD e]at hg;cases hg);refine⟨{k:Nat // k≤ss.length∧∀(j:Nat) s,j<k→ss[j]? =some s→s.length≤40},fun k=>([(0,.ls 22 (LL sss)),(3,.a (sc (.i .i64 (i:Int)))),(4,.a (sc (.i .i64 (k.1:Int))))],[]),fun k=>ss.length-k.1,⟨⟨0,Nat.zero_le _,fun _ _ h=>by cases h⟩,[],rfl,rfl,rfl,rfl,rfl,trivial⟩,fun k=>?_⟩;obtain⟨k,hk,hs⟩:=k;refine⟨i,rfl,_,hp,dt (fun h2=>?_) fun h2=>?_⟩
   ·have hlk:k<ss.length:=(by have h2:(k:Int)<(ss.length:Int):=h2;omega);obtain⟨s,hsk⟩:∃s,ss[k]? =some s:=⟨_,List.getElem?_eq_getElem hlk⟩
    exact⟨i,rfl,_,hp,k,rfl,_,aDh hsk,dt (fun h3=>no (aUc hsk (by have h3:(40:Int)<(s.length:Int):=h3;omega))) fun h3=>⟨add1 (i:=k) (by omega),⟨k+1,hlk,fun j t hj ht=>by
     rcases Nat.lt_or_ge j k with hjk|hjk
     ·exact hs j t hjk ht
     ·obtain rfl:j=k:=(by omega);rw[hsk]at ht;cases ht;have h3:¬(40:Int)<(s.length:Int):=h3;omega⟩,(show ss.length-(k+1)<ss.length-k by omega),[],rfl,rfl,rfl,rfl,rfl,trivial⟩⟩
   ·have h2:¬(k:Int)<(ss.length:Int):=h2;exact⟨add1 (i:=i) (by omega),⟨i+1,hlt,fun j t hj ht=>by
     rcases Nat.lt_or_ge j i with hjk|hjk
     ·exact hb j t hjk ht
     ·obtain rfl:j=i:=(by omega);rw[hss]at ht;cases ht;exact lT hl hg fun j s hj=>hs j s (by have:=(List.getElem?_eq_some_iff.1 hj).1;omega) hj⟩,(show n-(i+1)<n-i by omega),[],rfl,rfl,rfl,rfl,trivial⟩
 ·have h:¬(i:Int)<((LL sss).length:Int):=h;exact bT (List.all_eq_true.2 fun ss hs=>by
   obtain⟨j,hj⟩:=List.getElem?_of_mem hs;exact hb j ss (by have:=(List.getElem?_eq_some_iff.1 hj).1;omega) hj)
theorem aSX{sss:List (List (List Nat))}(h:shs sss=true):∀ss∈sss,ss.length≤60∧∀s∈ss,s.length≤40:=fun ss hss=>by
 have h1:shL ss=true:=List.all_eq_true.1 h ss hss;unfold shL at h1;rw[Bool.and_eq_true,Bool.and_eq_true]at h1;obtain⟨⟨-,h2⟩,h3⟩:=h1;refine⟨Nat.not_lt.1 fun e=>?_,fun s hs=>Nat.not_lt.1 fun e=>?_⟩
 ·rw[aBD e]at h2;cases h2
 ·have:=List.all_eq_true.1 h3 s hs;rw[decide_eq_true e]at this;cases this
theorem aGq{s:List Nat}(h:s.length≤40):Ma.sz (nOf s)≤80:=by
 unfold nOf;rcases aL5 (by8 s) with h1|h1
 ·have h2:bO (by8 s)=(0,(bO (by8 s)).2):=(by rw[←h1]);have h4:=congrArg List.length (aH7 h2);have h5:=aQG (bO (by8 s)).2;generalize (bO (by8 s)).2=q at h4 h5⊢;have hl:(by8 s).length=s.length:=List.length_map _;have hd:aH8 q≤40:=by
   unfold gH at h4;rw[List.length_append,List.length_append,hl]at h4;have p1:=aBg q.num.natAbs;unfold aH8;split at h4
   ·split at h4<;>rename_i e<;>simp at h4<;>first|(rw[e,show (dec 1).length=1 by decide+kernel];omega)|omega
   ·split at h4<;>rename_i e<;>simp at h4<;>first|(rw[e,show (dec 1).length=1 by decide+kernel];omega)|omega
  omega
 ·rw[h1];have:=vF;omega
theorem aNA{ss:List (List Nat)}(h:∀s∈ss,s.length≤40):∀i,Ma.sz (cf (ss.map nOf) i)≤80:=fun i=>by
 unfold cf;rw[List.getElem?_map];cases hi:ss[i]? with
 |none=>exact Nat.le_trans vF (by decide)
 |some s=>exact aGq (h s (List.mem_of_getElem? hi))
theorem pO(i:Nat):Ma.sz (cf [] i)≤aJ:=by rw[nC];exact Nat.le_trans vF (by decide)
theorem aUe{n k:Nat}(h:n≤20)(hk:k≤n):Ma.sz (bes n k)≤aJ:=by
 have lim:aJ=1000000000:=rfl;have s0:=kV (n:=2*n-k) (by omega);have s1:=kV (n:=k) (by omega);have s2:=kV (n:=n-k) (by omega);have s3:=dI ((fac k:Nat):Rat) ((fac (n-k):Nat):Rat);have s4:=aGl (n-k);have s5:=dI ((2:Rat)^(n-k)) (((fac k:Nat):Rat)*((fac (n-k):Nat):Rat));have s6:=rV ((2:Rat)^(n-k)*(((fac k:Nat):Rat)*((fac (n-k):Nat):Rat)));have s7:=dI ((fac (2*n-k):Nat):Rat) ((2:Rat)^(n-k)*(((fac k:Nat):Rat)*((fac (n-k):Nat):Rat)))⁻¹;unfold bes;omega
theorem aUf{n:Int}:(beS n).1.length<1000000∧∀i,Ma.sz (cf (beS n).1 i)≤aJ:=by
 unfold beS;split
 ·exact⟨by decide,pO⟩
 ·refine⟨by rw[bH];omega,fun i=>?_⟩;rw[fT];split
  ·exact aUe (by omega) (by omega)
  ·exact sz0
theorem aUg{n:Int}:(biS n).1.length<1000000∧∀i,Ma.sz (cf (biS n).1 i)≤aJ:=by
 unfold biS;split
 ·exact⟨by decide,pO⟩
 ·refine⟨by rw[bH];omega,fun i=>?_⟩;rw[fT];split
  ·exact Nat.le_trans (aJj (by omega)) (by decide)
  ·exact sz0
theorem aUh{xs:List Rat}{w:Rat}(hl:xs.length≤60)(hz:∀i,Ma.sz (cf xs i)≤80)(hw:Ma.sz w≤80):(dnS xs w).1.length<1000000∧∀i,Ma.sz (cf (dnS xs w).1 i)≤aJ:=by
 have lim:aJ=1000000000:=rfl;unfold dnS;split
 ·exact⟨by decide,pO⟩
 ·split
  ·refine⟨?_,fun i=>?_⟩
   ·have:=fG (mkP xs.length fun i=>cf xs i*w⁻¹^i);rw[bH]at this;exact Nat.lt_of_le_of_lt this (by omega)
   ·show Ma.sz (cf (dnL xs w) i)≤_;unfold dnL;rw[gV,fT];split
    ·rename_i h;have h1:=yT w⁻¹ i;have h2:i*Ma.sz w⁻¹≤60*81:=Nat.mul_le_mul (by omega) (by have:=rV w;omega);have h3:=hz i;exact Nat.le_trans (dI _ _) (by omega)
    ·exact sz0
  ·exact⟨by decide,pO⟩
theorem aUi{xs:List Rat}(hz:∀i,Ma.sz (cf xs i)≤80):(hiS xs).1.length<1000000∧∀i,Ma.sz (cf (hiS xs).1 i)≤aJ:=by
 have lim:aJ=1000000000:=rfl;unfold hiS;split
 ·exact⟨by decide,pO⟩
 ·split
  ·exact⟨by decide,pO⟩
  ·refine⟨?_,fun i=>?_⟩
   ·have h1:=fG (mkP (ct xs).length fun i=>cf xs ((ct xs).length-1-i));rw[bH]at h1;exact Nat.lt_of_le_of_lt h1 (by omega)
   ·show Ma.sz (cf (hiL xs) i)≤_;unfold hiL;rw[gV,fT];split
    ·exact Nat.le_trans (hz _) (by rw[lim];decide)
    ·exact sz0
theorem aUj{xs:List Rat}{b w:Rat}(hz:∀i,Ma.sz (cf xs i)≤80)(hb:Ma.sz b≤80)(hw:Ma.sz w≤80):(baS xs b w).1.length<1000000∧∀i,Ma.sz (cf (baS xs b w).1 i)≤aJ:=by
 have lim:aJ=1000000000:=rfl;unfold baS;split
 ·exact⟨by decide,pO⟩
 ·split
  ·split
   ·exact⟨by decide,pO⟩
   ·split
    ·exact⟨by decide,pO⟩
    ·rename_i h0 h1;obtain⟨m,hN⟩:∃m,(ct xs).length=m+1:=⟨(ct xs).length-1,by omega⟩
     rw[hN,Nat.add_sub_cancel];show (baP xs [w,0,1] [0,b] m (m+1)).length<_∧∀i,Ma.sz (cf (baP xs [w,0,1] [0,b] m (m+1)) i)≤_;rw[←aOs];have hs:=aLE (a:=fun j=>cf xs (m+1-1-j)) (w:=w) (b:=b) (N:=m+1) (by omega) (by omega) (by omega) fun j _=>Nat.le_trans (hz _) (by decide);have hl:=aCE (a:=fun j=>cf xs (m+1-1-j)) hs.hlx hs.hly (m+1);exact⟨by omega,fun i=>Nat.le_trans (hs.hh _ i (Nat.le_refl _)) (by rw[lim];decide)⟩
  ·exact⟨by decide,pO⟩
theorem aGr:Fx (F2 W0) 5 [] (.v (sc (.b true))):=aQb
theorem aBG{n:Int}{s1:List (List Nat)}{c0 c1:List Nat}:Fx (F2 W0) 3 [.v (sc (.i .i64 n)),.l 23 s1.length (S s1),.v (.c true [.s c0,.s c1])] (.v (sc (.b true))):=by
 refine Fx.by_ tG aV Tryz.func3 rfl (by kernel_rfl) (by kernel_rfl) rfl ⟨_,aQn (sss:=[s1,[c0,c1]]) (show 2<1000 by decide),fun _=>⟨_,aGr,rfl⟩,fun hb=>?_⟩;have hb:shs [s1,[c0,c1]]=true:=by
  cases h:shs [s1,[c0,c1]]with
  |true=>rfl
  |false=>rw[h]at hb;cases hb
 have hb:=aSX hb;obtain⟨b1,k1⟩:=hb s1 (by simp);obtain⟨-,k3⟩:=hb [c0,c1] (by simp);obtain⟨a,ha⟩:∃a,s1.map nOf=a:=⟨_,rfl⟩
 have ok:∀{s:List Nat},s.length≤40→okS s=true:=fun h=>aSW (by omega);have La:=aLx (W0:=W0) (ss:=s1) rfl (by omega) fun s hs=>ok (k1 s hs);have Lc:=aLx (W0:=W0) (ss:=[c0,c1]) rfl (show 2<1000000 by decide) fun s hs=>ok (k3 s hs);have ca:=aNA (ss:=s1) k1;have la:(s1.map nOf).length=s1.length:=List.length_map _;rw[ha]at La ca la;rw[←la]at b1;have La:Fx (F2 W0) 11 [.l 23 s1.length (S s1)] (.r [.l aN a.length (C a),.l 45 a.length (CR a)]):=by rw[la];exact La
 obtain⟨x,hx⟩:∃x,nOf c0=x:=⟨_,rfl⟩
 obtain⟨y,hy⟩:∃y,nOf c1=y:=⟨_,rfl⟩
 have sx:Ma.sz x≤80:=hx▸aGq (k3 c0 (by simp));have sy:Ma.sz y≤80:=hy▸aGq (k3 c1 (by simp));have Lc:Fx (F2 W0) 11 [.l 23 2 (S [c0,c1])] (.r [.l aN 2 (C [x,y]),.l 45 2 (CR [x,y])]):=by rw[←hx,←hy];exact Lc
 obtain⟨l1,z1⟩:=aUf (n:=n);obtain⟨l2,z2⟩:=aUg (n:=n);obtain⟨l3,z3⟩:=aUh (w:=x) b1 ca sx;obtain⟨l4,z4⟩:=aUi ca;obtain⟨l5,z5⟩:=aUj (b:=x) (w:=y) ca sx sy;exact⟨_,aNv,_,aNx,dt (fun h=>absurd rfl h) fun _=>⟨_,aAk rfl l1 z1,bf ⟨_,aJk,_,aJm,dt (fun h=>absurd rfl h) fun _=>⟨_,aAk rfl l2 z2,bf ⟨_,La,_,Lc,0,rfl,_,rfl,_,aNw b1 ca sx,0,rfl,_,rfl,_,aNz b1 ca sx,dt (fun h=>absurd rfl h) fun _=>⟨_,aAk rfl l3 z3,bf ⟨_,aSS b1 ca,_,aSU b1 ca,dt (fun h=>absurd rfl h) fun _=>⟨_,aAk rfl l4 z4,bf ⟨by kernel_rfl,0,rfl,_,rfl,1,rfl,_,rfl,_,aST b1 ca sx sy,by kernel_rfl,0,rfl,_,rfl,1,rfl,_,rfl,_,aSV b1 ca sx sy,dt (fun _=>⟨_,aAk rfl l5 z5,bt ⟨_,aGr,rfl⟩⟩) fun h=>absurd rfl h⟩⟩⟩⟩⟩⟩⟩⟩⟩
end
end J
namespace J
open Go Go.RowKit
open Ma Me K E
structure Ar (W:World) (x:Value) (v:AV) (ss:List (List Nat)):Prop where
 iv:∀h,gQ (F2 W) 23 ss.length (S ss) h (fun _=>True) v
 r:∀c:Cx,VR c v x
theorem ar_nil(W:World):Ar W (.slice none 0 0) (sc .ns) []:=⟨fun _=>.inl ⟨rfl,rfl,rfl⟩,fun _=>aF.2 rfl⟩
theorem ar_some{W:World}{a:Addr}{len cap:Nat}{ss:List ByteArray}(hl:len≤ss.length)(hc:∀i,i<ss.length→W.cell? (a.add i)=some (.string (ss.getD i ByteArray.empty))):
  Ar W (.slice (some a) len cap) (sc (.v (.slice (some a) len cap))) ((ss.take len).map E.bytes):=by
 have hlen:((ss.take len).map E.bytes).length=len:=by rw[List.length_map,List.length_take];omega
 refine⟨fun _=>.inr (.inr ⟨a,cap,⟨.str,1,16,[.s []]⟩,by rw[hlen],by unfold S;rw[List.length_map],by kernel_rfl,rfl,rfl,fun j c hj=>?_⟩),fun _=>aF.2 ⟨rfl,rfl⟩⟩;unfold S at hj;rw[List.getElem?_map]at hj;obtain⟨s,hs,rfl⟩:=Option.map_eq_some_iff.1 hj;rw[List.getElem?_map]at hs;obtain⟨t,ht,rfl⟩:=Option.map_eq_some_iff.1 hs;rw[List.getElem?_take]at ht;split at ht
 ·have hlt:=(List.getElem?_eq_some_iff.1 ht).1;have h1:=hc j hlt;rw[List.getD,ht]at h1;refine⟨_,rfl,?_⟩;show cb (Nat.beq 23 23) (match W.cell? (a.add (j*1)) with|some (.string s)=>some (sc (.s (E.bytes s)))|_=>none) none=_;rw[Nat.beq_refl,Nat.mul_one,h1];rfl
 ·cases ht
theorem aSY(W:World):(F2 W).P.follows .mixedOrders=true:=by kernel_rfl
theorem q_FilterFamilies(W:World)(hT:Tb W)(hP:Px W)(n:Int){x1:Value}{v1:AV}{s1:List (List Nat)}(h1:Ar W x1 v1 s1)(c0 c1:ByteArray):
  Calls Tryz.prog 3 #[.int .i64 n,x1,.agg #[.string c0,.string c1]] W fun e w'=>e=.returned (.bool true)∧Q W w':=by
 obtain⟨v,h',⟨m0,hx⟩,-,hv⟩:=aBG (W0:=W) (n:=n) (s1:=s1) (c0:=E.bytes c0) (c1:=E.bytes c1) ⟨.lf,0,0,.lf⟩ [sc (.i .i64 n),v1,.c true [.s (E.bytes c0),.s (E.bytes c1)]] (Nat.le_refl 0) (fun _ _=>T.get_lf) ⟨rfl,h1.iv _,rfl,trivial⟩;have hv:v=sc (.b true):=hv;subst hv;have hx:=hx m0 (Nat.le_refl m0);obtain⟨-,hcr⟩:=jO (vs:=[.int .i64 n,x1,.agg #[.string c0,.string c1]]) (f2 W) (xI (f2 W) (aSY W) m0) hx (xK Tryz.prog.cellsOf W) (fun _=>rfl) ⟨hT,hP,Q.refl W⟩ ⟨aF.2 rfl,h1.r _,⟨[_,_],rfl,⟨c0,rfl,rfl⟩,⟨c1,rfl,rfl⟩,trivial⟩,trivial⟩;refine Calls.mono hcr ?_;rintro e w' ⟨u,d,k1,k2,-,k4,k5⟩;have hu:u=.bool true:=aF.1 k5;rw[k1,hu];exact⟨rfl,k2▸k4.q⟩
end J
section
open Go.RowKit Go.ChangeShapes Go.WideShapes Go.ChangeAt
open Ma Me
theorem own:ownKnob Tryz.prog.godebug=none:=by kernel_rfl
def rC:List (String × DataW Unit):=[("math/bits.deBruijn64tab",Rows.laid_math_bits_deBruijn64tab),("pentode/value.prefixes",Rows.laid_pentode_value_prefixes)]
theorem aQo:Rows.laid_math_bits_deBruijn64tab (H:=Unit)=.agg (Lib.deBruijn64tab.map fun (n:Nat)=>(DataW.lit (.int .u8 (n:Int)):DataW Unit)):=by kernel_rfl
theorem aUk{W:World}(h:laidMetH Tryz.prog rC W):Tb W:=by
 rw[MakeChecks.laidMetH_plain _ _ _ (by kernel_rfl)]at h;obtain⟨ps,⟨g,t,cs,fuel,p,q,hg,ht,hv,hd,_,_⟩,_,_⟩:=h;obtain rfl:=Option.some.inj ((show Tryz.prog.globalNamed "math/bits.deBruijn64tab"=some 1 by kernel_rfl).symm.trans hg);obtain⟨t',ht'⟩:∃t',(Tryz.prog.globals[(1:Nat)]?).map (·.type)=some t'∧(∃e,Tryz.prog.underlying t'=some (.array 64 e)∧Tryz.prog.cellsOf e=1∧Tryz.prog.underlying e=some (.int .u8)):=
  ⟨219,by kernel_rfl,⟨5,by kernel_rfl,by kernel_rfl,by kernel_rfl⟩⟩
 obtain⟨ht1,e,hu,c5,hue⟩:=ht';obtain rfl:=Option.some.inj (ht1.symm.trans ht);obtain⟨xs,m,_,ex,_,hl,hel⟩:=DataW.trod_array hu hd;intro r hr;have hlen:Lib.deBruijn64tab.length=64:=by kernel_rfl
 have hE:=hel r (by omega);rw[c5,Nat.mul_one,List.getElem?_eq_getElem (by omega)]at hE;obtain⟨z,e1,e2,_⟩:=DataW.trod_int hue hE;rw[aQo]at ex;have e3:=(DataW.agg.inj (Prod.mk.inj ex).1).symm;have e4:(xs.map (·.1))[r]? =(Lib.deBruijn64tab.map fun (n:Nat)=>(DataW.lit (.int .u8 (n:Int)):DataW Unit))[r]? :=by rw[e3]
 rw[List.getElem?_map,List.getElem?_map,List.getElem?_eq_getElem (by omega:r<xs.length),List.getElem?_eq_getElem hr,e2]at e4;have hz:z=((Lib.deBruijn64tab.getD r 0:Nat):Int):=by
  simp only[Option.map_some,Option.some.injEq,DataW.lit.injEq,Lit.int.injEq,true_and]at e4;rw[e4,List.getD,List.getElem?_eq_getElem hr];rfl
 rw[World.var?_cell hg hv r,←hz];have:cs.toList[r]? =some (.int .u8 z):=by
  have h0:((cs.toList.drop r).take 1)[0]? =some (.int .u8 z):=(by rw[e1];rfl);simpa using h0
 simpa using this
theorem aQp:Rows.laid_pentode_value_prefixes (H:=Unit)=.agg ((List.range 10).map fun k=>.agg [.lit (.string (letter k)),.lit (.int .i64 (gZ k))]):=by kernel_rfl
theorem aHV(k:Nat)(hk:k<10):lG.toList[k*2]? =some (.string (iO k))∧lG.toList[k*2+1]? =some (.int .i64 (gZ k)):=by
 rcases (by omega:k=0∨k=1∨k=2∨k=3∨k=4∨k=5∨k=6∨k=7∨k=8∨k=9) with h|h|h|h|h|h|h|h|h|h<;>subst h<;>exact⟨rfl,rfl⟩
theorem aUl{W:World}(h:laidMetH Tryz.prog rC W):Px W:=by
 rw[MakeChecks.laidMetH_plain _ _ _ (by kernel_rfl)]at h;obtain⟨ps,⟨_,_,_,_,_,_,_,_,_,_,⟨g,t,cs,fuel,p,q,hg,ht,hv,hd,_,_⟩,_⟩,_,_⟩:=h;obtain rfl:=Option.some.inj ((show Tryz.prog.globalNamed "pentode/value.prefixes"=some 4 by kernel_rfl).symm.trans hg);obtain rfl:=Option.some.inj ((show (Tryz.prog.globals[(4:Nat)]?).map (·.type)=some 249 by kernel_rfl).symm.trans ht);obtain⟨f0,f1,hu2,hf0,hf1,ho0,ho1,hc0,hc1⟩:∃f0 f1:Field,Tryz.prog.underlying 248=some (.struct #[f0,f1])∧Tryz.prog.underlying f0.type=some .string∧Tryz.prog.underlying f1.type=some (.int .i64)∧f0.offset=0∧f1.offset=1∧Tryz.prog.cellsOf f0.type=1∧Tryz.prog.cellsOf f1.type=1:=
  ⟨_,_,rfl,by kernel_rfl,by kernel_rfl,by kernel_rfl,by kernel_rfl,by kernel_rfl,by kernel_rfl⟩
 have hu:Tryz.prog.underlying 249=some (.array 10 248):=by kernel_rfl
 have c2:Tryz.prog.cellsOf 248=2:=by kernel_rfl
 have c20:Tryz.prog.cellsOf 249=20:=by kernel_rfl
 obtain⟨xs,m,_,ex,hcl,hl,hel⟩:=DataW.trod_array hu hd;rw[aQp]at ex;have e3:=(DataW.agg.inj (Prod.mk.inj ex).1).symm;have key:∀k,k<10→cs.toList[k*2]? =some (.string (iO k))∧cs.toList[k*2+1]? =some (.int .i64 (gZ k)):=by
  intro k hk;have hE:=hel k hk;rw[c2,List.getElem?_eq_getElem (by omega)]at hE;obtain⟨y0,y1,n,e5,_,h0,h1⟩:=trod_struct2 hu2 hE;rw[ho0,hc0]at h0;rw[ho1,hc1]at h1;obtain⟨s,a1,a2,_⟩:=DataW.trod_string hf0 h0;obtain⟨z,b1,b2,_⟩:=DataW.trod_int hf1 h1;have e4:(xs.map (·.1))[k]? =((List.range 10).map fun k=>(DataW.agg [.lit (.string (letter k)),.lit (.int .i64 (gZ k))]:DataW Unit))[k]? :=(by rw[e3]);rw[List.getElem?_map,List.getElem?_map,List.getElem?_eq_getElem (by omega:k<xs.length),List.getElem?_eq_getElem (by simpa using hk),e5,a2,b2]at e4;simp only[Option.map_some,Option.some.injEq,DataW.agg.injEq,List.cons.injEq,DataW.lit.injEq,Lit.string.injEq,Lit.int.injEq,true_and,and_true,List.getElem_range]at e4;obtain⟨e6,e7⟩:=e4;have hs:s=iO k:=by
   unfold iO;rw[←e6]
  constructor
  ·have h2:(((((cs.toList.drop (k*2)).take 2).drop 0).take 1))[0]? =some (.string s):=(by rw[a1];rfl);rw[←hs];simpa [List.getElem?_take,List.getElem?_drop] using h2
  ·have h2:(((((cs.toList.drop (k*2)).take 2).drop 1).take 1))[0]? =some (.int .i64 z):=(by rw[b1];rfl);rw[←e7];simpa [List.getElem?_take,List.getElem?_drop] using h2
 have hcs:cs=lG:=by
  apply Array.ext';apply List.ext_getElem?;intro j;by_cases hj:j<20
  ·obtain⟨k,hk,h2⟩:∃k,k<10∧(j=k*2∨j=k*2+1):=⟨j/2,by omega,by omega⟩
   rcases h2 with rfl|rfl
   ·rw[(key k hk).1,(aHV k hk).1]
   ·rw[(key k hk).2,(aHV k hk).2]
  ·rw[c20]at hcl;rw[List.getElem?_eq_none (by omega),List.getElem?_eq_none (by have:lG.toList.length=20:=rfl;omega)]
 simp only[World.var?,hg,Option.bind_some]at hv;unfold Px;split at hv
 ·rename_i c t fr hh;injection hv with hv;subst hv;rw[←hcs];exact⟨t,fr,hh⟩
 ·cases hv
end
namespace filterFamilies
open Go.RowKit Go.ChangeShapes Go.WideShapes Go.ChangeAt
open Ma Me
theorem laidOut:laidOutB Tryz.prog=true:=by kernel_rfl
theorem aLH:Tryz.prog.cellsOf 23=1:=by kernel_rfl
theorem opened{H:Type}{enc:TypeId × Value→H}{W:World}{base:Nat}{v:Value}{d:DataW H}{p:List MemPlace}(hk:Value.okWide Tryz.prog W .any base 22 v)(h:DataW.Trod enc Tryz.prog W 0 (fun _=>true) true 22 v d p):∃a ss,J.Ar W v a ss:=by
 obtain⟨a0,len,cap,rfl⟩:=okWide_slice Tryz.underlying22 hk;obtain⟨fuel,hf⟩:=h;rcases open_strings Tryz.underlying22 Tryz.underlying23 aLH hf with⟨hcs,-⟩|⟨a,len',cap',ss,hcs,-,hl,-,hz,-,hcell,-⟩
 ·simp[Value.cells]at hcs;obtain⟨rfl,rfl,rfl⟩:=hcs;exact⟨_,_,J.ar_nil W⟩
 ·simp[Value.cells]at hcs;obtain⟨rfl,rfl,rfl⟩:=hcs;exact⟨_,_,J.ar_some (ss:=ss) (by simp only[if_true]at hz;omega) hcell⟩
theorem aQq{H:Type}{enc:TypeId × Value→H}{W:World}{base:Nat}{v:Value}{d:DataW H}{p:List MemPlace}(hk:Value.okWide Tryz.prog W .any base 24 v)(h:DataW.Trod enc Tryz.prog W 0 (fun _=>true) true 24 v d p):∃c0 c1:ByteArray,v=.agg #[.string c0,.string c1]:=by
 have hu:Tryz.prog.underlying 24=some (.array 2 23):=by kernel_rfl
 have hc:Tryz.prog.cellsOf 24=2:=by kernel_rfl
 simp only[Value.okWide,hu]at hk;obtain⟨cs,rfl,hsz,-⟩:=hk;obtain⟨v0,v1,rfl⟩:∃v0 v1,cs=#[v0,v1]:=by
  obtain⟨l⟩:=cs;have hl:l.length=2:=hsz.trans hc
  match l,hl with
  | [v0,v1],_=>exact⟨v0,v1,rfl⟩
 obtain⟨fuel,hf⟩:=h;obtain⟨xs,m,-,-,-,hl,he⟩:=DataW.trod_array hu hf;rw[aLH]at he;have e0:=he 0 (by decide);have e1:=he 1 (by decide);rw[List.getElem?_eq_getElem (by omega)]at e0 e1;obtain⟨s0,h0,-⟩:=DataW.trod_string Tryz.underlying23 e0;obtain⟨s1,h1,-⟩:=DataW.trod_string Tryz.underlying23 e1;have h0:[v0]=[.string s0]:=h0;have h1:[v1]=[.string s1]:=h1;injection h0 with h0 _;injection h1 with h1 _;exact⟨s0,s1,by rw[h0,h1]⟩
theorem contract(H:Type)(enc:TypeId × Value→H)(W:World)(base:Nat)(args:Array Value)(ds gs:List (DataW H))(before:List MemPlace)(hval:∀(j:Nat) t v,Tryz.f3.params[j]? =some t→args[j]? =some v→Value.okWide Tryz.prog W .any base t v)(hW:DataW.Whole enc Tryz.prog Tryz.f3.params.toList Rows.filterFamiliesSpec.vars false W args.toList ds gs before)(hL:laidMetH Tryz.prog rC W):
  Calls Tryz.prog 3 args W fun e W'=>∃v,e=.returned v∧Rows.filterFamiliesSpec.post enc Tryz.prog Tryz.f3 false true false false W args v W':=by
 have hW':=hW;obtain⟨p,q,hA0,X,rfl,hfz,hnd⟩:=hW;have hA:DataW.TrodAll enc Tryz.prog W 0 (fun _=>true) true Tryz.f3.params.toList args.toList ds p:=hA0;rw[Tryz.params3]at hA hval;obtain⟨x1,x2,x3,d1,d2,d3,p1,p2,p3,rfl,rfl,rfl,h1,h2,h3⟩:=trodAll_three hA;obtain⟨rfl,rfl⟩:=trodVars_none X;clear hA0;obtain⟨n,rfl⟩:=okWide_int Tryz.underlying3 (hval 0 _ x1 rfl rfl);obtain⟨a2,s2,r2⟩:=opened (hval 1 _ x2 rfl rfl) h2;obtain⟨c0,c1,rfl⟩:=aQq (hval 2 _ x3 rfl rfl) h3;simp only[List.append_nil,List.append_assoc]at hW';have hlt:∀x∈p1++(p2++p3),x.block<W.heap.size:=fun x hx=>by simpa using hW'.lt x hx
 have back2:∀{W':World} {v:Value} {d:DataW H} {p:List MemPlace},Q W W'→DataW.Trod enc Tryz.prog W 0 (fun _=>true) true 24 v d p→(∀x∈p,x.block<W.heap.size)→DataW.Trod enc Tryz.prog W' 0 (fun b=>decide (b<W.heap.size)) true 24 v d p:=fun hq h hl=>
  Below.trod laidOut (by kernel_rfl) (of_decide_eq_true (by kernel_rfl)) h hq hl
 have back0:∀{W':World} {v:Value} {d:DataW H} {p:List MemPlace},Q W W'→DataW.Trod enc Tryz.prog W 0 (fun _=>true) true 3 v d p→(∀x∈p,x.block<W.heap.size)→DataW.Trod enc Tryz.prog W' 0 (fun b=>decide (b<W.heap.size)) true 3 v d p:=fun hq h hl=>
  Below.trod laidOut (by kernel_rfl) (of_decide_eq_true (by kernel_rfl)) h hq hl
 have back:∀{W':World} {v:Value} {d:DataW H} {p:List MemPlace},Q W W'→DataW.Trod enc Tryz.prog W 0 (fun _=>true) true 22 v d p→(∀x∈p,x.block<W.heap.size)→DataW.Trod enc Tryz.prog W' 0 (fun b=>decide (b<W.heap.size)) true 22 v d p:=fun hq h hl=>
  Below.trod laidOut (by kernel_rfl) (of_decide_eq_true (by kernel_rfl)) h hq hl
 refine (J.q_FilterFamilies W (aUk hL) (aUl hL) n r2 c0 c1).mono fun e W' ⟨he,hq⟩=>?_;subst he;refine⟨_,rfl,_,_,_,[]++[],p1++(p2++p3),[],hW',?_,?_,rfl,hq.frame _,fun h=>by cases h⟩
 ·exact trodAll_mk1 (shut_bool Tryz.underlying4 _)
 ·exact trodAll_mk3 (back0 hq h1 fun x hx=>hlt x (by simp[hx])) (back hq h2 fun x hx=>hlt x (by simp[hx])) (back2 hq h3 fun x hx=>hlt x (by simp[hx]))
abbrev inp:Input:=⟨#[],#[.int .i64 0,.slice none 0 0,.agg #[.string ⟨#[]⟩,.string ⟨#[]⟩]],[]⟩
theorem aLI(os:Os):laidMet Tryz.prog rC ((World.laidAll Tryz.prog os rC).forCall (fun _ _=>0) inp).memory:=laidMet_laidAll _ (by kernel_rfl) (by kernel_rfl)
theorem reads(os:Os){H:Type}(enc:TypeId × Value→H):∃ds places,DataW.whole enc Tryz.prog ((World.laidAll Tryz.prog os rC).forCall (fun _ _=>0) inp).memory Tryz.f3.params.toList Rows.filterFamiliesSpec.vars false inp.args.toList 8=some (ds,[],places):=
 ⟨[.lit (.int .i64 0),.nil,.agg [.lit (.string []),.lit (.string [])]],[],by kernel_rfl⟩
theorem aOv(os:Os):Input.okWideB Tryz.checked.prog ((World.laidAll Tryz.prog os rC).forCall (fun _ _=>0) inp) 3 inp=true:=by kernel_rfl
theorem lifted(os:Os)(started:os.Started)(H:Type)(enc:TypeId × Value→H)(F:Stop.Interp):
  ReturnsInHanded {} Tryz.checked os 3 .any ((OpenSpec.ofChange Rows.filterFamiliesSpec).preRow enc Tryz.prog Tryz.f3 Rows.filterFamiliesRow.domain false rC) (((OpenSpec.ofChange Rows.filterFamiliesSpec).at F).post enc Tryz.prog Tryz.f3 false true false false):=by
 obtain⟨ds,places,hx⟩:=reads os enc
 refine returnsInHanded_of_row (C:=Tryz.checked) (s:=OpenSpec.ofChange Rows.filterFamiliesSpec) own started (by kernel_rfl) Tryz.func3
  ⟨World.laidAll Tryz.prog os rC,fun _ _=>0,inp,World.laidAll_os _ _ _,World.shaped_of_ZipB (by kernel_rfl) (by kernel_rfl),(Input.okWide_of_okWideB (base:=0) (aOv os)).1,(Input.okWide_of_okWideB (aOv os)).2,
   OpenSpec.preRow_of_cond 8 hx (by kernel_rfl) (fun k hk=>by cases hk) (by kernel_rfl) (aLI os),by
    simp only[Assume.holds];exact⟨by simp,by simp,fun _=>Modest.zero,by simp,by simp⟩⟩ ?_
 intro W base args ds gs before hval hW _ _ hz hL _ _;exact contract H enc W base args ds gs before hval hW hL
end filterFamilies
section
open Go.RowKit Go.ChangeShapes Go.WideShapes Go.ChangeAt
theorem yF:joinedFacts Tryz.prog 3 Tryz.f3 (OpenSpec.ofChange Rows.filterFamiliesSpec).bare Rows.filterFamiliesRow=true:=by
 unfold joinedFacts
 repeat' (with_reducible refine Bool.and_eq_true_iff.2 ⟨?_,?_⟩)
 all_goals (as_aux_lemma=>kernel_rfl)
end
namespace filterFamilies
open Go.RowKit Go.ChangeShapes Go.WideShapes Go.ChangeAt
open Ma Me
theorem said:Rows.FilterFamiliesSaid:=
 OpenClaim.holds_of_cond 3 Tryz.f3 rfl rfl rfl rfl rfl rfl rfl ⟨rfl,rfl,rfl,rfl,rfl⟩ rfl rfl rfl rfl rfl (by kernel_rfl) Tryz.func3 yF
  (of_decide_eq_true (by kernel_rfl)) (by unfold Func.isWrapper;first|(rw[if_pos (by decide+kernel)];kernel_rfl)|(rw[if_neg (by decide+kernel)];exact⟨rfl,rfl⟩))
  (fun os started H enc _ F=>by rw[OpenClaim.pre_eq_preRow];exact lifted os started H enc F)
theorem plain(f:FuncId)(fn:Func)(hf:Tryz.pinned.checked.prog.funcNamed "pentode/pentodelaw08.FilterFamilies"=some f)(hfn:Tryz.pinned.checked.prog.funcs[f]? =some fn):
  false=Tryz.pinned.checked.prog.looks []∧∀(j:Nat) t,fn.params[j]? =some t→Tryz.pinned.checked.prog.wantsStandIn t=false:=by
 obtain rfl:f=3:=Option.some.inj ((show Tryz.prog.funcNamed "pentode/pentodelaw08.FilterFamilies"=some 3 by kernel_rfl).symm.trans hf) |>.symm;obtain rfl:fn=Tryz.f3:=(Option.some.inj (Tryz.func3.symm.trans hfn)).symm;refine⟨by kernel_rfl,fun j t ht=>?_⟩;rw[Tryz.params3]at ht;have hm:t∈([3,22,24]:List TypeId):=by simpa using Array.mem_of_getElem? ht
 have hall:(([3,22,24]:List TypeId).all fun u=>!Tryz.prog.wantsStandIn u)=true:=by kernel_rfl
 exact (show Tryz.prog.wantsStandIn t=false by simpa using List.all_eq_true.1 hall t hm)
theorem card:Rows.FilterFamiliesCardSaid:=
 Claim7.holds_tied_plain_at .later [] _ _ _ _ said (fun _ h=>by cases h) (by as_aux_lemma=>kernel_rfl) (fun _ h=>by cases h) filterFamilies_row_tie rfl ⟨rfl,rfl⟩ (by as_aux_lemma=>kernel_rfl) rfl plain (by as_aux_lemma=>kernel_rfl)
end filterFamilies
end Go.Proofs.YtohcfjmkfflkpaaGreatDoor
