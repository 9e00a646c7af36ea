import Derived.Test.YtpapdkhjdelfcaaGreatMAY
namespace Go.Proofs.YtpapdkhjdelfcaaGreat
open Go.RowKit
set_option maxRecDepth 100000
set_option maxHeartbeats 4000000
theorem YP {a b c d:Int} (f:BC a) (g:BC b) (i:BC c) (k:BC d):Be (Be a b) (Be c d)=bits .xor .u64 (bits .xor .u64 (bits .xor .u64 a b) c) d:=by
 rw [<-Ri (ML f g) i k];rfl
theorem Du.u64 {w:jj} {b:Nat} {s:S4} (h:Du w b s):BC s.a/\BC s.b/\BC s.c/\BC s.d:=by
 obtain ⟨x0,u,v,x,y,z,A,B,⟨f,g,i,k,l,m,n,o⟩, -,p,q,r,t⟩:=h;exact ⟨p ▸ Ks f g,q ▸ Ks i k,r ▸ Ks l m,t ▸ Ks n o⟩
theorem Rp (s:S4):s.rounds 4=s.round.round.round.round:=rfl
theorem F2 (key t:jt) (w:jj) (hk:key.size=16) (ht:t.size<=1099511627776):
  Calls Tryz.prog 114 #[.string key,.string t] w (Gx w (Gv (Cs key t))):=by
 obtain ⟨i0,hi,bj,bk,bl⟩:=info_parts Tryz.infoWord;obtain ⟨ax,ae⟩:∃X,X=Cs key t:=⟨_,rfl⟩;rw [<-ae];have bm:=jp ae;obtain ⟨K,hK⟩:∃X,X=BE key 0:=⟨_,rfl⟩;obtain ⟨L,hL⟩:∃X,X=BE key 8:=⟨_,rfl⟩;have HK:=jp hK;have HL:=jp hL;have db:Hid (BC K):=by show BC K;rw [hK];exact OA _ _
 have dc:Hid (BC L):=by show BC L;rw [hL];exact OA _ _
 have bn:(key.extract 0 8).size=8:=by simp;omega
 have N:BE (key.extract 0 8) 0=K:=by rw [hK];exact MN key 0 8 (by omega) (by omega)
 have bo:(key.extract 8 16).size=8:=by simp;omega
 have bp:BE (key.extract 8 16) 0=L:=by rw [hL];exact MN key 8 16 (by omega) (by omega)
 have r1:=fun U=>LD (key.extract 0 8) U bn
 have r2:=fun U=>LD (key.extract 8 16) U bo
 rw [N] at r1;rw [bp] at r2;clear hK hL ae N bp bn bo;go_enter Tryz.func114,Tryz.ntmps114;go_wp2_with fail;refine (r1 _).mono ?_;rintro e w1 ⟨Q,R,rfl,a9,dd,de,ek⟩;have a0:BM w.heap.size w1 (.pointer (some ⟨w.heap.size,0,none⟩)):=(BM.new (jH _) (x:=0) (y:=0) ⟨by decide,by decide⟩ ⟨by decide,by decide⟩ 144).later a9;have bq:Aa w w1:=(Aa.step_alloc (jD w) _).trans a9;have S1:AP w1 [(.pointer (some ⟨w1.heap.size,0,none⟩),K)] (w1.alloc (.cells #[.int .i64 Q,.int .i64 R] 144)):=(AP.nil w1).more (Aa.step_alloc (jD _) _) (AX.new (jH _) dd de ek _) (jH _);clear a9 r1;go_wp2_with fail;have df:key.extract 8 key.size=key.extract 8 16:=by rw [hk]
 first|rw [df]|skip
 refine (r2 _).mono ?_;rintro e w2 ⟨l0,l1,rfl,n,dg,dh,el⟩;have S2:AP w1 [(.pointer (some ⟨w1.heap.size,0,none⟩),K),(.pointer (some ⟨w2.heap.size,0,none⟩),L)] (w2.alloc (.cells #[.int .i64 l0,.int .i64 l1] 144)):=(S1.later n).more (Aa.step_alloc (jD _) _) (AX.new (S1.later n).1.size dg dh el _) (jH _);clear n S1 r2 ek el;go_wp2;go_loopg [8,9] 4 (fun g v i wr=>∃(k:Nat) (xs:List (Int×Int)),g=4 - k/\k<=4/\i= .int .i64 k/\xs.length=k/\(∀p∈xs,Af p.1/\Af p.2)/\Jt w1 K L (.pointer (some ⟨w1.heap.size,0,none⟩)) (.pointer (some ⟨w2.heap.size,0,none⟩)) (w2.heap.size+1) v k xs wr)
 case atStart=>exact ⟨0,[],rfl,by omega,rfl,rfl,fun p hp=>by simp at hp,_,S2.later jq,W8 _ _ _ _ _ rfl rfl rfl rfl (by decide) (by decide) (by decide) (by decide) _ _ (by simp),jD _,World.ownsRow_nil _ _ _ _,rfl⟩
 case round=>
  obtain ⟨k,xs,hg,gj,rfl,ba,ay,S,T,aa,Y,O,a1⟩:=hrel;clear S2;have af:=T.later Y;have br:=aa.later Y;have ab:=jp a1;clear a1;by_cases bs:k<4
  .obtain ⟨s,fr,gl,bt⟩:=br k bs;obtain ⟨pk,kx,ky,ek,gm,di,gn,go,gp,dj,dk,bb⟩:=af.2.1 (.pointer (some ⟨w1.heap.size,0,none⟩),K) (by simp);obtain ⟨pl,lx,ly,el,gq,dl,gr,gs,gt,dm,dn,bc⟩:=af.2.1 (.pointer (some ⟨w2.heap.size,0,none⟩),L) (by simp);simp only [Value.pointer.injEq,Option.some.injEq,Addr.mk.injEq,and_true] at el ek;subst el ek;simp only at bb bc;have dp:(s.extract 0 4).size=4:=by simp;omega
   have dq:(s.extract 4 8).size=4:=by simp;omega
   have q1:w1.heap.size<wr.heap.size:=jF di;have q2:w2.heap.size<wr.heap.size:=jF dl;have bu:=Jx _ dp;have bv:=Jx _ dq;have HN:Hid (wv (BQ (s.extract 0 4).data.toList) (BQ (s.extract 4 8).data.toList)=CY k):=bt;have dr:=jp bb;have ds:=jp bc;clear bt bb bc;by_cases ag:k % 2=0
   .have dt:((k:Int) % 2==0)=true:=by rw [beq_iff_eq];omega
    have HP:Hid (Ci K L k=Be (CY k) K):=by show Ci K L k=_;unfold Ci;rw [if_pos ag]
    go_wp2_with fail;refine (Fu _ _ (by omega)).mono ?_;rintro e w3 ⟨rfl,rfl⟩;generalize BQ (s.extract 0 4).data.toList=na at *;go_wp2_with fail;refine (Fu _ _ (by omega)).mono ?_;rintro e w4 ⟨rfl,rfl⟩;generalize BQ (s.extract 4 8).data.toList=nb at *;go_wp2_with fail;refine (Fb _ _ _ _ _ bu bv dj dk).mono ?_;rintro e w5 ⟨Z,m1,rfl,ah,bd,be,em⟩
    have EM:Hid (wv Z m1=Ci K L k):=by
     show wv Z m1=_;have bf:wv Z m1=Be (wv na nb) (wv kx ky):=em;rw [bf,HN.out,dr.out,HP.out]
    clear em;obtain ⟨du,dv⟩:=ah.cells;have dw:Aa wr w5:=jq
    have bg:=ah.size;simp only [World.size_alloc] at bg;have ai:Aa wr ((w5.setCell ⟨wr.heap.size,0,none⟩ (.int .i64 Z)).setCell ⟨wr.heap.size,1,none⟩ (.int .i64 m1)):=jq
    go_wp2_with (first|(at_builtin;refine wpList_append_own _ rfl _ _ 201 rfl S.heap.size 144 i0 (.agg #[.int .i64 0,.int .i64 0]) 2 16 Tryz.underlying201 hi bj bk bl rfl (by decide) _ k (Fg xs) rfl ?o1 ⟨w5.heap.size,0,none⟩ 1 1 [.int .i64 Z,.int .i64 m1] rfl rfl ?c1 ?c2 ?c3 ?c4 ?c5 ?_))
    case o1=>exact (I6 O ai).alloc _
    case c1=>exact I0 _ _ _ _ _ (by simp)
    case c2=>intro u hu;simp at hu;rcases hu with rfl|rfl <;>rfl
    case c3=>unfold maxLen;omega
    case c4=>omega
    case c5=>have:=Y.size;simp;omega
    intro v' w6 C E _;have G:=Jt.step (p:=(Z,m1)) T aa Y O ab.out (ai.step_alloc _) E C EM.out;clear C E;go_wp2;go_roundg (4 - (k+1))
    case measure=>omega
    case rel=>exact ⟨k+1,xs++[(Z,m1)],rfl,by omega,by go_num,by simp [ba],fun p hp=>by rcases jT.1 hp with h|h;exact ay p h;(simp at h;subst h;exact ⟨bd,be⟩),G⟩
   .have dx:((k:Int) % 2==0)=false:=by rw [jI];omega
    have HP:Hid (Ci K L k=Be (CY k) L):=by show Ci K L k=_;unfold Ci;rw [if_neg ag]
    clear ag;go_wp2_with fail;refine (Fu _ _ (by omega)).mono ?_;rintro e w3 ⟨rfl,rfl⟩;generalize BQ (s.extract 0 4).data.toList=na at *;go_wp2_with fail;refine (Fu _ _ (by omega)).mono ?_;rintro e w4 ⟨rfl,rfl⟩;generalize BQ (s.extract 4 8).data.toList=nb at *;go_wp2_with fail;refine (Fb _ _ _ _ _ bu bv dm dn).mono ?_;rintro e w5 ⟨Z,m1,rfl,ah,bd,be,em⟩
    have EM:Hid (wv Z m1=Ci K L k):=by
     show wv Z m1=_;have bf:wv Z m1=Be (wv na nb) (wv lx ly):=em;rw [bf,HN.out,ds.out,HP.out]
    clear em;obtain ⟨du,dv⟩:=ah.cells;have dw:Aa wr w5:=jq
    have bg:=ah.size;simp only [World.size_alloc] at bg;have ai:Aa wr ((w5.setCell ⟨wr.heap.size,0,none⟩ (.int .i64 Z)).setCell ⟨wr.heap.size,1,none⟩ (.int .i64 m1)):=jq
    go_wp2_with (first|(at_builtin;refine wpList_append_own _ rfl _ _ 201 rfl S.heap.size 144 i0 (.agg #[.int .i64 0,.int .i64 0]) 2 16 Tryz.underlying201 hi bj bk bl rfl (by decide) _ k (Fg xs) rfl ?o1 ⟨w5.heap.size,0,none⟩ 1 1 [.int .i64 Z,.int .i64 m1] rfl rfl ?c1 ?c2 ?c3 ?c4 ?c5 ?_))
    case o1=>exact (I6 O ai).alloc _
    case c1=>exact I0 _ _ _ _ _ (by simp)
    case c2=>intro u hu;simp at hu;rcases hu with rfl|rfl <;>rfl
    case c3=>unfold maxLen;omega
    case c4=>omega
    case c5=>have:=Y.size;simp;omega
    intro v' w6 C E _;have G:=Jt.step (p:=(Z,m1)) T aa Y O ab.out (ai.step_alloc _) E C EM.out;clear C E;go_wp2;go_roundg (4 - (k+1))
    case measure=>omega
    case rel=>exact ⟨k+1,xs++[(Z,m1)],rfl,by omega,by go_num,by simp [ba],fun p hp=>by rcases jT.1 hp with h|h;exact ay p h;(simp at h;subst h;exact ⟨bd,be⟩),G⟩
  .have hk:k=4:=by omega
   subst hk;obtain ⟨g,cap,rfl,gu,h4⟩:=Qq O ay ab.out db.out dc.out;have az:Aa w wr:=bq.trans af.1;have ac:BM w.heap.size wr (.pointer (some ⟨w.heap.size,0,none⟩)):=a0.later af.1;clear O af T br aa Y ay ba ab a0;go_wp2;go_loopg [1] (7 - t.size % 8) (fun r x U=>U=wr/\∃(s:jt),x= .string s/\r=7 - s.size % 8/\s.size+r=t.size+(7 - t.size % 8)/\Gm t s)
   case atStart=>exact ⟨rfl,t,rfl,rfl,rfl,Gm.refl t⟩
   case round=>
    obtain ⟨rfl,s,rfl,hr,bw,a2⟩:=hrel;have HF:=jp a2;clear a2;have HZ:Hid (s.size+gk=t.size+(7 - t.size % 8)):=bw;have dy:s.size<=1099511627790:=by omega
    clear bw;by_cases h7:s.size % 8=7
    .have bz:((s.size:Int) % 8 !=7)=false:=by rw [jc];omega
     have dz:=Kn;have d8:=EU;have b0:Hid (Gz t (s++BH ((t.size:Int) % 256))):=HF.out.done (by have:=HZ.out;omega);go_wp2_with fail;have b1:(s++BH ((t.size:Int) % 256)).size=s.size+1:=by simp [EU]
     generalize s++BH ((t.size:Int) % 256)=y at *;have gv:y.size % 8=0:=by omega
     have gw:y.size<=1099511627791:=by omega
     have gx:y.size=8 * (t.size / 8)+8:=b0.out.2.2.2;clear b1 bz h7 HZ hr dz d8 dy HF;have bh:Aa wr (wr.alloc (.cells #[.int .u8 ((t.size:Int) % 256)] 5)):=Aa.step_alloc (jD _) _;have b3:Du (wr.alloc (.cells #[.int .u8 ((t.size:Int) % 256)] 5)) g (CH y (Dt K L) 0):=h4.later bh;have b4:=az.trans bh;have b5:=ac.later bh;clear h4 az ac;go_loopg [8,14] (y.size / 8) (fun r v i U=>∃(V a3 q:Nat),v= .slice (some ⟨V,0,none⟩) 4 a3/\i= .int .i64 (8 * q)/\q+r=y.size / 8/\Du U V (CH y (Dt K L) q)/\Aa w U/\BM w.heap.size U (.pointer (some ⟨w.heap.size,0,none⟩)))
     case atStart=>exact ⟨g,cap,0,rfl,rfl,by omega,b3,b4,b5⟩
     case round=>
      obtain ⟨V,a3,q,rfl,rfl,hq,h4,az,ac⟩:=hrel;clear b3 b4 b5;have b6:=jp az;have b7:=jp ac;by_cases bs:8 * q<y.size
      .have d9:(y.extract (8 * q) (8 * q+8)).size=8:=by simp;omega
       have b8:BE (y.extract (8 * q) (8 * q+8)) 0=BE y (8 * q):=MN y _ _ (by omega) (by omega);have rd:=fun U=>LD _ U d9
       rw [b8] at rd;have HT:Hid (CH y (Dt K L) (q+1)=(CH y (Dt K L) q).take (BE y (8 * q))):=rfl;generalize CH y (Dt K L) q=T0 at *;generalize BE y (8 * q)=M at *;obtain ⟨x0,x1,x2,x3,x4,x5,x6,x7,⟨g0,g1,g2,g3,g4,g5,g6,g7⟩,⟨c0,c1,c2,c3,c4,c5,c6,c7⟩,e0,e1,e2,e3⟩:=h4;obtain ⟨ta,tb,tc,td⟩:=T0;simp only at e0 e1 e2 e3;obtain ⟨D,ED⟩:∃X,X=Be td M:=⟨_,rfl⟩;obtain ⟨R2,ER⟩:∃X,X=S4.rounds ⟨ta,tb,tc,D⟩ 2:=⟨_,rfl⟩;have HD:=jp ED;have HR:=jp ER;clear ED ER b8;have f:AP wr [] wr:=AP.nil wr;go_upto_region 22 with fail
       go_cut [15] (fun u15 wc=>AP wr [(u15,M)] wc)
       case first=>
        go_wp2_with fail;refine (rd _).mono ?_;rintro e o ⟨A,B,rfl,n,Q,R,P⟩;have W:Hid (wv A B=M):=P;clear P;go_wp2;go_meet
        case rel=>
         have m:Aa wr o:=jq
         exact f.more (m.step_alloc _) (AX.new (f.1.trans m).size Q R W.out _) m.size
       case rest=>
        replace f:=hcut;clear hcut rd;go_upto_region 23 with fail
        go_cut [16] (fun u16 wc=>AP wr [(u15,M),(u16,D)] wc)
        case first=>
         have d6:=f.1.cell c6;have d7:=f.1.cell c7;obtain ⟨aj,ak,al,am,b9,an,ao,ca,cb,ap,aq,ad⟩:=f.2.1 (u15,M) (by simp);simp only at am;subst am;go_region_held3 (fun w'=>Aa wc w'/\w'.cell? ⟨V,6,none⟩=some (.int .i64 x6)/\w'.cell? ⟨V,7,none⟩=some (.int .i64 x7)/\w'.cell? ⟨aj,0,none⟩=some (.int .i64 ak)/\w'.cell? ⟨aj,1,none⟩=some (.int .i64 al)) ((refine If ?_ d6 d7 an ao;exact jq)) ((go_at_call 167;refine (Fb _ _ _ _ _ g6 g7 ap aq).mono ?_;rintro e o ⟨A,B,rfl,n,Q,R,P⟩;obtain ⟨F,H⟩:=n.cells))
         all_goals
          have W:Hid (wv A B=D):=by
           show wv A B=D;have I:wv A B=Be (wv x6 x7) (wv ak al):=P;rw [I,e3,ad,HD.out]
          clear P;go_wp2;go_meet
          case rel=>
           have m:Aa wc o:=jq
           have hw:=(f.1.trans m).size;have N:=f.1.size
           first
            |exact f.more (m.step_alloc _) (AX.new hw Q R W.out _) m.size
            |exact f.more ((m.step_set (p:=⟨wc.heap.size,0,none⟩) (jH _) _).step_set (p:=⟨wc.heap.size,1,none⟩) (jH _) _) (AX.stored N ((F _ _ (by simp)).trans (by simp;rfl)) ((F _ _ (by simp)).trans (by simp;rfl)) ((H _ _ (by simp)).trans (by simp)) ((H _ _ (by simp)).trans (by simp)) Q R W.out) (jH _)
        case rest=>
         replace f:=hcut;clear hcut;go_upto_region 24 with fail
         go_cut [8] (fun v8 wc=>∃z l:Nat,v8= .slice (some ⟨z,0,none⟩) 4 l/\AP wr [(u15,M),(u16,D)] wc/\Du wc z R2)
         case first=>
          have d0:=f.1.cell c0;have d1:=f.1.cell c1;have d2:=f.1.cell c2;have d3:=f.1.cell c3;have d4:=f.1.cell c4;have d5:=f.1.cell c5;obtain ⟨cc,fa,fb,cd,fs,ce,cf,ft,fu,cg,ch,a4⟩:=f.2.1 (u16,D) (by simp);simp only at cd a4;subst cd;have ar:=fun (bx cx:Nat) U (hf:Du U bx ⟨ta,tb,tc,D⟩)=>Om bx cx 2 ⟨ta,tb,tc,D⟩ U (by omega) hf
          rw [<-HR.out] at ar;go_region_held3 (fun w'=>Aa wc w'/\w'.cell? ⟨V,0,none⟩=some (.int .i64 x0)/\w'.cell? ⟨V,1,none⟩=some (.int .i64 x1)/\w'.cell? ⟨V,2,none⟩=some (.int .i64 x2)/\w'.cell? ⟨V,3,none⟩=some (.int .i64 x3)/\w'.cell? ⟨V,4,none⟩=some (.int .i64 x4)/\w'.cell? ⟨V,5,none⟩=some (.int .i64 x5)/\w'.cell? ⟨cc,0,none⟩=some (.int .i64 fa)/\w'.cell? ⟨cc,1,none⟩=some (.int .i64 fb)) ((refine LT ?_ d0 d1 d2 d3 d4 d5 ce cf;exact jq)) ((go_at_call 168;refine (ar _ _ _ ⟨_,_,_,_,_,_,_,_,⟨g0,g1,g2,g3,g4,g5,cg,ch⟩,⟨by simp,by simp,by simp,by simp,by simp,by simp,by simp,by simp⟩,e0,e1,e2,a4⟩).mono ?_;rintro e o ⟨z,l,rfl,n,bi⟩))
          all_goals
           go_wp2;go_meet
           case rel=>
            have m:Aa wc o:=jq
            exact ⟨z,l,rfl,f.later m,bi⟩
         case rest=>
          obtain ⟨z,l,rfl,J,hF⟩:=hcut;replace f:=J;clear J;obtain ⟨ra,rb,rc,rd⟩:=R2;obtain ⟨AA,EA⟩:∃X,X=Be ra M:=⟨_,rfl⟩;have HA:=jp EA;clear EA;go_upto_region 25 with fail
          go_cut [17] (fun u17 wc=>AP wr [(u15,M),(u16,D),(u17,AA)] wc/\Du wc z ⟨ra,rb,rc,rd⟩)
          case first=>
           have au:=hF;obtain ⟨y0,y1,y2,y3,y4,y5,y6,y7,⟨f0,f1,f2,f3,f4,f5,f6,f7⟩,⟨d0,d1,d2,d3,d4,d5,d6,d7⟩,n0,n1,n2,n3⟩:=hF;simp only at n0 n1 n2 n3;obtain ⟨aj,ak,al,am,b9,an,ao,ca,cb,ap,aq,ad⟩:=f.2.1 (u15,M) (by simp);simp only at am ad;subst am;go_region_held3 (fun w'=>Aa wc w'/\w'.cell? ⟨z,0,none⟩=some (.int .i64 y0)/\w'.cell? ⟨z,1,none⟩=some (.int .i64 y1)/\w'.cell? ⟨aj,0,none⟩=some (.int .i64 ak)/\w'.cell? ⟨aj,1,none⟩=some (.int .i64 al)) ((refine If ?_ d0 d1 an ao;exact jq)) ((go_at_call 167;refine (Fb _ _ _ _ _ f0 f1 ap aq).mono ?_;rintro e o ⟨A,B,rfl,n,Q,R,P⟩;obtain ⟨F,H⟩:=n.cells))
           all_goals
            have W:Hid (wv A B=AA):=by
             show wv A B=AA;have I:wv A B=Be (wv y0 y1) (wv ak al):=P;rw [I,n0,ad,HA.out]
            clear P;go_wp2;go_meet
            case rel=>
             have m:Aa wc o:=jq
             have hw:=(f.1.trans m).size;have N:=f.1.size
             first
              |exact ⟨f.more (m.step_alloc _) (AX.new hw Q R W.out _) m.size,au.later (m.step_alloc _)⟩
              |exact ⟨f.more ((m.step_set (p:=⟨wc.heap.size,0,none⟩) (jH _) _).step_set (p:=⟨wc.heap.size,1,none⟩) (jH _) _) (AX.stored N ((F _ _ (by simp)).trans (by simp;rfl)) ((F _ _ (by simp)).trans (by simp;rfl)) ((H _ _ (by simp)).trans (by simp)) ((H _ _ (by simp)).trans (by simp)) Q R W.out) (jH _),au.later ((m.step_set (p:=⟨wc.heap.size,0,none⟩) (jH _) _).step_set (p:=⟨wc.heap.size,1,none⟩) (jH _) _)⟩
          case rest=>
           obtain ⟨J,hF⟩:=hcut;replace f:=J;clear J;go_upto_region 26 with fail
           obtain ⟨y0,y1,y2,y3,y4,y5,y6,y7,⟨f0,f1,f2,f3,f4,f5,f6,f7⟩,⟨d0,d1,d2,d3,d4,d5,d6,d7⟩,n0,n1,n2,n3⟩:=hF;simp only at n0 n1 n2 n3;obtain ⟨ci,fc,fd,cj,fv,ck,cl,fw,fx,cm,cn,a5⟩:=f.2.1 (u17,AA) (by simp);simp only at cj a5;subst cj
           have av:Hid (CH y (Dt K L) (q+1)=⟨AA,rb,rc,rd⟩):=by
            show CH y (Dt K L) (q+1)=_;rw [HT.out,HA.out];show (⟨bits .xor .u64 (S4.round (S4.round ⟨ta,tb,tc,bits .xor .u64 td M⟩)).a M,(S4.round (S4.round ⟨ta,tb,tc,bits .xor .u64 td M⟩)).b,(S4.round (S4.round ⟨ta,tb,tc,bits .xor .u64 td M⟩)).c,(S4.round (S4.round ⟨ta,tb,tc,bits .xor .u64 td M⟩)).d⟩:S4)=_
            have fe:S4.round (S4.round ⟨ta,tb,tc,bits .xor .u64 td M⟩)=⟨ra,rb,rc,rd⟩:=by
             rw [HR.out,HD.out];rfl
            rw [fe];rfl
           go_region_held3 (fun w'=>Aa wc w'/\w'.cell? ⟨ci,0,none⟩=some (.int .i64 fc)/\w'.cell? ⟨ci,1,none⟩=some (.int .i64 fd)/\w'.cell? ⟨z,2,none⟩=some (.int .i64 y2)/\w'.cell? ⟨z,3,none⟩=some (.int .i64 y3)/\w'.cell? ⟨z,4,none⟩=some (.int .i64 y4)/\w'.cell? ⟨z,5,none⟩=some (.int .i64 y5)/\w'.cell? ⟨z,6,none⟩=some (.int .i64 y6)/\w'.cell? ⟨z,7,none⟩=some (.int .i64 y7)) ((refine LT ?_ ck cl d2 d3 d4 d5 d6 d7;exact jq)) (fail)
           all_goals
            go_wp2;go_roundg (gk - 1)
            case measure=>omega
            case rel=>
             have m:Aa wr _:=f.1;exact ⟨wc.heap.size,4,q+1,rfl,by go_num,by omega,by rw [av.out];exact ⟨_,_,_,_,_,_,_,_,⟨cm,cn,f2,f3,f4,f5,f6,f7⟩,⟨by simp,by simp,by simp,by simp,by simp,by simp,by simp,by simp⟩,a5,n1,n2,n3⟩,b6.out.trans (f.1.trans jq),b7.out.later (f.1.trans jq)⟩
      .obtain rfl:q=t.size / 8+1:=by omega
       have HT:Hid (CH y (Dt K L) (t.size / 8+1)=(CH t (Dt K L) (t.size / 8)).take (bits .or .u64 (BE t (8 * (t.size / 8))) ((t.size:Int) * 72057594037927936 % 18446744073709551616))):=Wf b0.out _;generalize CH y (Dt K L) (t.size / 8+1)=T0 at *;have HU:=jp h4.u64;obtain ⟨x0,x1,x2,x3,x4,x5,x6,x7,⟨g0,g1,g2,g3,g4,g5,g6,g7⟩,⟨c0,c1,c2,c3,c4,c5,c6,c7⟩,e0,e1,e2,e3⟩:=h4;obtain ⟨ta,tb,tc,td⟩:=T0;simp only at e0 e1 e2 e3;obtain ⟨CC,EC⟩:∃X,X=Be tc 255:=⟨_,rfl⟩;obtain ⟨R4,ER⟩:∃X,X=S4.rounds ⟨ta,tb,CC,td⟩ 4:=⟨_,rfl⟩;have HC:=jp EC;have HR:=jp ER;clear EC ER;have f:AP wr [] wr:=AP.nil wr;go_upto_region 27 with fail
       go_cut [18] (fun u18 wc=>AP wr [(u18,CC)] wc)
       case first=>
        go_wp2_with fail;refine (Fb _ _ _ _ _ g4 g5 ⟨by decide,by decide⟩ ⟨by decide,by decide⟩).mono ?_;rintro e o ⟨A,B,rfl,n,Q,R,P⟩
        have W:Hid (wv A B=CC):=by
         show wv A B=CC;have I:wv A B=Be (wv x4 x5) (wv 0 255):=P;rw [I,e2,HC.out];rfl
        clear P;go_wp2;go_meet
        case rel=>
         have m:Aa wr o:=jq
         exact f.more (m.step_alloc _) (AX.new (f.1.trans m).size Q R W.out _) m.size
       case rest=>
        replace f:=hcut;clear hcut;go_upto_region 28 with fail
        go_cut [8] (fun v8 wc=>∃z l:Nat,v8= .slice (some ⟨z,0,none⟩) 4 l/\AP wr [(u18,CC)] wc/\Du wc z R4)
        case first=>
         have d0:=f.1.cell c0;have d1:=f.1.cell c1;have d2:=f.1.cell c2;have d3:=f.1.cell c3;have d6:=f.1.cell c6;have d7:=f.1.cell c7;obtain ⟨co,ff,fg,cp,fy,cq,cr,fz,f8,cs,ct,a6⟩:=f.2.1 (u18,CC) (by simp);simp only at cp a6;subst cp;have ar:=fun (bx cx:Nat) U (hf:Du U bx ⟨ta,tb,CC,td⟩)=>Om bx cx 4 ⟨ta,tb,CC,td⟩ U (by omega) hf
         rw [<-HR.out] at ar;go_region_held3 (fun w'=>Aa wc w'/\w'.cell? ⟨V,0,none⟩=some (.int .i64 x0)/\w'.cell? ⟨V,1,none⟩=some (.int .i64 x1)/\w'.cell? ⟨V,2,none⟩=some (.int .i64 x2)/\w'.cell? ⟨V,3,none⟩=some (.int .i64 x3)/\w'.cell? ⟨co,0,none⟩=some (.int .i64 ff)/\w'.cell? ⟨co,1,none⟩=some (.int .i64 fg)/\w'.cell? ⟨V,6,none⟩=some (.int .i64 x6)/\w'.cell? ⟨V,7,none⟩=some (.int .i64 x7)) ((refine LT ?_ d0 d1 d2 d3 cq cr d6 d7;exact jq)) ((go_at_call 168;refine (ar _ _ _ ⟨_,_,_,_,_,_,_,_,⟨g0,g1,g2,g3,cs,ct,g6,g7⟩,⟨by simp,by simp,by simp,by simp,by simp,by simp,by simp,by simp⟩,e0,e1,a6,e3⟩).mono ?_;rintro e o ⟨z,l,rfl,n,bi⟩))
         all_goals
          go_wp2;go_meet
          case rel=>
           have m:Aa wc o:=jq
           exact ⟨z,l,rfl,f.later m,bi⟩
        case rest=>
         obtain ⟨z,l,rfl,J,hF⟩:=hcut;replace f:=J;clear J;have fh:=jp hF.u64;obtain ⟨ra,rb,rc,rd⟩:=R4;obtain ⟨XX,EX⟩:∃X,X=Be ra rb:=⟨_,rfl⟩;obtain ⟨YY,EY⟩:∃X,X=Be rc rd:=⟨_,rfl⟩;have HX:=jp EX;have HY:=jp EY;clear EX EY
         have av:Hid (ax=Be XX YY):=by
          show ax=_;obtain ⟨v1,v2,v3,v4⟩:=fh.out;rw [bm.out,HX.out,HY.out,YP v1 v2 v3 v4]
          have fi:(⟨ra,rb,rc,rd⟩:S4)=S4.round (S4.round (S4.round (S4.round ⟨ta,tb,bits .xor .u64 tc 255,td⟩))):=by
           rw [HR.out,Rp,HC.out];rfl
          unfold Cs;rw [<-HK.out,<-HL.out];simp only;rw [<-HT.out];simp only;rw [<-fi]
         go_upto_region 29 with fail
         go_cut [19] (fun u19 wc=>AP wr [(u18,CC),(u19,XX)] wc/\Du wc z ⟨ra,rb,rc,rd⟩)
         case first=>
          have au:=hF;obtain ⟨y0,y1,y2,y3,y4,y5,y6,y7,⟨f0,f1,f2,f3,f4,f5,f6,f7⟩,⟨d0,d1,d2,d3,d4,d5,d6,d7⟩,n0,n1,n2,n3⟩:=hF;simp only at n0 n1 n2 n3;go_region_held3 (fun w'=>Aa wc w'/\w'.cell? ⟨z,0,none⟩=some (.int .i64 y0)/\w'.cell? ⟨z,1,none⟩=some (.int .i64 y1)/\w'.cell? ⟨z,2,none⟩=some (.int .i64 y2)/\w'.cell? ⟨z,3,none⟩=some (.int .i64 y3)) ((refine If ?_ d0 d1 d2 d3;exact jq)) ((go_at_call 167;refine (Fb _ _ _ _ _ f0 f1 f2 f3).mono ?_;rintro e o ⟨A,B,rfl,n,Q,R,P⟩;obtain ⟨F,H⟩:=n.cells))
          all_goals
           have W:Hid (wv A B=XX):=by
            show wv A B=XX;have I:wv A B=Be (wv y0 y1) (wv y2 y3):=P;rw [I,n0,n1,HX.out]
           clear P;go_wp2;go_meet
           case rel=>
            have m:Aa wc o:=jq
            have hw:=(f.1.trans m).size;have N:=f.1.size
            first
             |exact ⟨f.more (m.step_alloc _) (AX.new hw Q R W.out _) m.size,au.later (m.step_alloc _)⟩
             |exact ⟨f.more ((m.step_set (p:=⟨wc.heap.size,0,none⟩) (jH _) _).step_set (p:=⟨wc.heap.size,1,none⟩) (jH _) _) (AX.stored N ((F _ _ (by simp)).trans (by simp;rfl)) ((F _ _ (by simp)).trans (by simp;rfl)) ((H _ _ (by simp)).trans (by simp)) ((H _ _ (by simp)).trans (by simp)) Q R W.out) (jH _),au.later ((m.step_set (p:=⟨wc.heap.size,0,none⟩) (jH _) _).step_set (p:=⟨wc.heap.size,1,none⟩) (jH _) _)⟩
         case rest=>
          obtain ⟨J,hF⟩:=hcut;replace f:=J;clear J;go_upto_region 30 with fail
          go_cut [20] (fun u20 wc=>AP wr [(u18,CC),(u19,XX),(u20,YY)] wc)
          case first=>
           obtain ⟨y0,y1,y2,y3,y4,y5,y6,y7,⟨f0,f1,f2,f3,f4,f5,f6,f7⟩,⟨d0,d1,d2,d3,d4,d5,d6,d7⟩,n0,n1,n2,n3⟩:=hF;simp only at n0 n1 n2 n3;go_region_held3 (fun w'=>Aa wc w'/\w'.cell? ⟨z,4,none⟩=some (.int .i64 y4)/\w'.cell? ⟨z,5,none⟩=some (.int .i64 y5)/\w'.cell? ⟨z,6,none⟩=some (.int .i64 y6)/\w'.cell? ⟨z,7,none⟩=some (.int .i64 y7)) ((refine If ?_ d4 d5 d6 d7;exact jq)) ((go_at_call 167;refine (Fb _ _ _ _ _ f4 f5 f6 f7).mono ?_;rintro e o ⟨A,B,rfl,n,Q,R,P⟩;obtain ⟨F,H⟩:=n.cells))
           all_goals
            have W:Hid (wv A B=YY):=by
             show wv A B=YY;have I:wv A B=Be (wv y4 y5) (wv y6 y7):=P;rw [I,n2,n3,HY.out]
            clear P;go_wp2;go_meet
            case rel=>
             have m:Aa wc o:=jq
             have hw:=(f.1.trans m).size;have N:=f.1.size
             first
              |exact f.more (m.step_alloc _) (AX.new hw Q R W.out _) m.size
              |exact f.more ((m.step_set (p:=⟨wc.heap.size,0,none⟩) (jH _) _).step_set (p:=⟨wc.heap.size,1,none⟩) (jH _) _) (AX.stored N ((F _ _ (by simp)).trans (by simp;rfl)) ((F _ _ (by simp)).trans (by simp;rfl)) ((H _ _ (by simp)).trans (by simp)) ((H _ _ (by simp)).trans (by simp)) Q R W.out) (jH _)
          case rest=>
           replace f:=hcut;clear hcut;obtain ⟨gy,fj,fk,cu,f9,ga,gb,gc,gd,cv,cw,a7⟩:=f.2.1 (u19,XX) (by simp);simp only at cu a7;subst cu;obtain ⟨gz,fl,fm,cy,ge,gf,gg,gh,gi,cz,c8,a8⟩:=f.2.1 (u20,YY) (by simp);simp only at cy a8;subst cy;obtain ⟨p4,X4,Y4,E4,g8,c9,da,fn,fo,g9,ha⟩:=b7.out.later f.1;simp only [Value.pointer.injEq,Option.some.injEq,Addr.mk.injEq,and_true] at E4;subst E4;go_wp2_with fail;refine (Fb _ _ _ _ _ cv cw cz c8).mono ?_;rintro e w3 ⟨A,B,rfl,aw,Q,R,P⟩
           have W:Hid (Gv ax A B):=by
            show wv A B=ax;have I:wv A B=Be (wv fj fk) (wv fl fm):=P;rw [I,a7,a8,av.out]
           clear P;have fp:=aw.cell c9;have fq:=aw.cell da;have hb:=aw.frozen c9 fn;have hc:=aw.frozen da fo;have m:=(b6.out.trans f.1).trans aw;go_wp2;exact bodyPost_ret (v:= .agg #[.int .i64 A,.int .i64 B]) (by simp [results,Tryz.results114,go_sem,fp,fq]) rfl ⟨_,_,rfl,(m.step_set (p:=⟨w.heap.size,0,none⟩) (jH _) _).step_set (p:=⟨w.heap.size,1,none⟩) (jH _) _,Q,R,W.out⟩
    .have bz:((s.size:Int) % 8 !=7)=true:=by rw [bne_iff_ne];omega
     go_wp2;go_roundg (7 - (s.size+1) % 8)
     case measure=>omega
     case rel=>exact ⟨rfl,_,rfl,by simp;rfl,by rw [jY];exact RA hr h7 HZ.out,HF.out.more⟩
end Go.Proofs.YtpapdkhjdelfcaaGreat
