import Derived.Test.YtpapdkhjdelfcaaGreatLBE
import Derived.Deep.QuietTactic
import Derived.BigQuiet
import Derived.Deep.RegionWith
namespace Go.Proofs.YtpapdkhjdelfcaaGreat
open Go.RowKit
set_option maxRecDepth 100000
set_option maxHeartbeats 4000000
theorem KH:GP ⟨#[52,49,50,50]⟩:=IH [52,49,50,50] ji
theorem Aj.four {a b c d:Int} (f:Aj a) (g:Aj b) (i:Aj c) (k:Aj d):∀t,Aj ([a,b,c,d].getD t 0):=by
 intro t
 match t with
 |0=>exact f
 |1=>exact g
 |2=>exact i
 |3=>exact k
 |_+4=>exact (show Aj 0 from ⟨ji,ji⟩)
theorem Ab.put {M:List Nat} {a w:World} (h:Ab M a w) {p:Addr} (f:p.block∈M\/a.heap.size<=p.block) (u:Value):Ab M a (w.setCell p u):=
 Ab.mk h.os h.tape h.output (by have := h.size; simpa [World.setCell] using this) (fun k g c => by
   have b : k ≠ p.block := fun e => by
     rcases f with d | d
     . exact c (e ▸ d)
     . omega
   rw [Below.heap_setCell _ _ _ _ b]
   exact h.block k g c)
theorem BX.put0 {w:World} {p:Nat} {a:Int} {d:Value} {f c:Int} {g:Value} {i:Bool} (h:BX w p a d f c g i):
  (∀x:Int,BX (w.setCell ⟨p,2,none⟩ (.int .i64 x)) p a d x c g i)/\(∀x:Int,BX (w.setCell ⟨p,3,none⟩ (.int .i64 x)) p a d f x g i)/\(∀v:Value,BX (w.setCell ⟨p,4,none⟩ v) p a d f c v i)/\
  (∀b:Bool,BX (w.setCell ⟨p,5,none⟩ (.bool b)) p a d f c g b)/\∀v:Value,BX (w.setCell ⟨p,1,none⟩ v) p a v f c g i:=by
 obtain ⟨⟨k,l,m,n,o,q⟩,r⟩:=h;refine ⟨fun x=>?_,fun x=>?_,fun x=>?_,fun x=>?_,fun x=>?_⟩
 .exact ⟨⟨(Ad js).trans k,(Ad js).trans l,Bc m,(Ad js).trans n,(Ad js).trans o,(Ad js).trans q⟩,fun j=>by rw [Ag];exact r j⟩
 .exact ⟨⟨(Ad js).trans k,(Ad js).trans l,(Ad js).trans m,Bc n,(Ad js).trans o,(Ad js).trans q⟩,fun j=>by rw [Ag];exact r j⟩
 .exact ⟨⟨(Ad js).trans k,(Ad js).trans l,(Ad js).trans m,(Ad js).trans n,Bc o,(Ad js).trans q⟩,fun j=>by rw [Ag];exact r j⟩
 .exact ⟨⟨(Ad js).trans k,(Ad js).trans l,(Ad js).trans m,(Ad js).trans n,(Ad js).trans o,Bc q⟩,fun j=>by rw [Ag];exact r j⟩
 .exact ⟨⟨(Ad js).trans k,Bc l,(Ad js).trans m,(Ad js).trans n,(Ad js).trans o,(Ad js).trans q⟩,fun j=>by rw [Ag];exact r j⟩
theorem BX.other {w:World} {p:Nat} {b:Int} {f:Value} {g c:Int} {i:Value} {k:Bool} (h:BX w p b f g c i k) {a:Addr} (l:a.block≠p) (u:Value):BX (w.setCell a u) p b f g c i k:=by
 obtain ⟨⟨m,n,q,r,s,t⟩,v⟩:=h;have d:∀o:Nat,(w.setCell a u).cell? ⟨p,o,none⟩=w.cell? ⟨p,o,none⟩:=fun o=>Ad (Or.inl l)
 exact ⟨⟨(d 0).trans m,(d 1).trans n,(d 2).trans q,(d 3).trans r,(d 4).trans s,(d 5).trans t⟩,fun j=>by rw [Ag];exact v j⟩
def CN (w:World) (p:Nat) (c:Int) (i d:Value) (f a:Int) (b:Value) (k:Nat) (l:Bool) (wr:World):Prop:=
 Ab (p::d.ownBlock.toList) w wr/\BX wr p c i f a b l/\Aj f/\Aj a/\Di wr b k/\k<=65535/\∀g,b.ownBlock=some g->g≠p/\(d.ownBlock=some g\/w.heap.size<=g)
def Jy (w:World) (p:Nat) (b:Int) (g i:Value) (e:Ending) (w':World):Prop:=e= .returned (.tuple #[])/\∃(a f:Value) (l k d:Int) (m:Nat) (n:Bool),CN w p b a i k d f m n w'/\
 (a=g\/∃q c B E,f.ownBlock=none/\a= .pointer (some ⟨q,0,none⟩)/\CL w.heap.size w' q c l B E/\Dh c l B E/\∀x∈E,Af x.2.1/\Af x.2.2)
theorem CN.done {w:World} {p:Nat} {a:Int} {d f:Value} {g b:Int} {c:Value} {i:Nat} {k:Bool} {wr:World} (h:CN w p a d f g b c i k wr):Jy w p a d f (.returned (.tuple #[])) wr:=⟨rfl,d,c,0,g,b,i,k,h,Or.inl rfl⟩
theorem CN.later {w:World} {p:Nat} {a:Int} {f g:Value} {i c:Int} {d:Value} {k:Nat} {l:Bool} {wr m:World} (h:CN w p a f g i c d k l wr) (b:Aa wr m):CN w p a f g i c d k l m:=by
 obtain ⟨n,o,q,s,t,r⟩:=h;exact ⟨n.step b,o.later b,q,s,t.later b,r⟩
theorem Di.put {w:World} {v:Value} {n:Nat} (h:Di w v n) {a:Addr} (c:v.ownBlock≠some a.block) (u:Value):Di (w.setCell a u) v n:=by
 rcases h with h|⟨g,cap,rfl,d,f⟩
 .exact Or.inl h
 .refine Or.inr ⟨g,cap,rfl,by simpa [World.setCell] using d,fun j i=>?_⟩;obtain ⟨s,k,l,m⟩:=f j i;have b:a.block≠g:=fun e=>c (by rw [e];rfl)
  exact ⟨s,(Ad (Or.inl b)).trans k,by rw [Ag];exact l,m⟩
theorem Di.set {w:World} {g n cap:Nat} (h:Di w (.slice (some ⟨g,0,none⟩) n cap) n) (k:Nat) (s:ByteArray) (i:s.size<=48):Di (w.setCell ⟨g,k,none⟩ (.string s)) (.slice (some ⟨g,0,none⟩) n cap) n:=by
 rcases h with ⟨h,_⟩|⟨q,b,c,l,m⟩
 .cases h
 .simp only [Value.slice.injEq,Option.some.injEq,Addr.mk.injEq,and_true,true_and] at c;obtain ⟨rfl,rfl⟩:=c;refine Or.inr ⟨g,cap,rfl,by simpa [World.setCell] using l,fun j o=>?_⟩;obtain ⟨x,d,f,p⟩:=m j o;by_cases a:k=j
  .subst a;exact ⟨s,Bc d,by rw [Ag];exact f,i⟩
  .exact ⟨x,(Ad (Or.inr a)).trans d,by rw [Ag];exact f,p⟩
theorem Di.made {w:World} {base g n:Nat} (h:w.ownsRow base 9 1 (.slice (some ⟨g,0,none⟩) n n) n (madeCells #[Value.string ByteArray.empty] n).toList):Di w (.slice (some ⟨g,0,none⟩) n n) n:=by
 refine Or.inr ⟨g,n,rfl,(World.ownsRow.lt h g rfl).2,fun j a=>⟨ByteArray.empty,?_,World.ownsRow.frozenAt h j,ji⟩⟩;rw [World.ownsRow.cellAt h j jo,toList_madeCells_one,List.getElem?_replicate,if_pos jo]
theorem CN.fresh {w:World} {p:Nat} {a:Int} {f c:Value} {l b:Int} {i:Value} {r:Nat} {m:Bool} {d k:World} {x y:Int} {n:Nat} (h:CN w p a f c l b i r m d) (s:Aj x) (t:Aj y) (u:n<=65535) (o:Aa ((d.setCell ⟨p,2,none⟩ (.int .i64 x)).setCell ⟨p,3,none⟩ (.int .i64 y)) k)
  (v:Di k (.slice (some ⟨d.heap.size,0,none⟩) n n) n) (C:p<d.heap.size):CN w p a f c x y (.slice (some ⟨d.heap.size,0,none⟩) n n) n m (k.setCell ⟨p,4,none⟩ (.slice (some ⟨d.heap.size,0,none⟩) n n)):=by
 obtain ⟨q,z,D,E,F,G,H⟩:=h;have A:Ab (p::c.ownBlock.toList) w k:=((q.put (p:=⟨p,2,none⟩) (Or.inl js) _).put (p:=⟨p,3,none⟩) (Or.inl js) _).step o;refine ⟨A.put (Or.inl js) _,(((z.put0.1 x).put0.2.1 y).later o).put0.2.2.1 _,s,t,v.put (by simp [Value.ownBlock];omega) _,u,fun g B=>?_⟩;simp [Value.ownBlock] at B;have:=q.size;exact ⟨jo,Or.inr jo⟩
theorem CN.piece {w:World} {p:Nat} {b:Int} {f d:Value} {i c:Int} {g n cap:Nat} {t:Bool} {o l:World} {k:Nat} {s:ByteArray} (h:CN w p b f d i c (.slice (some ⟨g,0,none⟩) n cap) n t o) (u:s.size<=48) (m:Aa (o.setCell ⟨p,5,none⟩ (.bool false)) l):
  CN w p b f d i c (.slice (some ⟨g,0,none⟩) n cap) n false (l.setCell ⟨g,k,none⟩ (.string s)):=by
 obtain ⟨v,x,y,z,A,B,q⟩:=h;obtain ⟨r,C⟩:=q g rfl;have D:Ab (p::d.ownBlock.toList) w l:=(v.put (p:=⟨p,5,none⟩) (Or.inl js) _).step m;refine ⟨D.put ?_ _,(((x.put0.2.2.2.1 false).later m).other r _),y,z,((A.put (a:=⟨p,5,none⟩) (by simpa [Value.ownBlock] using r) _).later m).set k s u,B,q⟩;rcases C with h|h
 .exact Or.inl (by simp [h])
 .exact Or.inr h
theorem CN.over {w:World} {p:Nat} {a:Int} {c d:Value} {i b:Int} {f:Value} {m:Nat} {k:Bool} {l:World} (h:CN w p a c d i b f m k l):
  CN w p a c d 0 b (.slice none 0 0) 0 k ((l.setCell ⟨p,2,none⟩ (.int .i64 0)).setCell ⟨p,4,none⟩ (.slice none 0 0)):=by
 obtain ⟨n,o,s,q,t,u,v⟩:=h;exact ⟨(n.put (p:=⟨p,2,none⟩) (Or.inl js) _).put (p:=⟨p,4,none⟩) (Or.inl js) _,(o.put0.1 0).put0.2.2.1 _,⟨ji,ji⟩,q,Or.inl ⟨rfl,rfl⟩,jo,fun g r=>by cases r⟩
theorem CN.holds {w:World} {p:Nat} {a:Int} {m r:Value} {s d:Int} {D:Bool} {k:World} {q:Nat} {c:Ac} {l:Int} {B:List BK} {E:List EN} {b:Nat} (h:CN w p a m r s d (.slice none 0 0) 0 D k) (I:CL b k q c l B E) (F:w.heap.size<=b) (hp:p<w.heap.size) (J:Dh c l B E) (K:∀x∈E,Af x.2.1/\Af x.2.2):
  Jy w p a m r (.returned (.tuple #[])) (k.setCell ⟨p,1,none⟩ (.pointer (some ⟨q,0,none⟩))):=by
 obtain ⟨L,M,N,O,P,Q,R⟩:=h;refine ⟨rfl,.pointer (some ⟨q,0,none⟩),.slice none 0 0,l,s,d,0,D,⟨L.put (Or.inl js) _,M.put0.2.2.2.2 _,N,O,P.put (by simp [Value.ownBlock]) _,Q,R⟩,Or.inr ⟨q,c,B,E,rfl,rfl,?_,J,K⟩⟩;obtain ⟨S,T,⟨⟨U,V,W,X,Y,Z⟩,h6,h7,h8,h9,t⟩,r1,G,H⟩:=I;have f:∀o:Nat,(k.setCell ⟨p,1,none⟩ (.pointer (some ⟨q,0,none⟩))).cell? ⟨q,o,none⟩=k.cell? ⟨q,o,none⟩:=fun o=>Ad (Or.inl jv)
 have i:∀{v:Value} {n:Nat} {y:List Value},Ap k v n y->(∀g,v.ownBlock=some g->b<=g)->Ap (k.setCell ⟨p,1,none⟩ (.pointer (some ⟨q,0,none⟩))) v n y:=fun {v n y} z hn=>by
  rcases z with z|⟨g,cap,rfl,A,C,hc⟩
  .exact Or.inl z
  .have aa:=hn g rfl;refine Or.inr ⟨g,cap,rfl,A,by simpa [World.setCell] using C,fun j u hu=>(Ad (Or.inl jv)).trans (hc j u hu)⟩
 exact ⟨S,T,⟨⟨(f 0).trans U,(f 1).trans V,(f 2).trans W,(f 3).trans X,(f 4).trans Y,(f 5).trans Z⟩,(f 6).trans h6,(f 7).trans h7,(f 8).trans h8,i h9 G,i t H⟩,jo,fun g l=>jX F (G g l),fun g l=>jX F (H g l)⟩
theorem Yz (p:Nat) (d:Int) (x:Value) (I t l:Int) (m:Value) (Z:Nat) (no:Bool) (y:ByteArray) (w:World) (h:BX w p d x t l m no) (hh:Do w x I) (aa:Aj t) (ab:Aj l) (Q:Di w m Z) (ac:Z<=65535) (J:∀g,m.ownBlock=some g->g≠p) (a8:y.size<=1099511627776):
  Calls Tryz.prog 80 #[.pointer (some ⟨p,0,none⟩),.string y] w (Jy w p d x m):=by
 have a9:p<w.heap.size:=World.block_lt_of_cell? w _ h.1.1;have ad:Hid (CN w p d x m t l m Z no w):=⟨Ab.refl _ _,h,aa,ab,Q,ac,fun g I=>⟨J g I,Or.inl I⟩⟩;have HH:=jp hh;clear h hh aa ab Q ac J;obtain ⟨i0,hi,ba,K,L⟩:=info_parts Tryz.infoStr;go_enter Tryz.func80,Tryz.ntmps80;go_wp2_with fail;refine (KD y _ a8).mono ?_;rintro e w1 ⟨a,ok,rfl,W,ha, -⟩;have f:=jp (ad.out.later W);have ae:=jp (HH.out.later W);clear ad HH W;cases ok
 .go_wp2;(first|((try simp only [Exit.inBlock,Exit.then]);refine bodyPost_ret (results_none rfl _ _ _) rfl ?_)|go_end0);exact f.out.done
 by_cases h2:a.size<2
 .have af:decide ((a.size:Int)<2)=true:=jL (by omega);go_wp2;(first|((try simp only [Exit.inBlock,Exit.then]);refine bodyPost_ret (results_none rfl _ _ _) rfl ?_)|go_end0);exact f.out.done
 have af:decide ((a.size:Int)<2)=false:=jK (by omega);have ag:=D4 a 0 (by omega);cases hA:(((a[0]'(by omega)).toNat:Int) !=65)
 rotate_left
 .go_wp2;(first|((try simp only [Exit.inBlock,Exit.then]);refine bodyPost_ret (results_none rfl _ _ _) rfl ?_)|go_end0);exact f.out.done
 have ah:=D4 a 1 (by omega);by_cases bb:a.size=2
 .have R:((a.size:Int)==2)=true:=by rw [bb];rfl
  obtain ⟨c0,c1,c2,c3,c4,c5⟩:=f.out.2.1.1;have f5:=f.out.2.1.2 5
  have HP:Hid (∀b:Bool,CN w p d x m t l m Z b (w1.setCell ⟨p,5,none⟩ (.bool b))):=fun b=>by
   obtain ⟨q1,q2,q3,q4,q5,q6,q7⟩:=f.out;exact ⟨q1.put (Or.inl (by simp)) _,q2.put0.2.2.2.1 b,q3,q4,q5.put (fun e=>(q7 _ e).1 rfl) _,q6,q7⟩
  go_wp2
  all_goals (first|((try simp only [Exit.inBlock,Exit.then]);refine bodyPost_ret (results_none rfl _ _ _) rfl ?_)|go_end0)
  all_goals first|exact f.out.done|exact (HP.out _).done
 have R:((a.size:Int)==2)=false:=by rw [jI];omega
 cases hB:(((a[1]'(by omega)).toNat:Int) !=1)
 rotate_left
 .go_wp2;(first|((try simp only [Exit.inBlock,Exit.then]);refine bodyPost_ret (results_none rfl _ _ _) rfl ?_)|go_end0);exact f.out.done
 by_cases bp:a.size<12
 .have S:decide ((a.size:Int)<12)=true:=jL (by omega);go_wp2;(first|((try simp only [Exit.inBlock,Exit.then]);refine bodyPost_ret (results_none rfl _ _ _) rfl ?_)|go_end0);exact f.out.done
 have S:decide ((a.size:Int)<12)=false:=jK (by omega);by_cases bq:59<a.size
 .have T:decide ((a.size:Int)>59)=true:=jL (by omega);go_wp2;(first|((try simp only [Exit.inBlock,Exit.then]);refine bodyPost_ret (results_none rfl _ _ _) rfl ?_)|go_end0);exact f.out.done
 have T:decide ((a.size:Int)>59)=false:=jK (by omega);have K:(a.extract 2 6).size=4:=by simp;omega
 have L:(a.extract 7 9).size=2:=by simp;omega
 have ai:(a.extract 9 11).size=2:=by simp;omega
 have bl:=D4 a 6 (by omega);go_wp2_with fail;refine (Fu _ _ (by omega)).mono ?_;rintro e M ⟨rfl,rfl⟩;have n1:=Jx _ K;generalize BQ (a.extract 2 6).data.toList=n at *;go_wp2_with fail;refine (Fu _ _ (by omega)).mono ?_;rintro e M ⟨rfl,rfl⟩;have n2:=Kg _ 2 (Nat.le_of_eq L);generalize BQ (a.extract 7 9).data.toList=fn at *;go_wp2_with fail;refine (Fu _ _ (by omega)).mono ?_;rintro e M ⟨rfl,rfl⟩;have n3:=Kg _ 2 (Nat.le_of_eq ai);generalize BQ (a.extract 9 11).data.toList=fk at *;obtain ⟨aj,ak⟩:=n2;obtain ⟨al,am⟩:=n3;have an:fn<65536:=by simpa using ak
 have ao:fk<65536:=by simpa using am
 clear ak am K L ai;obtain ⟨o,rfl⟩:=jM aj;obtain ⟨N,rfl⟩:=jM al;have ap:=LC p d x I t l m no w1 f.out.2.1 ae.out;go_wp2_with fail;refine ap.mono ?_;rintro e M ⟨rfl,rfl⟩;clear ap;obtain ⟨c0,c1,c2,c3,c4,c5⟩:=f.out.2.1.1;have aq:(a.extract 11 a.size).size<=48:=by simp;omega
 have bc:=jp aq;clear hA hB ag ah af R S T aq;generalize br:((a[6]'(by omega)).toNat:Int)=fb at *;by_cases e1:n<=I
 .have ar:decide (n<=I)=true:=jL e1;go_wp2;(first|((try simp only [Exit.inBlock,Exit.then]);refine bodyPost_ret (results_none rfl _ _ _) rfl ?_)|go_end0);exact f.out.done
 have ar:decide (n<=I)=false:=jK e1;by_cases e2:n<t
 .have au:decide (n<t)=true:=jL e2;go_wp2;(first|((try simp only [Exit.inBlock,Exit.then]);refine bodyPost_ret (results_none rfl _ _ _) rfl ?_)|go_end0);exact f.out.done
 have au:decide (n<t)=false:=jK e2;by_cases e3:o<=N
 .have av:decide ((N:Int)>=(o:Int))=true:=jL (by omega);go_wp2;(first|((try simp only [Exit.inBlock,Exit.then]);refine bodyPost_ret (results_none rfl _ _ _) rfl ?_)|go_end0);exact f.out.done
 have av:decide ((N:Int)>=(o:Int))=false:=jK (by omega);cases e4:(bits BinOp.and IntKind.i64 fb d==0)
 rotate_left
 .go_wp2;(first|((try simp only [Exit.inBlock,Exit.then]);refine bodyPost_ret (results_none rfl _ _ _) rfl ?_)|go_end0);exact f.out.done
 have bd:o<=65535:=by omega
 have be:N<o:=by omega
 clear aj an al ao;go_upto_if 108 with fail
 go_cut [7] (fun u wc=>u= .int .i64 fb/\∃(A i:Int) (U:Value) (O:Nat),CN w p d x m A i U O no wc)
 case first=>
  by_cases e5:t<n
  .have bf:decide (n>t)=true:=jL e5;have f2:=f.out.2.1.2 2;have f3:=f.out.2.1.2 3;have f4:=f.out.2.1.2 4;have aw:p<w1.heap.size:=jF c0;go_wp2_with (first|(at_make;refine wpList_make_full _ rfl _ _ 36 rfl w1.heap.size 9 i0 (.string ByteArray.empty) 1 Tryz.underlying36 hi ba K _ _ _ _ o rfl rfl rfl rfl ?b2 ?b3 ?b4 ?_))
   case b2=>first|omega|(rw [L];omega)
   case b3=>unfold maxLen;omega
   case b4=>simp [World.setCell]
   intro w3 F ax;have P:=(jD _).grown ax (fun g I=>by cases I);have HF:=jp (f.out.fresh ⟨by have:=n1.1;omega,by have:=n1.2;omega⟩ ⟨by omega,by omega⟩ bd P (Di.made F) aw);have d4:w3.cell? ⟨p,4,none⟩=some m:=P.cell ((Ad (by simp)).trans ((Ad (by simp)).trans c4));have g4:w3.frozen? ⟨p,4,none⟩=false:=P.frozen ((Ad (by simp)).trans ((Ad (by simp)).trans c4)) (by rw [Ag,Ag];exact f4);clear F ax P;go_wp2_with fail;go_meet
   case rel=>exact ⟨rfl,_,_,_,_,HF.out⟩
  .have bf:decide (n>t)=false:=jK e5;go_wp2_with fail;go_meet
   case rel=>exact ⟨rfl,t,l,m,Z,f.out⟩
 case rest=>
  obtain ⟨rfl,A,i,U,O,C⟩:=hcut;have D:=jp C;obtain ⟨d0,d1,d2,d3,d4,d5⟩:=C.2.1.1;have ay:=C.2.2.2.2.1;have az:=jp C.2.1.2;clear C f ae c0 c1 c2 c3 c4 c5 e4 ar au av;generalize wc=M at *;cases e6:(fb !=i)
  rotate_left
  .rcases ay with ⟨rfl,rfl⟩|⟨g,cap,rfl, -, -⟩
   all_goals
    go_wp2;(first|((try simp only [Exit.inBlock,Exit.then]);refine bodyPost_ret (results_none rfl _ _ _) rfl ?_)|go_end0);exact D.out.done
  rcases ay with ⟨rfl,rfl⟩|⟨g,cap,rfl,bs,G⟩
  .have e7:((o:Int) !=0)=true:=by rw [bne_iff_ne];omega
   go_wp2;(first|((try simp only [Exit.inBlock,Exit.then]);refine bodyPost_ret (results_none rfl _ _ _) rfl ?_)|go_end0);exact D.out.done
  by_cases h7:o=O
  rotate_left
  .have e7:((o:Int) !=(O:Int))=true:=by rw [bne_iff_ne];omega
   go_wp2;(first|((try simp only [Exit.inBlock,Exit.then]);refine bodyPost_ret (results_none rfl _ _ _) rfl ?_)|go_end0);exact D.out.done
  subst h7;have e7:((o:Int) !=(o:Int))=false:=by simp
  have f5:=az.out 5;have J:g≠p:=(D.out.2.2.2.2.2.2 g rfl).1;obtain ⟨s0,k0,k1, -⟩:=G N be;have x4:(M.setCell ⟨p,5,none⟩ (.bool false)).cell? ⟨p,4,none⟩=some (.slice (some ⟨g,0,none⟩) o cap):=(Ad (by simp)).trans d4;have xk:(M.setCell ⟨p,5,none⟩ (.bool false)).cell? ⟨g,N,none⟩=some (.string s0):=(Ad (Or.inl J.symm)).trans k0;have fk:(M.setCell ⟨p,5,none⟩ (.bool false)).frozen? ⟨g,N,none⟩=false:=by rw [Ag];exact k1
  have HP:Hid (∀wx,Aa (M.setCell ⟨p,5,none⟩ (.bool false)) wx->CN w p d x m A i (.slice (some ⟨g,0,none⟩) o cap) o false (wx.setCell ⟨g,N,none⟩ (.string (a.extract 11 a.size)))):=fun wx hb=>D.out.piece bc.out hb
  clear G k0 k1 D d0 d1 d2;go_upto_region 18 with fail
  generalize M.setCell ⟨p,5,none⟩ (.bool false)=w3 at *;have bg:p<w3.heap.size:=jF x4;have a0:g<w3.heap.size:=jF xk;go_cut [9] (fun u wc=>u= .int .i64 (N:Int)/\CN w p d x m A i (.slice (some ⟨g,0,none⟩) o cap) o false wc)
  case first=>
   go_region_with fail
   all_goals
    go_wp2_with fail;go_meet
    case rel=>first|exact ⟨rfl,HP.out _ (by (repeat (first|exact jD _|assumption|refine jA ?_|refine jB ?_|refine jC ?_|refine Aa.step_set ?_ (by simp <;>omega) _|refine jE ?_ (by assumption))))⟩|exact ⟨rfl,(HP.out _ (by (repeat (first|exact jD _|assumption|refine jA ?_|refine jB ?_|refine jC ?_|refine Aa.step_set ?_ (by simp <;>omega) _|refine jE ?_ (by assumption))))).later (by (repeat (first|exact jD _|assumption|refine jA ?_|refine jB ?_|refine jC ?_|refine Aa.step_set ?_ (by simp <;>omega) _|refine jE ?_ (by assumption))))⟩
  case rest=>
   obtain ⟨rfl,C⟩:=hcut;clear x4 xk fk HP bg a0 d3 d4 d5 az f5;generalize wc=w4 at *;have a1:=jp C;obtain ⟨d0,d1,d2,d3,d4,d5⟩:=C.2.1.1;have f1:=C.2.1.2 1;have f2:=C.2.1.2 2;have f4:=C.2.1.2 4
   obtain G:∀j,j<o->∃s:ByteArray,w4.cell? ⟨g,j,none⟩=some (.string s)/\s.size<=48:=fun j hj=>by
    rcases C.2.2.2.2.1 with ⟨h,_⟩|⟨g',bm,hv, -,hc⟩
    .cases h
    .simp only [Value.slice.injEq,Option.some.injEq,Addr.mk.injEq,and_true,true_and] at hv;obtain ⟨rfl, -⟩:=hv;obtain ⟨s,h1, -,h3⟩:=hc j hj;exact ⟨s,h1,h3⟩
   have a2:=jp G;clear C G;go_wp2;go_loopg [11,12,13] o (fun r va vw vi wr=>w4=wr/\∃(k:Nat) (z:ByteArray) (wh:Bool),r=o - k/\k<=o/\va= .string z/\vw= .bool wh/\vi= .int .i64 k/\z.size<=48 * k)
   case atStart=>exact ⟨rfl,0,_,true,by omega,by omega,rfl,rfl,rfl,by decide⟩
   case round=>
    obtain ⟨rfl,k,z,wh,bt,hk,rfl,rfl,rfl,bn⟩:=hrel;by_cases bh:k<o
    .have bi:decide ((k:Int)<(o:Int))=true:=jL (by omega);obtain ⟨s1,q1,q2⟩:=a2.out k bh;have bo:(k:Int)<(o:Int):=by omega
     have a3:Hid ((z++s1).size<=48 * (k+1)):=by show (z++s1).size<=_;rw [jY];omega
     cases hw:wh
     .go_wp2;go_roundg (o - (k+1))
      case measure=>omega
      case rel=>exact ⟨rfl,k+1,_,_,rfl,by omega,rfl,rfl,by go_num,a3.out⟩
     .go_wp2
      all_goals
       go_roundg (o - (k+1))
       case measure=>omega
       case rel=>exact ⟨rfl,k+1,_,_,rfl,by omega,rfl,rfl,by go_num,a3.out⟩
    .have bi:decide ((k:Int)<(o:Int))=false:=jK (by omega);cases wh
     .go_wp2;(first|((try simp only [Exit.inBlock,Exit.then]);refine bodyPost_ret (results_none rfl _ _ _) rfl ?_)|go_end0);exact a1.out.done
     .have a4:=jp a1.out.over;have bj:z.size<=1099511627776:=by omega
      have V:=a4.out.1.size;have a5:=jp V;clear V a2;go_wp2_with fail;refine (L7 z _ bj).mono ?_;rintro e w6 ⟨v,rf,ok,rfl,bk,X⟩;have H:=jp (a4.out.later bk);cases ok
      .clear X;go_wp2
       all_goals (first|((try simp only [Exit.inBlock,Exit.then]);refine bodyPost_ret (results_none rfl _ _ _) rfl ?_)|go_end0)
       all_goals exact H.out.done
      .obtain ⟨q,c,rg,B,E,rfl,hq,Y,a6,a7,bu,bv, -⟩:=X rfl;have s6:w6.cell? ⟨q,6,none⟩=some (.int .i64 rg):=by obtain ⟨vB,vE,⟨_,h6,_⟩,_⟩:=Y;exact h6
       have HF:=jp (H.out.holds Y a5.out a9 a6 a7);have x1:=H.out.2.1.1.2.1;have y1:=H.out.2.1.2 1;clear X Y a6 a7 d0 d1 d2 d3 d4 d5 f1 f2 f4;go_wp2
       all_goals (first|((try simp only [Exit.inBlock,Exit.then]);refine bodyPost_ret (results_none rfl _ _ _) rfl ?_)|go_end0)
       all_goals first|exact H.out.done|exact HF.out
end Go.Proofs.YtpapdkhjdelfcaaGreat
