import Derived.Test.YtpapdkhjdelfcaaGreatMBE
import Derived.Deep.QuietTactic
import Derived.BigQuiet
namespace Go.Proofs.YtpapdkhjdelfcaaGreat
open Go.RowKit
set_option maxRecDepth 100000
set_option maxHeartbeats 4000000
def Ez (B:List BK) (id:jt) (k:Nat) (a:Bool):Prop:=k<=B.length/\(∀j (h:j<B.length),j<k->AO B[j].1 id=true)/\(∀h:k<B.length,AO B[k].1 id=false)/\(a=true↔∃h:k<B.length,B[k].1=id)
def S9 (w:jj) (B:List BK) (id:jt) (e:Ending) (w':jj):Prop:=∃(k:Nat) (a:Bool),e= .returned (.tuple #[.int .i64 k,.bool a])/\Aa w w'/\Ez B id k a
theorem XI (B:List BK) (p:ju) (id:jt) (w:jj) (z:Am w p B) (E:B.length<=8):
  Calls Tryz.prog 110 #[p,.string id] w (S9 w B id):=by
 obtain ⟨A,u,rfl,f⟩:∃v cap,p= .slice v B.length cap/\∀j (l:j<B.length),∃g,v=some ⟨g,0,none⟩/\w.cell? ⟨g,j * 2,none⟩=some (.string B[j].1):=by
  rcases z.form with ⟨rfl,rfl⟩|⟨g,cap,rfl,_,_,C⟩
  .exact ⟨_,_,rfl,fun j l=>by simp at l⟩
  .exact ⟨_,_,rfl,fun j l=>⟨g,rfl,(C j l).1⟩⟩
 go_enter Tryz.func110,Tryz.ntmps110;go_wp2;go_loopg [6] B.length (fun r n wr=>w=wr/\∃k:Nat,r=B.length - k/\k<=B.length/\n= .int .i64 k/\∀j (h:j<B.length),j<k->AO B[j].1 id=true)
 case atStart=>exact ⟨rfl,0,jo,jo,rfl,fun j _ h=>by omega⟩
 case round=>
  obtain ⟨rfl,k,F,x,rfl,d⟩:=hrel;have q:Hid (∀j (h:j<B.length),j<k->AO B[j].1 id=true):=d;clear d;by_cases c:k<B.length
  .obtain ⟨g,rfl,G⟩:=f k c;have m:decide ((k:Int)<(B.length:Int))=true:=jL jo;have H:Hid (B[k].1=B[k].1):=rfl;cases b:Op.bytesLess B[k].1.toList id.toList
   .have o:Hid (∀a:Bool,(a=true↔B[k].1=id)->Ez B id k a):=fun a y=>⟨x,q.out,fun h=>b,⟨fun h=>⟨c,y.1 h⟩,fun ⟨_,h⟩=>y.2 h⟩⟩
    have s:Hid (((B[k].1.toList==id.toList)=true)↔B[k].1=id):=FE;clear f;generalize B[k].1=t at *;go_wp2_with fail;go_quiet (fail);go_wp2;go_ret2;exact ⟨k,_,rfl,jq,o.out _ s.out⟩
   .have i:Hid (∀j (h:j<B.length),j<k+1->AO B[j].1 id=true):=fun j h l=>by
     by_cases D:j=k
     .subst D;exact b
     .exact q.out j h jo
    clear f
    generalize B[k].1=t at *
    go_wp2
    go_roundg (B.length - (k+1))
    case measure=>omega
    case rel=>exact ⟨rfl,k+1,rfl,jo,by go_num,i.out⟩
  .have m:decide ((k:Int)<(B.length:Int))=false:=jK jo;go_wp2_with fail;go_quiet (fail);go_wp2;go_ret2;exact ⟨k,_,rfl,jq,x,q.out,fun h=>absurd h c,⟨fun h=>(by cases h),fun ⟨h,_⟩=>absurd h c⟩⟩
theorem Oq (a:Option Addr):a.map (·.add 0)=a:=by cases a <;>rfl
theorem TV (a:jj) (b:Option Addr) (L cap k:Nat) (d:k<=cap):
  (Instr.slice 45 (.slice b L cap) none (some (.int .i64 k)) none).run Tryz.prog a= .ok (.slice b k cap) a:=by
 rw [run_slice_h (P:=Tryz.prog) a 45 b L cap (by kernel_rfl) .i64 _ jo jo];have c:(sizeOf (Tryz.prog.elem 45)).run Tryz.prog a= .ok 2 a:=by kernel_rfl
 rw [c];simp only [Result.andThen,sliced,Int.toNat_natCast,Nat.zero_mul,Oq,ite_self,Nat.sub_zero]
def GI (a:Option Addr) (L cap k:Nat):Value:= .slice (if cap=k then a else a.map (·.add (k * 2))) (L - k) (cap - k)
theorem LW (a:jj) (b:Option Addr) (L cap k:Nat) (c:k<=L):
  (Instr.slice 45 (.slice b L cap) (some (.int .i64 k)) none none).run Tryz.prog a= .ok (GI b L cap k) a:=by
 rw [run_slice_any (P:=Tryz.prog) a 45 b L cap (by kernel_rfl)];have d:(sizeOf (Tryz.prog.elem 45)).run Tryz.prog a= .ok 2 a:=by kernel_rfl
 have f:(Instr.sliceBounds true L cap (some (.int .i64 k)) none none).run Tryz.prog a= .ok (k,L,cap) a:=by
  simp [Instr.sliceBounds,run_sliceBound,go_sem,c]
 rw [f];simp only [Result.andThen,d,sliced,GI]
theorem Qs (B:List BK) (k:Nat):AC (B.take k)=(AC B).take (k * 2):=by
 induction B generalizing k with
 |nil=>simp [AC]
 |cons b B ih=>
  cases k with
  |zero=>simp [AC]
  |succ k=>
   have e:(k+1) * 2=k * 2+1+1:=jo
   have:=ih k;simp only [AC,List.take_succ_cons,List.flatMap_cons,List.cons_append,List.nil_append,e] at this |-;rw [this]
theorem Rk (B:List BK) (k:Nat):AC (B.drop k)=(AC B).drop (k * 2):=by
 induction B generalizing k with
 |nil=>simp [AC]
 |cons b B ih=>
  cases k with
  |zero=>simp
  |succ k=>
   have e:(k+1) * 2=k * 2+1+1:=jo
   have:=ih k;simp only [AC,List.drop_succ_cons,List.flatMap_cons,List.cons_append,List.nil_append,e] at this |-;rw [this]
theorem JR (B:List BK):∀u∈AC B,u.oneCell'=true:=by
 intro u a;simp only [AC,jd,ja,List.not_mem_nil,or_false] at a;obtain ⟨b,_,rfl|rfl⟩:=a <;>rfl
theorem RX {w:jj} {c:Option Addr} {cap k:Nat} {B:List BK} (h:Am w (.slice c B.length cap) B) (m:k<=B.length):Fv w (.slice c k cap) k (AC (B.take k)):=by
 rcases h with ⟨d,n,o⟩|⟨g,f,i,p,q,l⟩
 .simp only [Value.slice.injEq] at d;obtain ⟨rfl,r,rfl⟩:=d;have:k=0:=jo
  subst this;exact Or.inl ⟨rfl,rfl,by simp [AC]⟩
 .simp only [Value.slice.injEq] at i;obtain ⟨rfl, -,rfl⟩:=i;refine Or.inr ⟨_,_,rfl,fun j u b=>?_⟩;have a:(⟨g,0,none⟩:Addr).add j=⟨g,j,none⟩:=by unfold Addr.add;split <;>simp_all
  rw [a];refine l j u ?_;rw [Qs,List.getElem?_take] at b;split at b
  .exact b
  .cases b
theorem Ld {w:jj} {i:Option Addr} {cap k:Nat} {B:List BK} (h:Am w (.slice i B.length cap) B) (o:k<=B.length):Fv w (GI i B.length cap k) (B.length - k) (AC (B.drop k)):=by
 rcases h with ⟨l,p,r⟩|⟨g,m,n,s,t,q⟩
 .simp only [Value.slice.injEq] at l;obtain ⟨rfl,v,rfl⟩:=l;have d:B=[]:=jS p;subst d;have:k=0:=by simpa using o
  subst this;exact Or.inl ⟨by simp [GI],js,by simp [AC]⟩
 .simp only [Value.slice.injEq] at n;obtain ⟨rfl, -,rfl⟩:=n;by_cases a:cap=k
  .have f:k=B.length:=jo
   refine Or.inr ⟨⟨g,0,none⟩,cap - k,by rw [GI,if_pos a],fun j u b=>?_⟩;rw [f] at b;simp [AC] at b
  .refine Or.inr ⟨(⟨g,0,none⟩:Addr).add (k * 2),cap - k,by rw [GI,if_neg a];rfl,fun j u b=>?_⟩
   have c:((⟨g,0,none⟩:Addr).add (k * 2)).add j=⟨g,k * 2+j,none⟩:=by
    unfold Addr.add;split <;>split <;>simp_all
   rw [c];refine q _ u ?_;rw [Rk,List.getElem?_drop] at b;exact b
theorem PL (a:jj) (b:Option Addr) (L cap k:Nat) (d:k<=cap):
  (Instr.slice 83 (.slice b L cap) none (some (.int .i64 k)) none).run Tryz.prog a= .ok (.slice b k cap) a:=by
 rw [run_slice_h (P:=Tryz.prog) a 83 b L cap (by kernel_rfl) .i64 _ jo jo];have c:(sizeOf (Tryz.prog.elem 83)).run Tryz.prog a= .ok 3 a:=by kernel_rfl
 rw [c];simp only [Result.andThen,sliced,Int.toNat_natCast,Nat.zero_mul,Oq,ite_self,Nat.sub_zero]
def GY (a:Option Addr) (L cap k:Nat):Value:= .slice (if cap=k then a else a.map (·.add (k * 3))) (L - k) (cap - k)
theorem PE (a:jj) (b:Option Addr) (L cap k:Nat) (c:k<=L):
  (Instr.slice 83 (.slice b L cap) (some (.int .i64 k)) none none).run Tryz.prog a= .ok (GY b L cap k) a:=by
 rw [run_slice_any (P:=Tryz.prog) a 83 b L cap (by kernel_rfl)];have d:(sizeOf (Tryz.prog.elem 83)).run Tryz.prog a= .ok 3 a:=by kernel_rfl
 have f:(Instr.sliceBounds true L cap (some (.int .i64 k)) none none).run Tryz.prog a= .ok (k,L,cap) a:=by
  simp [Instr.sliceBounds,run_sliceBound,go_sem,c]
 rw [f];simp only [Result.andThen,d,sliced,GY]
theorem UI (B:List EN) (k:Nat):Av (B.take k)=(Av B).take (k * 3):=by
 induction B generalizing k with
 |nil=>simp [Av]
 |cons b B ih=>
  cases k with
  |zero=>simp [Av]
  |succ k=>
   have e:(k+1) * 3=k * 3+1+1+1:=jo
   have:=ih k;simp only [Av,List.take_succ_cons,List.flatMap_cons,List.cons_append,List.nil_append,e] at this |-;rw [this]
theorem Tm (B:List EN) (k:Nat):Av (B.drop k)=(Av B).drop (k * 3):=by
 induction B generalizing k with
 |nil=>simp [Av]
 |cons b B ih=>
  cases k with
  |zero=>simp
  |succ k=>
   have e:(k+1) * 3=k * 3+1+1+1:=jo
   have:=ih k;simp only [Av,List.drop_succ_cons,List.flatMap_cons,List.cons_append,List.nil_append,e] at this |-;rw [this]
theorem Ja (B:List EN):∀u∈Av B,u.oneCell'=true:=by
 intro u a;simp only [Av,jd,ja,List.not_mem_nil,or_false] at a;obtain ⟨b,_,rfl|rfl|rfl⟩:=a <;>rfl
theorem Kc (A B:List EN):Av (A++B)=Av A++Av B:=by simp [Av]
theorem MD {w:jj} {c:Option Addr} {cap k:Nat} {B:List EN} (h:Cl w (.slice c B.length cap) B) (m:k<=B.length):Fv w (.slice c k cap) k (Av (B.take k)):=by
 rcases h with ⟨d,n,o⟩|⟨g,f,i,p,q,l⟩
 .simp only [Value.slice.injEq] at d;obtain ⟨rfl,r,rfl⟩:=d;have:k=0:=jo
  subst this;exact Or.inl ⟨rfl,rfl,by simp [Av]⟩
 .simp only [Value.slice.injEq] at i;obtain ⟨rfl, -,rfl⟩:=i;refine Or.inr ⟨_,_,rfl,fun j u b=>?_⟩;have a:(⟨g,0,none⟩:Addr).add j=⟨g,j,none⟩:=by unfold Addr.add;split <;>simp_all
  rw [a];refine l j u ?_;rw [UI,List.getElem?_take] at b;split at b
  .exact b
  .cases b
theorem Nh {w:jj} {i:Option Addr} {cap k:Nat} {B:List EN} (h:Cl w (.slice i B.length cap) B) (o:k<=B.length):Fv w (GY i B.length cap k) (B.length - k) (Av (B.drop k)):=by
 rcases h with ⟨l,p,r⟩|⟨g,m,n,s,t,q⟩
 .simp only [Value.slice.injEq] at l;obtain ⟨rfl,v,rfl⟩:=l;have d:B=[]:=jS p;subst d;have:k=0:=by simpa using o
  subst this;exact Or.inl ⟨by simp [GY],js,by simp [Av]⟩
 .simp only [Value.slice.injEq] at n;obtain ⟨rfl, -,rfl⟩:=n;by_cases a:cap=k
  .have f:k=B.length:=jo
   refine Or.inr ⟨⟨g,0,none⟩,cap - k,by rw [GY,if_pos a],fun j u b=>?_⟩;rw [f] at b;simp [Av] at b
  .refine Or.inr ⟨(⟨g,0,none⟩:Addr).add (k * 3),cap - k,by rw [GY,if_neg a];rfl,fun j u b=>?_⟩
   have c:((⟨g,0,none⟩:Addr).add (k * 3)).add j=⟨g,k * 3+j,none⟩:=by
    unfold Addr.add;split <;>split <;>simp_all
   rw [c];refine q _ u ?_;rw [Tm,List.getElem?_drop] at b;exact b
theorem Tf {P:Program} {l:Array Oper} {o:Oper} {a:Act} {w:jj} {K:Act->World->Prop} {Q:Exit->Act->World->Prop} {E:Prop}
  (B:o.guard=none) (s x:Operand) (t:TypeId) (p:o.op=Op.call {callee:=Callee.builtin Builtin.append,args:=#[s,x],argTypes:=#[t,t]})
  (base:Nat) (e:TypeId) (i:TypeInfo) (z:ju) (b f:Nat) (C:P.underlying t=some (.slice e)) (D:P.info? e=some i) (J:i.zero=some z) (L:i.size=b) (M:i.bytes=f) (N:z.cells.size=b) (O:0<b)
  (v:ju) (n:Nat) (y:List Value) (F:a.eval s=v) (g:w.ownsRow base e b v n y)
  (G:ju) (m:Nat) (d:List Value) (hx:a.eval x=G) (q:Fv w G m d) (R:d.length=m * b) (A:∀u∈d,u.oneCell'=true)
  (S:n+m<=maxLen) (T:(n+m) * f<=140737488355328) (k:base<=w.heap.size)
  (H:∀I w',w'.ownsRow base e b I (n+m) (y++d)->w.grownBy w' v.ownBlock->K (a.put o.dst I) w'):
  if Region.wanted o (yielded l a.tmps)=true then Oper.wp P o a w K Q else E:=by
 rcases q with ⟨rfl,rfl,rfl⟩|⟨U,c,rfl,V⟩
 .have W:Region.wanted o (yielded l a.tmps)=true:=by simp [Region.wanted,B]
  rw [if_pos W];have r:=run_append_owned_none (P:=P) (w:=w) base t o.type e i b C D v n y g;unfold Oper.wp;simp [execOp,p,resolve,invoke,builtin,F,hx,r,Result.andThen];exact H v w (by simpa using g) (World.grownBy.refl w _)
 .exact KB B s x t p base e i z b f C D J L M N O v n y F g U m c d hx R V A S T k H
theorem Pj {w:jj} {base:Nat} {v:ju} {L:List EN} (h:w.ownsRow base 146 3 v L.length (Av L)):∃b cap,v= .slice b L.length cap/\L.length<=cap/\Cl w (.slice b L.length cap) L:=by
 have a:Cl w v L:=Ap.of_owns h;rcases a.form with ⟨rfl,rfl⟩|⟨g,cap,rfl,c,_⟩
 .exact ⟨none,0,rfl,js,a⟩
 .exact ⟨_,cap,rfl,c,a⟩
def IL (W:jj) (B:List BK) (n:Nat) (v:ju) (L:List EN) (wr:jj):Prop:=Aa W wr/\wr.ownsRow W.heap.size 146 3 v L.length (Av L)/\(∀x∈L,DZ B x)/\L.length<=n
theorem IL.later {W:jj} {B:List BK} {n:Nat} {v:ju} {L:List EN} {wr a:jj} (h:IL W B n v L wr) (b:Aa wr a):IL W B n v L a:=⟨h.1.trans b,I6 h.2.1 b,h.2.2⟩
def D7 (key:jt) (letter:UInt8) (a:Int) (B:List BK) (m:Nat) (L:List EN):Prop:=L.map Fj=(BN (AW key letter a B B.length) m).map (F7 B)
def KE (H:Int) (L:List EN) (t:Nat):Prop:=(∀j (h:j<L.length),j<t->wv L[j].2.1 L[j].2.2<=H)/\∀h:t<L.length,H<wv L[t].2.1 L[t].2.2
theorem D7.step {key:jt} {letter:UInt8} {a:Int} {B:List BK} {i k:Nat} {L:List EN} {t:Nat} {X Y:Int} (h:D7 key letter a B ((AW key letter a B i).length+k) L) (g:i<B.length) (l:k<(a * B[i].2).toNat) (m:t<=L.length) (b:KE (Al key letter [k] B[i].1) L t) (c:wv X Y=Al key letter [k] B[i].1):
  D7 key letter a B ((AW key letter a B i).length+(k+1)) (L.take t++[(B[i].1,X,Y)]++L.drop t):=by
 unfold D7 at *;have n:=U0 (RY (key:=key) (letter:=letter) (each:=a) i k g l);rw [<-Nat.add_assoc,n,Qb (F7 B) (fun _=>rfl),<-h]
 have o:F7 B (Al key letter [k] B[i].1,(i:Int))=Fj (B[i].1,X,Y):=by
  unfold F7 Fj;simp only;rw [IY g,c]
 rw [o,<-Nw (Fj (B[i].1,X,Y)) (L.map Fj) t (by simpa using m) (fun j d f=>?_) (fun d=>?_)]
 .simp [List.map_take,List.map_drop]
 .have:=b.1 j (by simpa using d) f;rw [<-c] at this;simp only [Fj,List.getElem_map];omega
 .have:=b.2 (by simpa using d);rw [<-c] at this;simp only [Fj,List.getElem_map];exact this
theorem D7.next {key:jt} {letter:UInt8} {a:Int} {B:List BK} {i k:Nat} {L:List EN} (h:D7 key letter a B ((AW key letter a B i).length+k) L) (b:i<B.length) (c:k=(a * B[i].2).toNat):D7 key letter a B (AW key letter a B (i+1)).length L:=by
 rw [SN b,<-c];exact h
def KC (w:jj) (c:Ac) (B:List BK) (letter:UInt8) (a:Int) (e:Ending) (w':jj):Prop:=∃(v:ju) (E:List EN),e= .returned v/\Aa w w'/\Dz w.heap.size w' v E/\E.length<=140000/\(∀x∈E,DZ B x)/\(¬EV c->E=[]\/(E.length:Int)=c.slots)/\E.map Fj=(Dk c.key letter a B).map (F7 B)
theorem TJ {key:jt} {letter:UInt8} {a:Int} {B:List BK} (c:AL B) (h:As B<1):Dk key letter a B=[]:=by
 have d:∀n,n<=B.length->AW key letter a B n=[]:=by
  intro n
  induction n with
  |zero=>intro _;rfl
  |succ n ih=>
   intro k;rw [JV jo,ih jo]
   have f:B[n].2=0:=by
    have l:=(c.2 _ (jJ (show n<B.length by omega))).2.2.1;rcases Int.lt_or_le 0 B[n].2 with g|g
    .have:=Mu (jJ (show n<B.length by omega)) jo (fun b i=>(c.2 b i).2.2.1);omega
    .omega
   simp [DD,f]
 unfold Dk;rw [d _ (jH _)];rfl
theorem NH (c:Ac) (vB:ju) (B:List BK) (letter:UInt8) (d:Int) (w:jj) (hc:c.OK) (hP:Am w vB B) (hB:AL B) (bu:0<=d) (bv:d<=3) (ba:EV c):
  Calls Tryz.prog 164 #[.agg c.cells,vB,.string ⟨#[letter]⟩,.int .i64 d] w (KC w c B letter d):=by
 obtain ⟨N,o⟩:∃x:jt,x=⟨#[letter]⟩:=⟨_,rfl⟩;rw [<-o];have bw:=jp o;have cu:N.size<=10:=by rw [o];show (1:Nat)<=10;decide
 clear o;obtain ⟨PF,aj⟩:∃X,X=(Dk c.key letter d B).map (F7 B):=⟨_,rfl⟩;have bb:=jp aj;unfold KC;rw [<-aj];clear aj;obtain ⟨i0,hi,ak,al,am⟩:=info_parts Tryz.infoEN;have ad:c.key.size=16:=hc.2.2.2.2.2.2.2.2.2.1;obtain ⟨cv,co,rfl,bc⟩:=hP.open;obtain ⟨h8,ae⟩:=hB;have bd:=jp ae;have bx:=jp bc;have bz:=jp ba;clear hP ae bc hc ba;obtain ⟨alg,D,s,y,key,m⟩:=c;simp only at ad bb;simp only [Ac.cells];go_enter Tryz.func164,Tryz.ntmps164;go_wp2;have an:(w.alloc (.cells #[.int .i64 alg,.int .i64 D,.int .i64 s,.int .i64 y,.string key,.int .i64 m] 30)).cell? ⟨w.heap.size,4,none⟩=some (.string key):=by simp
 have z:Aa w (w.alloc (.cells #[.int .i64 alg,.int .i64 D,.int .i64 s,.int .i64 y,.string key,.int .i64 m] 30)):=jq
 generalize w.alloc (.cells #[.int .i64 alg,.int .i64 D,.int .i64 s,.int .i64 y,.string key,.int .i64 m] 30)=W at *;generalize be:w.heap.size=px at *;have cw:Hid (w.heap.size=px):=be;clear be;go_loopg [9,10] B.length (fun r v i wr=>∃(k:Nat) (L:List EN),r=B.length - k/\k<=B.length/\i= .int .i64 k/\IL W B (18 * k) v L wr/\D7 key letter d B (AW key letter d B k).length L)
 case atStart=>exact ⟨0,[],by omega,by omega,rfl,⟨jD _,World.ownsRow_nil _ _ _ _,fun x hx=>(by cases hx),by simp⟩,rfl⟩
 case round=>
  obtain ⟨i,L0,hr,cx,rfl,O,hQ⟩:=hrel;have ap:=jp hQ;clear hQ;have aq:=jp O;by_cases P:i<B.length
  .have b2:decide ((i:Int)<(B.length:Int))=true:=jL (by omega);obtain ⟨gB,rfl,b0,b1⟩:=bx.out i P;obtain ⟨a1,a2,a3,a4⟩:=bd.out _ (jJ P);have bf:Hid (∃b∈B,b.1=B[i].1):=⟨B[i],jJ P,rfl⟩;have b3:=z.cell b0;have b4:=z.cell b1;clear b0 b1 O;have b5:Hid (∀(k:Nat) (L:List EN) (t:Nat) (X Y:Int),D7 key letter d B ((AW key letter d B i).length+k) L->k<(d * B[i].2).toNat->t<=L.length->KE (Al key letter [k] B[i].1) L t->wv X Y=Al key letter [k] B[i].1->D7 key letter d B ((AW key letter d B i).length+(k+1)) (L.take t++[(B[i].1,X,Y)]++L.drop t)):=fun k L t X Y h1 h2 h3 h4 h5=>h1.step P h2 h3 h4 h5
   have b6:Hid (∀(k:Nat) (L:List EN),D7 key letter d B ((AW key letter d B i).length+k) L->k=(d * B[i].2).toNat->D7 key letter d B (AW key letter d B (i+1)).length L):=fun k L h1 h2=>h1.next P h2
   generalize B[i].1=l at *;generalize B[i].2=wt at *
   have Q:∃M:Nat,d * wt=(M:Int)/\M<=18:=by
    have h1:0<=d * wt:=Int.mul_nonneg bu a3;have h2:d * wt<=3 * 6:=Int.mul_le_mul bv a4 a3 (by omega);exact ⟨(d * wt).toNat,by omega,by omega⟩
   obtain ⟨M,Q,b7⟩:=Q;have cp:wrap64 (d * wt)=(M:Int):=by rw [Q];unfold wrap64;omega
   have bg:=jp Q;clear Q;go_wp2;go_loopg [9,11] M (fun r v q wr=>∃(k:Nat) (L:List EN),r=M - k/\k<=M/\q= .int .i64 k/\IL W B (18 * i+k) v L wr/\D7 key letter d B ((AW key letter d B i).length+k) L)
   case atStart=>exact ⟨0,L0,by omega,by omega,rfl,aq.out,ap.out⟩
   case round=>
    clear aq ap;obtain ⟨q,L,cy,hq,rfl,O,hQ⟩:=hrel;have HQ:=jp hQ;clear hQ;have bh:=O.1.cell b3;have b8:=O.1.cell b4;have x4:=O.1.cell an;by_cases cz:q<M
    .have b9:decide ((q:Int)<(M:Int))=true:=jL (by omega);have HI:=jp O;clear O;go_wp2_with fail;refine (Ka _ 2 _ (by omega) (by omega) (by decide)).mono ?_;rintro e w1 ⟨a,rfl,Z,ha⟩;have HA:Hid (a=DF q 2):=ha;have c6:a.size=2:=by rw [HA.out,Hm];rfl
     obtain ⟨E,ar⟩:∃X,X=Al key letter [q] l:=⟨_,rfl⟩;have bi:=jp ar
     have ca:Hid (Cs key ((N++a)++l)=E):=by
      show Cs key _=E;rw [HA.out,bw.out,ar];exact Og key letter q l
     clear ar;have bj:=jp (HI.out.later Z);have au:=Z.cell bh;have bk:=Z.cell x4;have av:gB<w1.heap.size:=jF au;have aw:px<w1.heap.size:=jF bk;clear ha bh b8 x4 HI Z;go_upto_region 9 with fail
     go_cut [13] (fun u13 wc=>AX w1.heap.size wc u13 E/\Aa w1 wc)
     case first=>
      go_region_with (go_at_call 114;refine (F2 _ _ _ ad (by simp only [jY];omega)).mono ?_;rintro e w4 ⟨z0,z1,rfl,n,g0,g1,ez⟩;obtain ⟨bl,bm⟩:=n.cells)
      all_goals
       have EZ:Hid (wv z0 z1=E):=by
        have cb:wv z0 z1=Cs key ((N++a)++l):=ez;show wv z0 z1=E;rw [cb,ca.out]
       clear ez;go_wp2;go_meet
       case rel=>
        have ax:Aa w1 w4:=jq
        first
         |exact ⟨AX.new ax.size g0 g1 EZ.out _,ax.step_alloc _⟩
         |exact ⟨AX.stored (jH _) ((bl _ _ (by simp)).trans (by simp;rfl)) ((bl _ _ (by simp)).trans (by simp;rfl)) ((bm _ _ (by simp)).trans (by simp)) ((bm _ _ (by simp)).trans (by simp)) g0 g1 EZ.out,(ax.step_set (p:=⟨w1.heap.size,0,none⟩) (jH _) _).step_set (p:=⟨w1.heap.size,1,none⟩) (jH _) _⟩
     case rest=>
      obtain ⟨f,ay⟩:=hcut;obtain ⟨aa,X,Y,rfl,cq,c0,c1, -, -,hX,hY,af⟩:=f;have ag:=jp af;clear af;have ab:=bj.out.later ay;have bn:=ay.cell au;have az:=jp ab;obtain ⟨ao,cap,rfl,cr,hE⟩:=Pj ab.2.1;have cc:L.length<=200:=by have:=ab.2.2.2;omega
      clear ab bj ay au bk av aw;generalize wc=w2 at *;go_upto_region 11 with fail
      go_cut [15] (fun u wc=>w2=wc/\u= .int .i64 0)
      case first=>
       go_wp2;go_meet
       case rel=>exact ⟨rfl,rfl⟩
      case rest=>
      obtain ⟨rfl,rfl⟩:=hcut;go_step;go_step;go_cut [15] (fun u wc=>Aa w2 wc/\∃t:Nat,t<=L.length/\u= .int .i64 t/\KE E L t)
      case first=>
       go_wp2;go_loopg [15] L.length (fun r va wx=>Aa w2 wx/\∃t:Nat,t<=L.length/\r=L.length - t/\va= .int .i64 t/\∀j (h:j<L.length),j<t->wv L[j].2.1 L[j].2.2<=E)
       case atStart=>exact ⟨jD _,0,by omega,by omega,rfl,fun j h hj=>by omega⟩
       case round=>
        obtain ⟨f,t,ht,c7,rfl,F⟩:=hrel;have a0:=jp F;clear F;by_cases R:t<L.length
        .have cd:decide ((t:Int)<(L.length:Int))=true:=jL (by omega);rcases hE.form with ⟨-,bo⟩|⟨g,cs,hv, -, -,bp⟩
         .rw [bo] at R;simp at R
         simp only [Value.slice.injEq,true_and] at hv;obtain ⟨rfl,rfl⟩:=hv;obtain ⟨-,e1,e2⟩:=bp t R;have d1:=f.cell e1;have d2:=f.cell e2;have d3:=f.cell c0;have d4:=f.cell c1;have av:g<wr.heap.size:=jF d1;have aw:aa<wr.heap.size:=jF d3;clear bp e1 e2 hE;have ce:=az.out.2.2.1 _ (jJ R);obtain ⟨-,cf,cg⟩:=ce
         have a5:Hid (wv L[t].2.1 L[t].2.2<=E->∀j (h:j<L.length),j<t+1->wv L[j].2.1 L[j].2.2<=E):=fun hn j h hj=>by
          by_cases ch:j=t
          .subst ch;exact hn
          .exact a0.out j h (by omega)
         have a6:Hid (E<wv L[t].2.1 L[t].2.2->KE E L t):=fun hn=>⟨a0.out,fun _=>hn⟩
         generalize L[t].2.1=X1 at *;generalize L[t].2.2=Y1 at *;go_upto_region 13 with fail
         generalize wr=J at *;go_cut [16] (fun u wc=>(∃b,u= .bool b/\Co (E<wv X1 Y1) b)/\Aa J wc)
         case first=>
          go_region_with (go_at_call 116;refine (J7 _ _ _ _ _ hX hY cf cg).mono ?_;rintro e w4 ⟨AO,rfl,n,S⟩)
          all_goals
           have ci:Hid (Co (E<wv X1 Y1) AO):=by
            show Co _ _;rw [<-ag.out];exact S
           clear S;go_wp2;go_meet
           case rel=>exact ⟨⟨_,rfl,ci.out⟩,jq⟩
         case rest=>
          obtain ⟨⟨b,rfl,ac⟩,bq⟩:=hcut;have ah:=f.trans bq;cases b
          .have HN := jp (a5.out (by
             rcases Int.lt_or_le E (wv X1 Y1) with h | h
             . have := ac.2 h; cases this
             . exact h))
           clear ac a5 a6
           go_wp2
           go_roundg (L.length - (t+1))
           case measure=>omega
           case rel=>exact ⟨ah,t+1,by omega,rfl,by go_num,HN.out⟩
          .have HN:=jp (a6.out (ac.1 rfl));clear ac a5 a6;go_wp2;go_meet
           case rel=>exact ⟨ah,t,ht,rfl,HN.out⟩
        .have cd:decide ((t:Int)<(L.length:Int))=false:=jK (by omega);go_wp2;go_meet
         case rel=>exact ⟨f,t,ht,rfl,a0.out,fun h=>absurd h R⟩
      case rest=>
       obtain ⟨f,t,ht,rfl,ai⟩:=hcut;have br:=jp ai;clear ai;have a7:=hE.later f;have d0:=f.cell c0;have d1:=f.cell c1;have a8:=f.cell bn;have K:=jp (az.out.later f);clear hE c0 c1 bn az f;generalize wc=J at *;have cj:=fun wx=>PL wx ao L.length cap t (by omega)
       have c8:=fun wx=>PE wx ao L.length cap t ht
       go_wp2_with (first|(at_builtin;refine Fn _ rfl _ _ 83 rfl J.heap.size 146 i0 (.agg #[.string ByteArray.empty,.int .i64 0,.int .i64 0]) 3 32 Tryz.underlying83 hi ak al am rfl (by decide) _ 0 [] rfl ?o1 _ t (Av (L.take t)) rfl ?o2 ?c1 ?c2 ?c3 ?c4 ?c5 ?_))
       case o1=>exact World.ownsRow_nil _ _ _ _
       case o2=>exact MD a7 ht
       case c1=>rw [Iv];simp;omega
       case c2=>exact Ja _
       case c3=>unfold maxLen;omega
       case c4=>omega
       case c5=>exact jH _
       intro v4 w4 T G;have n:Aa J w4:=(jD _).grown G (fun g hg=>by cases hg);have H:w4.ownsRow J.heap.size 146 3 v4 t (Av (L.take t)):=by simpa using T
       have A:=jp H;have f0:=n.cell d0;have f1:=n.cell d1;have bs:=n.cell a8;have ck:=jp (a7.later n);have ct:=n.size;have av:gB<w4.heap.size:=jF bs;have aw:aa<w4.heap.size:=jF f0;clear T H G cj a7;go_upto_region 17 with fail
       go_region_held_law (fun w'=>Aa J w'/\w'.cell? ⟨gB,i * 2,none⟩=some (.string l)/\w'.cell? ⟨aa,0,none⟩=some (.int .i64 X)/\w'.cell? ⟨aa,1,none⟩=some (.int .i64 Y)) ((exact ⟨jq,Aa.cell (a:=J) jq a8,Aa.cell (a:=J) jq d0,Aa.cell (a:=J) jq d1⟩))
        ((refine KB rfl (.tmp 67) (.tmp 75) 83 rfl J.heap.size 146 i0 (.agg #[.string ByteArray.empty, .int .i64 0, .int .i64 0]) 3 32 Tryz.underlying83 hi ak al am rfl (by decide) v4 t (Av (L.take t)) (by simp [Act.eval]) (World.ownsRow.alloc A.out _) ⟨w4.heap.size, 0, none⟩ 1 1 [.string l, .int .i64 X, .int .i64 Y] (by simp [Act.eval]) rfl (FX _ _ _ _ _ _ rfl) (by intro u hu; simp at hu; rcases hu with rfl | rfl | rfl <;> rfl) (by unfold maxLen; omega) (by omega) (by simp; omega) ?_
          intro v5 w5 U C
          have a9 : Aa J w5 := by
            first
            | exact ((n.step_drew).step_alloc _).grown C (fun g hg => (World.ownsRow.lt A.out g hg).1)
            | exact ((n.step_alloc _).step_drew).grown C (fun g hg => (World.ownsRow.lt A.out g hg).1)
          have H5 := jp U
          clear U C))
       all_goals
        have cl:=jp ((K.out.later a9));have cm:Cl w5 (.slice ao L.length cap) L:=Ap.of_owns cl.out.2.1;have bt:=a9.size;clear ck d0 d1 a8 f0 f1 bs;go_wp2_with (first|(at_builtin;refine Fn _ rfl _ _ 83 rfl J.heap.size 146 i0 (.agg #[.string ByteArray.empty,.int .i64 0,.int .i64 0]) 3 32 Tryz.underlying83 hi ak al am rfl (by decide) v5 (t+1) (Av (L.take t)++[.string l,.int .i64 X,.int .i64 Y]) ?p0 H5.out _ (L.length - t) (Av (L.drop t)) rfl ?p1 ?p2 ?p3 ?p4 ?p5 ?p6 ?_))
        case p0=>rfl
        case p1=>exact Nh cm ht
        case p2=>rw [Iv,jh]
        case p3=>exact Ja _
        case p4=>unfold maxLen;omega
        case p5=>omega
        case p6=>exact bt
        intro v6 w6 V I;have cn:Aa J w6:=a9.grown I (fun g hg=>(World.ownsRow.lt H5.out g hg).1)
        have H6:Hid (IL W B (18 * i+(q+1)) v6 (L.take t++[(l,X,Y)]++L.drop t) w6):=by
         have hl:(L.take t++[(l,X,Y)]++L.drop t).length=t+1+(L.length - t):=by simp;omega
         refine ⟨K.out.1.trans cn,?_,?_,?_⟩
         .rw [hl,Kc,Kc];rw [show Av (L.take t)++Av [(l,X,Y)]++Av (L.drop t)=Av (L.take t)++Value.string l::Value.int .i64 X::Value.int .i64 Y::Av (L.drop t) by simp [Av]];exact World.ownsRow.mono V K.out.1.size
         .intro x hx;rcases jT.1 hx with h|h
          .rcases jT.1 h with h|h
           .exact K.out.2.2.1 x (List.mem_of_mem_take h)
           .have:x=(l,X,Y):=by simpa using h
            rw [this];exact ⟨bf.out,hX,hY⟩
          .exact K.out.2.2.1 x (List.mem_of_mem_drop h)
         .rw [hl];have:=K.out.2.2.2;omega
        have H7:Hid (D7 key letter d B ((AW key letter d B i).length+(q+1)) (L.take t++[(l,X,Y)]++L.drop t)):=b5.out q L t X Y HQ.out (by have:=bg.out;omega) ht (by rw [<-bi.out];exact br.out) (by rw [ag.out,bi.out]);clear V I;go_wp2;go_roundg (M - (q+1))
        case measure=>omega
        case rel=>exact ⟨q+1,_,rfl,by omega,by go_num,H6.out,H7.out⟩
    .have b9:decide ((q:Int)<(M:Int))=false:=jK (by omega);obtain rfl:q=M:=by omega
     have HI:=jp O;clear O;go_wp2;go_roundg (B.length - (i+1))
     case measure=>omega
     case rel=>exact ⟨i+1,L,rfl,by omega,by go_num,⟨HI.out.1,HI.out.2.1,HI.out.2.2.1,by have:=HI.out.2.2.2;omega⟩,b6.out q L HQ.out (by have:=bg.out;omega)⟩
  .have b2:decide ((i:Int)<(B.length:Int))=false:=jK (by omega);clear O;go_wp2;go_ret;obtain ⟨s1,s2,s3,s4⟩:=aq.out;obtain rfl:i=B.length:=by omega
   exact ⟨_,L0,rfl,z.trans s1,⟨Ap.of_owns s2,fun g hg=>jX z.size (World.ownsRow.lt s2 g hg).1⟩,by omega,s3,fun h=>absurd bz.out h,by rw [bb.out];exact ap.out⟩
end Go.Proofs.YtpapdkhjdelfcaaGreat
