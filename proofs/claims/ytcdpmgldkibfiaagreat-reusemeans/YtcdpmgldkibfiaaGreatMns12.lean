import Derived.Test.YtcdpmgldkibfiaaGreatMns9
import Derived.Test.YtcdpmgldkibfiaaGreatMns1
namespace Go.Proofs.YtcdpmgldkibfiaaGreat
open Go.RowKit Go.Proofs.Tryz
set_option linter.all false
set_option maxRecDepth 100000
set_option maxHeartbeats 16000000
theorem Vq{c:Cd}{l:List Af}(h:AN c ⟨[],[]⟩ l=true){i:Af}(hi:i∈l):∃L R,l=L++i::R/\Ar c (DG ⟨[],[]⟩ L) i=true:=by
 obtain⟨L,R,rfl⟩:=List.append_of_mem hi;rw[Dk]at h;simp only[Bool.and_eq_true]at h;refine⟨L,R,rfl,?_⟩;have h2:=h.2;unfold AN at h2;simp only[Bool.and_eq_true]at h2;exact h2.1
end Go.Proofs.YtcdpmgldkibfiaaGreat
